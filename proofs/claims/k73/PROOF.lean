import PyProof.Rows.All
import Wide.All
import OpenK.AllK
import Wide.FinOn
import HandS.ForMost
import HandS.Rev
import HandS.TupAny
import HandS.Wide
import PyProof.ReprRoads
import KE.SortData
import HandS.Conv
import HandS.IsInst
import HandS.Style
import KE.GoesMore
import HandS.DictComp
import HandS.TupLe
import HandS.TryOnly
import PyProof.SeqIndex
import HandS.FStr
import HandS.Text
import HandS.StrMore
import HandS.Deep
import HandS.Steps
import HandS.Iter
import HandS.ExcInit
import HandS.ExcField
import HandS.WordsExc
import KE.KExcIs
import KE.KTryMore
import HandS.ExcIs
import HandS.SetFor
import HandS.Zip
import KE.GoesEnum
import PySem.Challenge.RW_treelamps_k73_whole_texts_there_and_back
set_option Elab.async false
set_option linter.all false
set_option maxRecDepth 100000
set_option maxHeartbeats 4000000
namespace TL
open PySem PySem.Spec PyProof.Rows L2

/-! ### defs that show data: they run where no text is being made -/
/-- as the layer's promise of a def, for callers outside of any showing -/
structure FnG (P : Program) (w : World) (K : PySem.W.Frag) (mg : Str → Option Value)
    (base : Heap) (k : Nat) (f : Addr) (fd : FuncData) (ps : List Str) (sp : Sp) : Prop where
  wide : ∀ vs H Q E, sp vs H Q E → vs.length = ps.length
  goes : ∀ (A : Around) (out : List Env) (s : Shared) (H : Hp) (args : Args) (us : List Value)
    (vs : List V) (Q : VK) (E : XK), Room k A → A.guards = some [] →
    Env0 P w K mg base A out s H → BindsTo s fd args (ps.zip us) → Vals vs us → sp vs H Q E →
    codeAny (model P w) A (.call (.ref f) args) (CR CX0 out P w H s Q E) s
section
variable {P : Program} {w : World} {K : PySem.W.Frag} {mg : Str → Option Value} {base : Heap}
theorem FnG.of {k : Nat} {f : Addr} {fd : FuncData} {ps : List Str} {sp : Sp}
    (F : FnOk P w K mg base CX0 k f fd ps sp) : FnG P w K mg base k f fd ps sp :=
  ⟨F.len, fun A out s H args us vs Q E hr _ => F.run A out s H args us vs Q E hr⟩

theorem okG {x qual : Str} {st : Stmt} {f : Addr} {fd : FuncData} {N ps : List Str} {k : Nat} {sp : Sp}
    (F : Fun K x qual st f fd) (S : FnScope N ps (defScope st))
    (len : ∀ vs H Q E, sp vs H Q E → vs.length = ps.length)
    (hb : ∀ (cdv : Value) (A : Around) (out : List Env) (s : Shared) (H : Hp) (vs : List V) (Q : VK) (E : XK),
      Room k (A.deeper (envOfC qual (defScope st) s.heap.objs.size f cdv)) → A.guards = some [] → sp vs H Q E →
      ∃ t, PSs (cxOf CX0 P w K mg base N qual (defScope st) f cdv A out s H E).nox (defBody st) t ∧
        t { nx := fun _ H' => Q .non H', rt := Q } (start N vs) H) :
    FnG P w K mg base (k + 1) f fd ps sp := by
  obtain ⟨oc, od, kV, doc, pm, an, cdv, ct, osl, rfl, lk, hcd⟩ := F.ex
  refine ⟨len, fun A out s H args us vs Q E hr gd e0 bnd r hsp => ?_⟩
  have stays : ∀ b o, base.get? b = some o → s.heap.get? b = some o := fun b o e => (e0.bs b o e).1
  have KX : K.In s.heap := e0.mod.kin.keeps stays
  have nl : s.heap.NoLimit := e0.mod.nolimit.keeps stays
  have kinds : ∀ y ∈ ps.zip us, (defScope st).names.lookup y.1 = some .local ∨
      ((defScope st).names.lookup y.1 = some .cell ∧
        ((cellsFrom (s.heap.objs.size + 1) (defScope st).names []).lookup y.1).isSome = true) := by
    rintro ⟨n, v⟩ hy
    exact (S.par n (List.of_mem_zip hy).1).imp id fun q => ⟨q, PySem.W.cellsFrom_some _ _ _ (.inl q)⟩
  refine codeAny_call_function hr.depth (KX _ _ lk) rfl S.co S.gen rfl
    (PySem.W.codeRec_of KX hcd) (bnd _ _ _ _ ?_)
  refine wpAny_newFunctionEnv_cells S.kind kinds fun env he s1 ic => ?_
  subst he
  refine ⟨nl.keeps ic.toInCall.keep, codeAny_func ?_⟩
  obtain ⟨t, ht, hq⟩ := hb cdv A out s H vs Q E (hr.deeper _) gd hsp
  have J := inv_start (CX := CX0) (E := E) S hr.hd e0 (len _ _ _ _ hsp) r ic
  refine wpAny_mono (ht.nox.run [] s1 (start N vs) H _ J hq) (fun fl s' hs => ?_) fun e s' hs => hs
  match fl, hs with
  | .ret u, ⟨v, σ', H', J', rv, q⟩ => exact ⟨v, H', J'.os, J'.bare, J'.base, J'.hok, rv, q⟩
  | .next, ⟨σ', H', J', q⟩ => exact ⟨V.non, H', J'.os, J'.bare, J'.base, J'.hok, rfl, q⟩
  | .brk, ⟨_, _, _, q⟩ => exact False.elim q
  | .cont, ⟨_, _, _, q⟩ => exact False.elim q
end

section
variable {X : Cx} {k : Nat} {f : Addr} {fd : FuncData} {ps : List Str} {sp : Sp} {x : Str} {p pos : Pos}
  {e : Expr} {es : List Expr} {t : TA}
theorem pe_callG (F : FnG X.prog X.w X.K X.mg X.base k f fd ps sp) (hr : Room k X.A) (gd : X.A.guards = some [])
    (hg : Gl X x) (hm : X.mg x = some (.ref f)) (hk : PySem.W.keepIn X.K (.ref f) = true) (hb : Binds X.K fd ps [])
    (ha : PA X (e :: es) t) (hdb : (x == ("__debug__" : Str)) = false := by decide)
    (he : starEach (e :: es) X.env = (false, eval e X.env) :: starEach es X.env := by rfl)
    (hpl : (backTo pos (starEach es X.env)).any (·.1) = false := by rfl) :
    PE X (.Call (.Name x p) (e :: es) [] pos) (tCall sp [] E0 t) := by
  refine ⟨fun pins s σ H Q I h => wpAny_Call_Name_kw (ld_glob I hg hm ?_ hdb)⟩
  refine PySem.W.callWith_K (h₀ := X.base) I.ok.mod.kin hk
    (thn (ha.run pos pins s σ H _ I h) fun us s1 ⟨vs, H1, I1, r, q⟩ => ⟨I1.kIn, ?_⟩) he hpl
  have q1 : sp (vs ++ []) H1 Q E0 := q
  have q2 : sp vs H1 Q E0 := by rw [List.append_nil] at q1; exact q1
  have bd := hb s1 us I1.kIn (by rw [List.append_nil, ← r.length]; exact F.wide _ _ _ _ q2)
  rw [List.append_nil] at bd
  refine wpAny_call (codeAny_mono (F.goes X.A X.stack s1 H1 ⟨us, []⟩ us vs Q E0 hr gd I1.env0 bd r q2)
    fun res s' hq => ?_)
  match res, hq with
  | .ok (.ret u), hq => exact I1.after hq
  | .ok .next, hq => exact False.elim hq
  | .ok .brk, hq => exact False.elim hq
  | .ok .cont, hq => exact False.elim hq
  | .error e, hq => exact False.elim hq
end

/-! ### the law's own call -/
theorem law_callG {P : Program} {w : World} {K : PySem.W.Frag} {mg mb : Str → Option Value} {k : Nat}
    {fa a : Addr} {fd : FuncData} {x : Str} {sp : Sp} {s : Shared} {vs : List Value} {ns : List Int}
    (KX : K.In s.heap) (hns : s.heap.Ns mainGlobals mg) (hb : s.heap.Ns builtinsNs mb)
    (hbb : ∀ x : Str, x ≠ "__name__" → mb x = bootBuiltins x) (nl : s.heap.NoLimit) (hg : s.gens = #[])
    (ha : s.heap.get? a = some { cls := .type "list", data := .seq vs.toArray }) (hi : IntsAre vs ns)
    (hl : ns.length ≤ sizeLine) (hr : Room k callerA)
    (F : ∀ base : Heap, K.In base → base.Ns mainGlobals mg → FnG P w K mg base k fa fd [x] sp)
    (bnd : ∀ (s : Shared) (u : Value), BindsTo s fd ⟨[u], []⟩ [(x, u)])
    (hsp : ∀ H : Hp, Only H → SqL K H a (ns.map V.int) → sp [.ref a] H (fun v _ => v = .bl true) E0) :
    codeAny (model P w) callerA (.call (.ref fa) ⟨[.ref a], []⟩)
      (fun r s' => r = .ok (.ret (.bool true)) ∧ OldK s.heap s'.heap ∧ s'.os = s.os ∧ AllBare s'.gens) s := by
  have rv := vals_ints hi
  have core : ∀ H : Hp, Only H → SqL K H a (ns.map V.int) → HOk P w H s.heap →
      (∀ b u, H b = some u → b = a) → ((∃ u, H a = some u) → K.lookup a = none) →
      codeAny (model P w) callerA (.call (.ref fa) ⟨[.ref a], []⟩)
        (fun r s' => r = .ok (.ret (.bool true)) ∧ OldK s.heap s'.heap ∧ s'.os = s.os ∧ AllBare s'.gens) s := by
    intro H hO hS hok hA hK
    have dictFree : ∀ {b : Addr} {o : Obj} {es : Array DictEntry} {ep : Nat},
        s.heap.get? b = some o → o.data = .dict es ep → H b = none := by
      intro b o es ep e d
      cases q : H b with
      | none => rfl
      | some u =>
        rw [hA b u q, ha] at e
        cases e
        exact nomatch d
    have nsK : ∀ {b : Addr} {m : Str → Option Value}, s.heap.Ns b m → (hidT s.heap H).Ns b m := by
      rintro b m ⟨o, es, ep, e, d, r⟩
      exact ⟨o, es, ep, hidT_get e (dictFree e d), d, r⟩
    have hKb : K.In (hidT s.heap H) := by
      intro b o e
      refine hidT_get (KX b o e) ?_
      cases q : H b with
      | none => rfl
      | some u =>
        have eb := hA b u q
        rw [eb] at e q
        rw [hK ⟨u, q⟩] at e
        cases e
    have hM : Mod K mg (hidT s.heap H) :=
      ⟨hKb, nsK hns, ⟨mb, nsK hb, hbb⟩, let ⟨mc, h1, h2⟩ := nl; ⟨mc, nsK h1, h2⟩⟩
    have e0 : Env0 P w K mg (hidT s.heap H) callerA [] s H :=
      ⟨rfl, hM, fun b o e => of_hidT e, Nat.le_of_eq (hidT_size _ _), trivial, fun b z => (nomatch z), hok, .of_eq hg⟩
    refine codeAny_mono ((F _ hKb (nsK hns)).goes callerA [] s H ⟨[.ref a], []⟩ [.ref a] [.ref a] _ _ hr rfl
      e0 (bnd s (.ref a)) (.cons rfl .nil) (hsp H hO hS)) fun r s' h => ?_
    match r, h with
    | .error e, h => exact False.elim h
    | .ok .next, h => exact False.elim h
    | .ok .brk, h => exact False.elim h
    | .ok .cont, h => exact False.elim h
    | .ok (.ret u), h =>
      obtain ⟨v, H', os, bare, un, hok', r', q⟩ := h
      obtain rfl : v = .bl true := q
      obtain rfl : u = Value.bool true := r'
      refine ⟨rfl, OldK.of_keep fun b o e => ?_, os, bare⟩
      rcases hO b with z | ⟨ob, xs, z⟩
      · exact un.keep b o e z (fun m => (nomatch m)) (fun m => (nomatch m))
      · have z2 := un.frzs b ob _ z
        have e1 := (hok b _ z).1
        have e2 := (hok' b _ z2).1
        rw [e] at e1
        cases e1
        exact e2
  cases hk : K.lookup a with
  | some o =>
    have e := KX a o hk
    rw [ha] at e
    cases e
    refine core (fun _ => none) (fun _ => .inl rfl) (.inr ⟨_, vs.toArray, _, hk, rfl, rfl, rfl, ?_, by simpa using rv⟩)
      (fun b u z => (nomatch z)) (fun b u z => (nomatch z)) fun ⟨u, z⟩ => (nomatch z)
    rw [List.size_toArray, hi.length]
    exact hl
  | none =>
    let ob : Obj := { cls := .type "list", data := .seq vs.toArray }
    let G : Hp := fun b => if b = a then some (.frz ob (.lst (ns.map V.int))) else none
    have at_a : G a = some (.frz ob (.lst (ns.map V.int))) := if_pos rfl
    have off : ∀ b, b ≠ a → G b = none := fun b z => if_neg z
    refine core G (fun b => ?_) (.inl (.inr ⟨ob, at_a⟩)) (fun b u z => ?_) (fun b u z => ?_) fun _ => hk
    · by_cases hb : b = a
      · exact .inr ⟨ob, _, by rw [hb]; exact at_a⟩
      · exact .inl (off b hb)
    · by_cases hb : b = a
      · rw [hb, at_a] at z
        cases z
        rw [hb]
        exact ⟨ha, by rw [List.length_map]; exact hl, vs, _, rv, ha⟩
      · rw [off b hb] at z
        cases z
    · by_cases hb : b = a
      · exact hb
      · rw [off b hb] at z
        cases z

theorem walk_ofG {l : PySem.W.OpenLaw} {n k : Nat} {q : Program} {loose : List Str}
    {XP : (Str → Option Value) → Heap → Prop} {YP : World → Heap → Prop} {d : DefRec}
    {K : Params → PySem.W.Frag} {sp : World → Sp} {x : Str}
    (hn : l.most = some n) (hn2 : n ≤ sizeLine) (hdf : d.params.defaults = []) (hr : Room k callerA)
    (hY : ∀ (w : World) (h : Heap), YP w h → (K w.params).In h)
    (F : ∀ (w : World) (mg : Str → Option Value) (fa : Addr) (h : Heap), (K w.params).In h →
      h.Ns mainGlobals mg → mg d.name = some (.ref fa) →
      ∃ fd : FuncData, (∀ (s : Shared) (u : Value), BindsTo s fd ⟨[u], []⟩ [(x, u)]) ∧
        ∀ base : Heap, (K w.params).In base → base.Ns mainGlobals mg →
          FnG l.prog w (K w.params) mg base k fa fd [x] (sp w))
    (hsp : ∀ (w : World) (H : Hp) (a : Addr) (ns : List Int), ns.length ≤ n → Only H →
      SqL (K w.params) H a (ns.map V.int) → sp w [.ref a] H (fun v _ => v = .bl true) E0) :
    PySem.W.WalkO q loose XP YP l.row.toRowW d [] (fun f vs => PySem.call f vs) := by
  refine Att.attach_call hn hdf fun w s₀ s₁ mg mb fa o pm cd doc a vs ns G Y ho hd hcd hmg hobj hints hlen hg => ?_
  obtain ⟨fd, hb, hF⟩ := F w mg fa _ (hY w _ Y) G.T.g hmg
  exact law_callG (hY w _ Y) G.T.g G.T.b G.T.builtins G.T.nolimit hg hobj hints
    (Nat.le_trans hlen hn2) hr hF hb fun H hO hS => hsp w H a ns hlen hO hS
end TL
namespace TL
open PySem PySem.Spec PyProof.Rows L2

/-! ### repr of data -/
structure Shows (d : PyData) : Prop where
  can : d.showable = true
  nod : d.hasDict = false
  deep : d.depth ≤ 60
  fits : d.shown.length ≤ sizeLine
def rRepr (K : PySem.W.Frag) : List V → Hp → VK → Prop := fun xs H Q =>
  ∃ (y : V) (d : PyData), xs = [y] ∧ Dp K H y d ∧ Shows d ∧ Q (.str d.shown) H
section
variable {X : Cx}
theorem call_reprD (gd : X.A.guards = some []) (hu : X.A.units + 64 < cLine) :
    CallR X (.builtin "repr") (rRepr X.K) := by
  intro pins s σ H xs us Q I r h
  obtain ⟨y, d, rfl, hd, sh, q⟩ := h
  cases r with
  | cons r1 r2 =>
    rename_i u us'
    cases r2
    obtain ⟨as, rd⟩ := Dp.reads I d y u hd r1
    have big : ∀ a, u = Value.ref a → wpAny (model X.prog X.w) X.A (call (.builtin "repr") [u]) (EP X pins σ Q) X.xe s := by
      intro a e
      subst e
      refine repr_of_reads' rd sh.can (fun z => ?_) gd (by have := sh.deep; omega) (fun _ _ e => e) (fun h' u tk hk => ?_) sh.fits
      · rw [sh.nod] at z
        cases z
      · exact ⟨.str d.shown, H, I.kept (t' := tk) hk, ⟨u, rfl⟩, q⟩
    cases hd with
    | non =>
      obtain rfl : u = Value.none := r1
      rw [PyData.shown_none] at q
      exact PySem.P.repr_of_none ⟨.str _, H, I.tok _, ⟨_, rfl⟩, q⟩
    | bl b =>
      obtain rfl : u = Value.bool b := r1
      rw [PyData.shown_bool] at q
      exact PySem.P.repr_of_bool ⟨.str _, H, I.tok _, ⟨_, rfl⟩, q⟩
    | int i =>
      obtain ⟨t, rfl⟩ := r1
      rw [PyData.shown_int] at q
      exact PySem.P.repr_of_int (by have := sh.can; simpa [PyData.showable] using this) ⟨.str _, H, I.tok _, ⟨_, rfl⟩, q⟩
    | str x =>
      obtain ⟨t, rfl⟩ := r1
      have z := sh.fits
      rw [PyData.shown_str] at q z
      exact PySem.P.repr_of_str ⟨.str _, H, I.tok _, ⟨_, rfl⟩, q⟩ z
    | lst hs ha => exact big _ r1
    | tup hs ha => exact big _ r1
end

/-! ### t[::-1], t a tuple -/
section
variable {prog : Program} {w : World} {A : Around} {E : Value → Shared → Prop} {s : Shared}
theorem fm_congr {α β : Type} (f g : α → Option β) : ∀ l : List α, (∀ x ∈ l, f x = g x) → l.filterMap f = l.filterMap g
  | [], _ => rfl
  | a :: r, h => by
    rw [List.filterMap_cons, List.filterMap_cons, h a List.mem_cons_self, fm_congr f g r fun x hx => h x (List.mem_cons_of_mem _ hx)]
theorem places_back (n : Nat) : Builtin.Slice.slicePlaces ((n : Int) - 1) (-1) (-1) = n := by
  unfold Builtin.Slice.slicePlaces
  rw [if_neg (by decide)]
  by_cases h : (n : Int) - 1 > -1
  · rw [if_pos h]
    have e : ((n : Int) - 1 - -1 - 1) / (- -1) + 1 = (n : Int) := by
      rw [show (- -1 : Int) = 1 by decide, Int.ediv_one]
      omega
    rw [e]
    exact Int.toNat_natCast n
  · rw [if_neg h]
    show (0 : Nat) = n
    omega
theorem pick_back (xs : Array Value) :
    ((List.range xs.size).filterMap fun (m : Nat) => xs[((xs.size : Int) - 1 + (m : Int) * (-1)).toNat]?).toArray = xs.toList.reverse.toArray := by
  have e : (List.range xs.size).filterMap (fun (m : Nat) => xs[((xs.size : Int) - 1 + (m : Int) * (-1)).toNat]?)
      = ((List.range xs.size).map fun k => xs.size - 1 - k).filterMap (xs[·]?) := by
    rw [List.filterMap_map]
    refine fm_congr _ _ _ fun m hm => ?_
    have := List.mem_range.mp hm
    have q : ((xs.size : Int) - 1 + (m : Int) * (-1)).toNat = xs.size - 1 - m := by omega
    rw [q]
    rfl
  rw [e, PySem.W.krv_range, List.filterMap_reverse, PySem.W.krv_all]
theorem back_applied {sl : Addr} {vk : Value} {n : Nat} {Q : Int × Int × Nat → Shared → Prop}
    (hs : s.heap.IsSliceOf sl .none .none vk) (pk : IsPart vk (some (-1)))
    (h : Q ((n : Int) - 1, -1, n) s) : wpAny (model prog w) A (Builtin.Slice.sliceApplied (.ref sl) (pure (n : Int))) Q E s := by
  obtain ⟨os, hos, hcs, hds⟩ := id hs
  unfold Builtin.Slice.sliceApplied Builtin.Slice.sliceFields
  refine wpAny_bind (wpAny_bind (wpAny_field hos hds (x := .none) rfl (wpAny_bind (wpAny_field hos hds (x := .none) rfl
    (wpAny_bind (wpAny_field hos hds (x := vk) rfl (wpAny_pure ?_)))))))
  refine wpAny_bind (HT.slicePart_ pk ?_)
  show wpAny _ _ (if ((-1 : Int) == 0) = true then _ else _) _ _ s
  rw [if_neg (by decide)]
  refine wpAny_bind (slicePart_none (wpAny_bind (slicePart_none (wpAny_bind (wpAny_pure ?_)))))
  show wpAny _ _ (pure ((n : Int) - 1, (-1 : Int), Builtin.Slice.slicePlaces ((n : Int) - 1) (-1) (-1))) _ _ s
  rw [places_back]
  exact wpAny_pure h
theorem getItem_back {t sl : Addr} {items : Array Value} {vk : Value} {Q : Value → Shared → Prop}
    (ht : IsTup s.heap t items) (hs : s.heap.IsSliceOf sl .none .none vk) (pk : IsPart vk (some (-1)))
    (h : Q (.ref s.heap.objs.size) { s with heap := s.heap.push { cls := .type "tuple", data := .seq items.toList.reverse.toArray } })
    (hsz : items.size ≤ sizeLine) : wpAny (model prog w) A (getItem (.ref t) (.ref sl)) Q E s := by
  have hz : sizeOk (.seq items.toList.reverse.toArray) := by
    show items.toList.reverse.toArray.size ≤ sizeLine
    rw [List.size_toArray, List.length_reverse, Array.length_toList]
    exact hsz
  obtain ⟨os, hos, hcs, hds⟩ := id hs
  have hTs : s.TypeIs (.ref sl) "slice" := ⟨os, hos, hcs⟩
  unfold getItem
  try with_reducible refine wpAny_holding ?_
  first | refine wpAny_bind (wpAny_pure ?_) | skip
  refine wpAny_bind (wpAny_sequenceKey ht.typeIs (by decide) ?_)
  refine wpAny_bind (wpAny_callSpecial?_slot (name := Str.ofString "__getitem__") ht.typeIs
    PyProof.Rows.slot_tuple_getitem (wpAny_call_entry PyProof.Rows.slot_tuple_getitem ht.typeIs
      entry_tuple_getitem ?_ (args_tuple_getitem _ _)))
  show wpAny _ _ (Builtin.Tuple.tupleItemsOf (.ref t) >>= _) _ _ s
  refine wpAny_bind (tupleItemsOf_ ht (wpAny_bind (wpAny_typeOf hTs ?_)))
  rw [if_pos (by decide)]
  refine wpAny_bind (back_applied hs pk ?_)
  show wpAny _ _ (if (((items.size : Int) - 1 == 0) && ((-1 : Int) == 1) && (items.size == items.size)) = true then _ else _) _ _ s
  rw [if_neg (by rw [show ((-1 : Int) == 1) = false by decide, Bool.and_false, Bool.false_and]; decide), pick_back]
  first
    | exact wpAny_bind (m := Builtin.Tuple.tupleExact _) (wpAny_newObj_type (wpAny_pure ⟨_, rfl, wpAny_pure h⟩) hz)
    | exact wpAny_bind (m := Builtin.Tuple.tupleExact _) (wpAny_newObj_type (wpAny_bind (wpAny_pure (wpAny_pure ⟨_, rfl, wpAny_pure h⟩))) hz)
    | exact wpAny_bind (wpAny_bind (m := Builtin.Tuple.tupleExact _) (wpAny_newObj_type (wpAny_pure (wpAny_pure ⟨_, rfl, wpAny_pure h⟩)) hz))
    | exact wpAny_bind (wpAny_bind (m := Builtin.Tuple.tupleExact _) (wpAny_newObj_type (wpAny_pure ⟨_, rfl, wpAny_pure h⟩) hz))
end
section
variable {X : Cx}
def tRevT (K : PySem.W.Frag) (te : TE) : TE := fun σ H Q => te σ H fun x H1 =>
  ∃ a xs, x = .ref a ∧ SqT K H1 a xs ∧ ∀ p, H1 p = none → Q (.ref p) (upd H1 p (.tup xs.reverse))
theorem pe_revT {e : Expr} {te : TE} {k : Nat} {p1 p2 p3 pos : Pos} (he : PE X e te) :
    PE X (.Subscript e (.Slice none none (some (.UnaryOp .USub (.Constant (.int 1) k p1) p2)) p3) pos) (tRevT X.K te) := by
  refine ⟨fun pins s σ H Q I h => Subscript_ (thn (he.run pins s σ H _ I h) fun v s1 ⟨x, H1, I1, r1, q1⟩ => ?_)⟩
  obtain ⟨a, xs, ex, hx, q⟩ := q1
  subst ex
  cases r1
  have hst : PO X (some (.UnaryOp .USub (.Constant (.int 1) k p1) p2))
    (tPart (tUn (rU fun i => .int (-i)) (tC (.int 1)))) := po_some (pe_un un_neg pe_int)
  refine wpAny_Slice ?_
  rw [evalPart_none]
  refine wpAny_pure ?_
  refine wpAny_pure ?_
  refine thn (hst.run pins s1 σ H1 (fun o H4 => o = some (-1) ∧ H4 = H1) I1 ⟨1, rfl, -1, rfl, rfl, rfl⟩)
    fun vk s4 ⟨o, H4, I4, pk, eo, e4⟩ => ?_
  subst eo e4
  have I5 : Inv X pins σ H4 { s4 with heap := s4.heap.push { cls := .type "slice", data := .fields #[.none, .none, vk] } } :=
    I4.kept (t' := s4.toks) fun b ob q => Heap.get?_push_of_some _ q
  obtain ⟨its, r, ht, hz⟩ := I5.tuple hx
  have hlen := r.length
  refine tail_any (ops := [.ref a, .ref s4.heap.objs.size]) ht.typeIs PyProof.Rows.slot_tuple_getitem.lookup ?_ (by with_unfolding_all rfl)
  refine getItem_back ht (Heap.IsSliceOf.new _ .none .none vk) pk ?_ (by rw [List.size_toArray]; omega)
  refine ⟨.ref _, _, I5.laid (t' := s4.toks) (o := .tup xs.reverse) (fun b ob q => Heap.get?_push_of_some _ q) (Nat.le_refl _) ?_,
    rfl, q _ (I5.hok.fresh (Nat.le_refl _))⟩
  exact ⟨by rw [List.length_reverse]; exact hz, _, r.reverse, IsTup.new _ _⟩
end
/-! ### the rules with the written part as a letter of its own (within comprehensions) -/
section
variable {X : Cx}
theorem ixTK (K : PySem.W.Frag) (h : X.K = K := by rfl) : IxR X (rIxT K) := h ▸ ix_tup
theorem ixLK (K : PySem.W.Frag) (h : X.K = K := by rfl) : IxR X (rIxL K) := h ▸ ix_list
def rLenK (K : PySem.W.Frag) : List V → Hp → VK → Prop := fun xs H Q => ∃ p ys, xs = [.ref p] ∧ (SqL K H p ys ∨ SqT K H p ys) ∧ Q (.int ys.length) H
theorem lenK (K : PySem.W.Frag) (h : X.K = K := by rfl) : CallR X (.builtin "len") (rLenK K) := h ▸ call_len_seq
def rTupK (K : PySem.W.Frag) : List V → Hp → VK → Prop := fun xs H Q => ∃ p ys, xs = [.ref p] ∧
  ((SqL K H p ys ∧ ∀ l, H l = none → Q (.ref l) (upd H l (.tup ys))) ∨ (SqT K H p ys ∧ Q (.ref p) H))
theorem tupleK (K : PySem.W.Frag) (h : X.K = K := by rfl) : CallR X (.type "tuple") (rTupK K) := h ▸ call_tuple_of
theorem catAK (K : PySem.W.Frag) (h : X.K = K := by rfl) : OpR X (binaryOp .Add) (rCatA K) := h ▸ op_catA
theorem revTK (K : PySem.W.Frag) {e : Expr} {te : TE} {k : Nat} {p1 p2 p3 pos : Pos} (he : PE X e te) (h : X.K = K := by rfl) :
    PE X (.Subscript e (.Slice none none (some (.UnaryOp .USub (.Constant (.int 1) k p1) p2)) p3) pos) (tRevT K te) := h ▸ pe_revT he
theorem reprK (K : PySem.W.Frag) (gd : X.A.guards = some []) (hu : X.A.units + 64 < cLine) (h : X.K = K := by rfl) :
    CallR X (.builtin "repr") (rRepr K) := h ▸ call_reprD gd hu
end
end TL
namespace TL
open PySem PySem.Spec PyProof.Rows L2

/-! ### heaps -/
theorem same_upd {H : Hp} {p : Addr} {o : HO} (h : H p = none) : Same H (upd H p o) := fun b x e => by
  rw [upd_ne (ne_of_none e h)]
  exact e
theorem same_at {H : Hp} {p : Addr} {o : HO} (_ : H p = none) : upd H p o p = some o := upd_same
theorem Same.tup {K : PySem.W.Frag} {H H' : Hp} {a : Addr} {xs : List V} (e : Same H H') (h : SqT K H a xs) : SqT K H' a xs := by
  rcases h with (h | ⟨o, h⟩) | h
  · exact .inl (.inl (e _ _ h))
  · exact .inl (.inr ⟨o, e _ _ h⟩)
  · exact .inr h
/-- every tuple stays -/
def KT (K : PySem.W.Frag) (H H' : Hp) : Prop := ∀ a xs, SqT K H a xs → SqT K H' a xs
theorem KT.refl {K : PySem.W.Frag} {H : Hp} : KT K H H := fun _ _ h => h
theorem KT.trans {K : PySem.W.Frag} {H H1 H2 : Hp} (a : KT K H H1) (b : KT K H1 H2) : KT K H H2 := fun c o h => b c o (a c o h)
theorem Same.kt {K : PySem.W.Frag} {H H' : Hp} (e : Same H H') : KT K H H' := fun _ _ h => Same.tup e h
/-- all but what stands at d and l is as it was -/
def Fm (d l : Addr) (H H' : Hp) : Prop := ∀ b o, b ≠ d → b ≠ l → H b = some o → H' b = some o
theorem Fm.refl {d l : Addr} {H : Hp} : Fm d l H H := fun _ _ _ _ h => h
theorem Fm.trans {d l : Addr} {H H1 H2 : Hp} (a : Fm d l H H1) (b : Fm d l H1 H2) : Fm d l H H2 :=
  fun c o h1 h2 h => b c o h1 h2 (a c o h1 h2 h)
theorem Same.fm {d l : Addr} {H H' : Hp} (e : Same H H') : Fm d l H H' := fun b o _ _ h => e b o h

/-! ### the deck: a list of cells and a count -/
def Deck (H : Hp) (d l : Addr) (n : Nat) : Prop := ∃ (c : Nat) (ns : List Int), c ≤ n ∧
  H d = some (.lst [.ref l, .int (c : Int)]) ∧ H l = some (.lst (ns.map V.int)) ∧ (∀ z ∈ ns, 0 ≤ z) ∧ ns.length ≤ 63
theorem Deck.ne {H : Hp} {d l : Addr} {n : Nat} (h : Deck H d l n) : d ≠ l := by
  obtain ⟨c, ns, _, h1, h2, _⟩ := h
  intro e
  rw [e, h2] at h1
  cases ns with
  | nil => cases h1
  | cons z r => cases h1
theorem Deck.same {H H' : Hp} {d l : Addr} {n : Nat} (h : Deck H d l n) (e : Same H H') : Deck H' d l n := by
  obtain ⟨c, ns, hc, h1, h2, h3⟩ := h
  exact ⟨c, ns, hc, e _ _ h1, e _ _ h2, h3⟩
theorem Deck.le {H : Hp} {d l : Addr} {n m : Nat} (h : Deck H d l n) (e : n ≤ m) : Deck H d l m := by
  obtain ⟨c, ns, hc, h3⟩ := h
  exact ⟨c, ns, Nat.le_trans hc e, h3⟩
theorem Fm.kt {K : PySem.W.Frag} {H H' : Hp} {d l : Addr} {n : Nat} (e : Fm d l H H') (h : Deck H d l n) : KT K H H' := by
  obtain ⟨c, ns, hc, h1, h2, h3⟩ := h
  intro a xs q
  rcases q with (q | ⟨o, q⟩) | q
  · refine .inl (.inl (e _ _ (fun z => ?_) (fun z => ?_) q))
    · rw [z, h1] at q; cases q
    · rw [z, h2] at q; cases q
  · refine .inl (.inr ⟨o, e _ _ (fun z => ?_) (fun z => ?_) q⟩)
    · rw [z, h1] at q; cases q
    · rw [z, h2] at q; cases q
  · exact .inr q
/-- a tracked thing that is neither -/
theorem Deck.off {H : Hp} {d l a : Addr} {n : Nat} (h : Deck H d l n) (ha : H a = none) : a ≠ d ∧ a ≠ l := by
  obtain ⟨c, ns, hc, h1, h2, h3⟩ := h
  exact ⟨fun z => (by rw [z, h1] at ha; cases ha), fun z => (by rw [z, h2] at ha; cases ha)⟩

theorem Deck.put {H : Hp} {d l a : Addr} {n : Nat} {o : HO} (h : Deck H d l n) (h1 : a ≠ d) (h2 : a ≠ l) : Deck (upd H a o) d l n := by
  obtain ⟨c, ns, hc, e1, e2, h3⟩ := h
  exact ⟨c, ns, hc, by rw [upd_ne h1.symm]; exact e1, by rw [upd_ne h2.symm]; exact e2, h3⟩
theorem kt_lst {K : PySem.W.Frag} {H : Hp} {a : Addr} {xs ys : List V} (h : H a = some (.lst xs)) : KT K H (upd H a (.lst ys)) := by
  intro b zs q
  rcases q with (q | ⟨o, q⟩) | q
  · refine .inl (.inl ?_)
    rw [upd_ne fun z => by rw [z, h] at q; cases q]
    exact q
  · refine .inl (.inr ⟨o, ?_⟩)
    rw [upd_ne fun z => by rw [z, h] at q; cases q]
    exact q
  · exact .inr q

/-! ### data -/
mutual
def only : PyData → Bool
  | .none => true
  | .bool _ => true
  | .int _ => true
  | .str _ => true
  | .tuple xs => onlyAll xs
  | .list _ => false
  | .dict _ => false
def onlyAll : List PyData → Bool
  | [] => true
  | x :: xs => only x && onlyAll xs
end
section
variable {K : PySem.W.Frag} {H H' : Hp}
mutual
theorem Dp.kt (e : KT K H H') : ∀ {v : V} {d : PyData}, Dp K H v d → only d = true → Dp K H' v d
  | _, _, .non, _ => .non
  | _, _, .bl b, _ => .bl b
  | _, _, .int i, _ => .int i
  | _, _, .str x, _ => .str x
  | _, _, .lst h a, o => by
    unfold only at o
    cases o
  | _, _, .tup h a, o => .tup (e _ _ h) (DpAll.kt e a (by unfold only at o; exact o))
theorem DpAll.kt (e : KT K H H') : ∀ {v : List V} {d : List PyData}, DpAll K H v d → onlyAll d = true → DpAll K H' v d
  | _, _, .nil, _ => .nil
  | _, _, .cons h a, o => by
    unfold onlyAll at o
    rw [Bool.and_eq_true] at o
    exact .cons (Dp.kt e h o.1) (DpAll.kt e a o.2)
end
mutual
theorem Dp.same (e : Same H H') : ∀ {v : V} {d : PyData}, Dp K H v d → Dp K H' v d
  | _, _, .non => .non
  | _, _, .bl b => .bl b
  | _, _, .int i => .int i
  | _, _, .str x => .str x
  | _, _, .lst h a => .lst (e.seq h) (DpAll.same e a)
  | _, _, .tup h a => .tup (Same.tup e h) (DpAll.same e a)
theorem DpAll.same (e : Same H H') : ∀ {v : List V} {d : List PyData}, DpAll K H v d → DpAll K H' v d
  | _, _, .nil => .nil
  | _, _, .cons h a => .cons (Dp.same e h) (DpAll.same e a)
end
theorem DpAll.length : ∀ {v : List V} {d : List PyData}, DpAll K H v d → v.length = d.length
  | _, _, .nil => rfl
  | _, _, .cons _ a => congrArg (· + 1) (DpAll.length a)
theorem DpAll.append : ∀ {v u : List V} {d e : List PyData}, DpAll K H v d → DpAll K H u e → DpAll K H (v ++ u) (d ++ e)
  | _, _, _, _, .nil, b => b
  | _, _, _, _, .cons h a, b => .cons h (DpAll.append a b)
theorem DpAll.reverse : ∀ {v : List V} {d : List PyData}, DpAll K H v d → DpAll K H v.reverse d.reverse
  | _, _, .nil => .nil
  | _, _, .cons h a => by
    rw [List.reverse_cons, List.reverse_cons]
    exact DpAll.append (DpAll.reverse a) (.cons h .nil)
theorem DpAll.get : ∀ {v : List V} {d : List PyData} {i : Nat} {x : V}, DpAll K H v d → v[i]? = some x → ∃ z, d[i]? = some z ∧ Dp K H x z
  | _, _, _, _, .nil, q => by simp at q
  | _, _, 0, _, .cons h a, q => by
    rw [List.getElem?_cons_zero] at q
    cases q
    exact ⟨_, List.getElem?_cons_zero, h⟩
  | _, _, i + 1, _, .cons h a, q => by
    rw [List.getElem?_cons_succ] at q
    obtain ⟨z, e, r⟩ := DpAll.get a q
    exact ⟨z, by rw [List.getElem?_cons_succ]; exact e, r⟩
theorem Dp.tupI {v : V} {ds : List PyData} (h : Dp K H v (.tuple ds)) : ∃ a xs, v = .ref a ∧ SqT K H a xs ∧ DpAll K H xs ds := by
  cases h with
  | tup h a => exact ⟨_, _, rfl, h, a⟩
theorem Dp.lstI {v : V} {ds : List PyData} (h : Dp K H v (.list ds)) : ∃ a xs, v = .ref a ∧ SqL K H a xs ∧ DpAll K H xs ds := by
  cases h with
  | lst h a => exact ⟨_, _, rfl, h, a⟩
theorem Dp.intI {v : V} {i : Int} (h : Dp K H v (.int i)) : v = .int i := by
  cases h
  rfl
theorem DpAll.ints : ∀ {xs : List V} {ns : List Int}, DpAll K H xs (ns.map .int) → xs = ns.map V.int
  | [], [], _ => rfl
  | _ :: _, n :: ns, .cons h a => by
    rw [Dp.intI h, DpAll.ints a]
    rfl
theorem DpAll.of_ints : ∀ (ns : List Int), DpAll K H (ns.map V.int) (ns.map .int)
  | [] => .nil
  | n :: ns => .cons (.int n) (DpAll.of_ints ns)
end

/-! ### pairs of ints -/
def prD (p : Int × Int) : PyData := .tuple [.int p.1, .int p.2]
def prsD (ps : List (Int × Int)) : PyData := .tuple (ps.map prD)
theorem only_pr (p : Int × Int) : only (prD p) = true := by simp [prD, only, onlyAll]
theorem only_prs : ∀ ps : List (Int × Int), onlyAll (ps.map prD) = true
  | [] => by simp [onlyAll]
  | p :: ps => by simp [onlyAll, only_pr p, only_prs ps]
theorem only_prsD (ps : List (Int × Int)) : only (prsD ps) = true := by
  unfold prsD only
  exact only_prs ps
section
variable {K : PySem.W.Frag} {H : Hp}
theorem Dp.prI {v : V} {p : Int × Int} (h : Dp K H v (prD p)) : ∃ a, v = .ref a ∧ SqT K H a [.int p.1, .int p.2] := by
  obtain ⟨a, xs, e, h1, h2⟩ := Dp.tupI h
  have q : xs = [p.1, p.2].map V.int := DpAll.ints (ns := [p.1, p.2]) h2
  subst q
  exact ⟨a, e, h1⟩
theorem Dp.pr {a : Addr} {i j : Int} (h : SqT K H a [.int i, .int j]) : Dp K H (.ref a) (prD (i, j)) :=
  .tup h (.cons (.int i) (.cons (.int j) .nil))
end

/-! ### showing small data -/
def sm (i : Int) : Prop := -1000 ≤ i ∧ i ≤ 1000
theorem sm_log {i : Int} (h : sm i) : i.natAbs.log2 < 10 := by
  have h2 : i.natAbs < 2 ^ 10 := by
    unfold sm at h
    omega
  exact PySem.Flt.log2_lt_of (by decide) h2
structure Sm (d : PyData) (n k : Nat) : Prop where
  can : d.showable = true
  nod : d.hasDict = false
  deep : d.depth ≤ k
  short : d.leavesShort 13 = true
  light : d.weight ≤ n
theorem Sm.shows {d : PyData} {n k : Nat} (h : Sm d n k) (hn : n ≤ 1000000) (hk : k ≤ 60) : Shows d :=
  ⟨h.can, h.nod, Nat.le_trans h.deep hk, PyData.shown_fits (by decide) (by decide) h.short (Nat.le_trans h.light (by omega))⟩
theorem Sm.le {d : PyData} {n k m j : Nat} (h : Sm d n k) (hn : n ≤ m) (hk : k ≤ j) : Sm d m j :=
  ⟨h.can, h.nod, Nat.le_trans h.deep hk, h.short, Nat.le_trans h.light hn⟩
theorem Sm.none : Sm .none 0 0 := ⟨rfl, rfl, Nat.le_refl _, rfl, Nat.le_refl _⟩
theorem Sm.bool (b : Bool) : Sm (.bool b) 0 0 := ⟨rfl, rfl, Nat.le_refl _, rfl, Nat.le_refl _⟩
theorem Sm.int {i : Int} (h : sm i) : Sm (.int i) 10 0 := by
  have h1 := sm_log h
  refine ⟨?_, by simp [PyData.hasDict], by simp [PyData.depth], ?_, ?_⟩
  · simp only [PyData.showable]
    exact decide_eq_true (by omega)
  · simp only [PyData.leavesShort]
    exact decide_eq_true (PyData.shown_int_le (by unfold sm at h; omega))
  · simp only [PyData.weight]
    split <;> omega
structure SmA (ds : List PyData) (n k : Nat) : Prop where
  can : PyData.showableAll ds = true
  nod : PyData.hasDictAll ds = false
  deep : PyData.depthAll ds ≤ k
  short : PyData.leavesShortAll 13 ds = true
  light : PyData.weightAll ds ≤ ds.length * (n + 1)
theorem SmA.of {n k : Nat} : ∀ {ds : List PyData}, (∀ d ∈ ds, Sm d n k) → SmA ds n k
  | [], _ => ⟨rfl, rfl, by simp [PyData.depthAll], rfl, by simp [PyData.weightAll]⟩
  | d :: ds, h => by
    have h1 := h d List.mem_cons_self
    have h2 := SmA.of (n := n) (k := k) fun e he => h e (List.mem_cons_of_mem _ he)
    refine ⟨?_, ?_, ?_, ?_, ?_⟩
    · simp only [PyData.showableAll, h1.can, h2.can, Bool.and_self]
    · simp only [PyData.hasDictAll, h1.nod, h2.nod, Bool.or_self]
    · simp only [PyData.depthAll]
      exact Nat.max_le.mpr ⟨h1.deep, h2.deep⟩
    · simp only [PyData.leavesShortAll, h1.short, h2.short, Bool.and_self]
    · have a := h1.light
      have b := h2.light
      simp only [PyData.weightAll, List.length_cons, Nat.add_mul, Nat.one_mul]
      omega
theorem Sm.tup {n k m : Nat} {ds : List PyData} (h : ∀ d ∈ ds, Sm d n k) (hm : ds.length ≤ m) : Sm (.tuple ds) (m * (n + 1)) (k + 1) := by
  have q := SmA.of h
  have z : ds.length * (n + 1) ≤ m * (n + 1) := Nat.mul_le_mul_right _ hm
  refine ⟨?_, ?_, ?_, ?_, ?_⟩
  · simp only [PyData.showable]; exact q.can
  · simp only [PyData.hasDict]; exact q.nod
  · simp only [PyData.depth]; have := q.deep; omega
  · simp only [PyData.leavesShort]; exact q.short
  · simp only [PyData.weight]; exact Nat.le_trans q.light z
theorem Sm.lst {n k m : Nat} {ds : List PyData} (h : ∀ d ∈ ds, Sm d n k) (hm : ds.length ≤ m) : Sm (.list ds) (m * (n + 1)) (k + 1) := by
  have q := SmA.of h
  have z : ds.length * (n + 1) ≤ m * (n + 1) := Nat.mul_le_mul_right _ hm
  refine ⟨?_, ?_, ?_, ?_, ?_⟩
  · simp only [PyData.showable]; exact q.can
  · simp only [PyData.hasDict]; exact q.nod
  · simp only [PyData.depth]; have := q.deep; omega
  · simp only [PyData.leavesShort]; exact q.short
  · simp only [PyData.weight]; exact Nat.le_trans q.light z
def smP (p : Int × Int) : Prop := sm p.1 ∧ sm p.2
theorem Sm.pr {p : Int × Int} (h : smP p) : Sm (prD p) 22 1 :=
  Sm.tup (n := 10) (k := 0) (m := 2) (fun d hd => by
    rcases List.mem_cons.mp hd with rfl | hd
    · exact Sm.int h.1
    · rcases List.mem_cons.mp hd with rfl | hd
      · exact Sm.int h.2
      · exact nomatch hd) (Nat.le_refl _)
theorem Sm.prs {ps : List (Int × Int)} {m : Nat} (h : ∀ p ∈ ps, smP p) (hm : ps.length ≤ m) : Sm (prsD ps) (m * 23) 2 :=
  Sm.tup (n := 22) (k := 1) (m := m) (fun d hd => by
    obtain ⟨p, hp, rfl⟩ := List.mem_map.mp hd
    exact Sm.pr (h p hp)) (by rw [List.length_map]; exact hm)
end TL
namespace TL
open PySem PySem.Spec PyProof.Rows L2
theorem yesI {σ : L2.St} {H : Hp} {Q : Bool → Hp → Prop} (h : Q true H) : tYes σ H Q := h
/-- what a comprehension asks of its turns -/
def LcGoal (J : It) (g : TG) (tt : TT) (te : TE) (vs : List Nat) (σ : L2.St) (H1 : Hp) (D : Addr) (Qd : Hp → Prop) : Prop :=
  ∃ W : Nat → Nat → Hp → Prop, (∃ m, W 0 m (upd H1 D (.lst []))) ∧ ∀ i m H, W i m H →
    (J.stop i H ∧ Qd H) ∨
    (J.go i H ∧ ∃ Nx : Hp → Prop, (∀ H', Nx H' → ∃ m', m' < m ∧ W (i + 1) m' H') ∧
      ∀ x H', J.yld i H x H' → g x (wipe σ vs) H' fun σ2 H2 =>
        wipe σ2 vs = wipe σ vs ∧ tt σ2 H2 fun b H3 =>
          if b = true then
            te σ2 H3 fun y H4 => ∃ acc, H4 D = some (.lst acc) ∧ acc.length < sizeLine ∧ Nx (upd H4 D (.lst (acc ++ [y])))
          else Nx H3)
/-- by the number of turns -/
theorem lc_by {J : It} {g : TG} {tt : TT} {te : TE} {vs : List Nat} {σ : L2.St} {H1 : Hp} {D : Addr} {Qd : Hp → Prop} (n : Nat)
    (Pv : Nat → Hp → Prop) (h0 : Pv 0 (upd H1 D (.lst []))) (hgo : ∀ i H, i < n → Pv i H → J.go i H) (hst : ∀ H, Pv n H → J.stop n H)
    (hs : ∀ i x H H', i < n → Pv i H → J.yld i H x H' → g x (wipe σ vs) H' fun σ2 H2 =>
      wipe σ2 vs = wipe σ vs ∧ tt σ2 H2 fun b H3 =>
        if b = true then
          te σ2 H3 fun y H4 => ∃ acc, H4 D = some (.lst acc) ∧ acc.length < sizeLine ∧ Pv (i + 1) (upd H4 D (.lst (acc ++ [y])))
        else Pv (i + 1) H3)
    (hd : ∀ H, Pv n H → Qd H) : LcGoal J g tt te vs σ H1 D Qd := by
  refine ⟨fun i m H => m = n - i ∧ i ≤ n ∧ Pv i H, ⟨n, rfl, Nat.zero_le _, h0⟩, fun i m H hW => ?_⟩
  obtain ⟨e, hi, p⟩ := hW
  by_cases hlt : i < n
  · refine .inr ⟨hgo i H hlt p, Pv (i + 1), fun H' p' => ⟨n - (i + 1), by omega, rfl, hlt, p'⟩, fun x H' y => hs i x H H' hlt p y⟩
  · obtain rfl : i = n := by omega
    exact .inl ⟨hst H p, hd H p⟩
/-- over reversed(a tuple) -/
theorem lc_revT {K : PySem.W.Frag} {a : Addr} {xs : List V} {g : TG} {tt : TT} {te : TE} {vs : List Nat} {σ : L2.St} {H1 : Hp} {D : Addr} {Qd : Hp → Prop}
    (Pv : Nat → Hp → Prop) (h0 : Pv 0 (upd H1 D (.lst []))) (hl : ∀ i H, Pv i H → SqT K H a xs)
    (hs : ∀ i x H, i < xs.length → xs[xs.length - 1 - i]? = some x → Pv i H → g x (wipe σ vs) H fun σ2 H2 =>
      wipe σ2 vs = wipe σ vs ∧ tt σ2 H2 fun b H3 =>
        if b = true then
          te σ2 H3 fun y H4 => ∃ acc, H4 D = some (.lst acc) ∧ acc.length < sizeLine ∧ Pv (i + 1) (upd H4 D (.lst (acc ++ [y])))
        else Pv (i + 1) H3)
    (hd : ∀ H, Pv xs.length H → Qd H) : LcGoal (RT.ItvT K a xs.length) g tt te vs σ H1 D Qd := by
  refine lc_by xs.length Pv h0 (fun i H hi p => ?_) (fun H p => Nat.le_refl _) (fun i x H H' hi p y => ?_) hd
  · have hj : xs.length - 1 - i < xs.length := by omega
    exact ⟨hi, xs, _, hl i H p, List.getElem?_eq_getElem hj⟩
  · obtain ⟨e, hy⟩ := y
    subst e
    exact hs i x _ hi (hy xs (hl i _ p)) p
end TL
namespace TL
open PySem PySem.Spec PyProof.Rows L2
/-! ### sorted, of any alike data -/
theorem each_of {K : PySem.W.Frag} {H : Hp} {β : Type} (enc : β → PyData) : ∀ {xs : List V} {us : List Value} {bs : List β},
    Vals xs us → DpAll K H xs (bs.map enc) → PySem.W.EachIs (fun (u : Value) (b : β) => ∃ x, RelV x u ∧ Dp K H x (enc b)) us bs
  | _, _, [], .nil, _ => .nil
  | _, _, _ :: _, .nil, h => nomatch h
  | _, _, [], .cons _ _, h => nomatch h
  | _, _, b :: bs, .cons r t, .cons h a => .cons ⟨_, r, h⟩ (each_of enc t a)
theorem of_each {K : PySem.W.Frag} {H : Hp} {β : Type} (enc : β → PyData) : ∀ {us : List Value} {bs : List β},
    PySem.W.EachIs (fun (u : Value) (b : β) => ∃ x, RelV x u ∧ Dp K H x (enc b)) us bs → ∃ ys, Vals ys us ∧ DpAll K H ys (bs.map enc)
  | _, _, .nil => ⟨[], .nil, .nil⟩
  | _, _, .cons ⟨x, r, h⟩ t => by
    obtain ⟨ys, a, b⟩ := of_each enc t
    exact ⟨x :: ys, .cons r a, .cons h b⟩
@[irreducible] def rSortD (K : PySem.W.Frag) : List V → Hp → VK → Prop := fun vs H Q => ∃ (β : Type) (enc : β → PyData) (bs : List β) (a : Addr) (xs : List V),
  vs = [.ref a] ∧ SqL K H a xs ∧ DpAll K H xs (bs.map enc) ∧ PySem.W.AllAlike (bs.map enc) ∧ PySem.W.Sortable (bs.map enc) ∧ (∀ b ∈ bs, (enc b).depth ≤ 50) ∧
  ∀ p ys, H p = none → DpAll K H ys ((bs.mergeSort (PySem.W.dataLe false enc)).map enc) → Q (.ref p) (upd H p (.lst ys))
section
variable {X : Cx}
theorem sorted_D (hu : X.A.units + 64 < cLine) : CallR X (.builtin "sorted") (rSortD X.K) := by
  intro pins s σ H vs us Q I r h
  unfold rSortD at h
  obtain ⟨β, enc, bs, a, xs, rfl, hs, ha, al, so, dp, q⟩ := h
  cases r with
  | cons r1 r2 =>
    cases r2
    rename_i u
    obtain rfl : u = Value.ref a := r1
    obtain ⟨its, rv, hl, hz⟩ := I.list hs
    have e1 := each_of enc rv ha
    have lb : xs.length = bs.length := by rw [DpAll.length ha, List.length_map]
    have e2 : PySem.W.EachIs (fun v b => ∃ as, Reads s.heap v (enc b) as) its bs :=
      e1.mono fun u b ⟨x, rx, hx⟩ => Dp.reads I _ x u hx rx
    refine PySem.W.sorted_data hl.isList e1 e2 al so (by omega) (fun b hb => by have := dp b hb; omega) fun out hlen eo => ?_
    obtain ⟨ys, ry, dy⟩ := of_each enc eo
    obtain ⟨c, hc⟩ := PyProof.Rows.sortedAll_at s.heap its out.toArray
    have fr : H (s.heap.objs.size + 1) = none := I.hok.fresh (Nat.le_succ _)
    refine ⟨.ref (s.heap.objs.size + 1), upd H (s.heap.objs.size + 1) (.lst ys), I.laid (t' := s.toks) (fun _ _ => PyProof.Rows.sortedAll_old) (Nat.le_succ _) ?_, rfl, q _ ys fr dy⟩
    exact ⟨by have := ry.length; omega, out, c, ry, hc⟩
/-! ### in, of data -/
def rInDt (K : PySem.W.Frag) (neg : Bool) : R2 := fun x y H Q => ∃ d ds, Dp K H x d ∧ (Dp K H y (.list ds) ∨ Dp K H y (.tuple ds)) ∧
  PyData.canLayAll0 ds = true ∧ d.canLay0 = true ∧ d.depth ≤ 50 ∧ Q (.bl (if neg then !(ds.any fun z => PyData.eqv z d) else ds.any fun z => PyData.eqv z d)) H
theorem room_in {d : PyData} {ds : List PyData} {u : Nat} (h : d.depth ≤ 50) (hu : u + 64 < cLine) : u + 1 + min (PyData.depthAll ds) d.depth < cLine := by
  have : min (PyData.depthAll ds) d.depth ≤ 50 := Nat.le_trans (Nat.min_le_right _ _) h
  omega
theorem op_inDt (hu : X.A.units + 64 < cLine) : OpR X (compareOp .In) (rInDt X.K false) := by
  intro pins s σ H x y v u Q I rx ry h
  obtain ⟨d, ds, hd, he, c1, c2, dp, q⟩ := h
  obtain ⟨as, r1⟩ := Dp.reads I d x v hd rx
  rcases he with he | he
  · obtain ⟨bs, r2⟩ := Dp.reads I _ y u he ry
    exact SeqAt.in_list_reads r2 r1 c1 c2 (room_in dp hu) ⟨.bl _, H, I, rfl, q⟩
  · obtain ⟨bs, r2⟩ := Dp.reads I _ y u he ry
    exact SeqAt.in_tuple_reads r2 r1 c1 c2 (room_in dp hu) ⟨.bl _, H, I, rfl, q⟩
theorem op_notInDt (hu : X.A.units + 64 < cLine) : OpR X (compareOp .NotIn) (rInDt X.K true) := by
  intro pins s σ H x y v u Q I rx ry h
  obtain ⟨d, ds, hd, he, c1, c2, dp, q⟩ := h
  obtain ⟨as, r1⟩ := Dp.reads I d x v hd rx
  rcases he with he | he
  · obtain ⟨bs, r2⟩ := Dp.reads I _ y u he ry
    exact SeqAt.notIn_list_reads r2 r1 c1 c2 (room_in dp hu) ⟨.bl _, H, I, rfl, q⟩
  · obtain ⟨bs, r2⟩ := Dp.reads I _ y u he ry
    exact SeqAt.notIn_tuple_reads r2 r1 c1 c2 (room_in dp hu) ⟨.bl _, H, I, rfl, q⟩
/-! ### the written part as a letter -/
theorem sortK (K : PySem.W.Frag) (hu : X.A.units + 64 < cLine) (h : X.K = K := by rfl) : CallR X (.builtin "sorted") (rSortD K) := h ▸ sorted_D hu
theorem inDK (K : PySem.W.Frag) (hu : X.A.units + 64 < cLine) (h : X.K = K := by rfl) : OpR X (compareOp .In) (rInDt K false) := h ▸ op_inDt hu
theorem notInDK (K : PySem.W.Frag) (hu : X.A.units + 64 < cLine) (h : X.K = K := by rfl) : OpR X (compareOp .NotIn) (rInDt K true) := h ▸ op_notInDt hu
theorem inK (K : PySem.W.Frag) (h : X.K = K := by rfl) : OpR X (compareOp .In) (rIn K false) := h ▸ op_in_seq
theorem notInK (K : PySem.W.Frag) (h : X.K = K := by rfl) : OpR X (compareOp .NotIn) (rIn K true) := h ▸ op_notIn_seq
theorem eqDK (K : PySem.W.Frag) (hu : X.A.units + 64 < cLine) (h : X.K = K := by rfl) : OpR X (compareOp .Eq) (rEqD K) := h ▸ op_eqD hu
theorem neDK (K : PySem.W.Frag) (hu : X.A.units + 64 < cLine) (h : X.K = K := by rfl) : OpR X (compareOp .NotEq) (rNeD K) := h ▸ op_neD hu
theorem anyK (K : PySem.W.Frag) (hc : X.calm = true) (h : X.K = K := by rfl) : CallR X (.builtin "any") (rAny K) := h ▸ cr_any hc
def rListK (K : PySem.W.Frag) : List V → Hp → VK → Prop := fun xs H Q => ∃ p ys, xs = [.ref p] ∧ (SqL K H p ys ∨ SqT K H p ys) ∧ ∀ l, H l = none → Q (.ref l) (upd H l (.lst ys))
theorem listK (K : PySem.W.Frag) (h : X.K = K := by rfl) : CallR X (.type "list") (rListK K) := h ▸ call_list_of
theorem slTK (K : PySem.W.Frag) (h : X.K = K := by rfl) : SlR X (rSlA K) := h ▸ sl_tupA
theorem slLK (K : PySem.W.Frag) (h : X.K = K := by rfl) : SlR X (rSlL K) := h ▸ sl_list
end
end TL
namespace TL
open PySem PySem.Spec PyProof.Rows L2
/-- a def of the text by its name, with its promise -/
structure Own (P : Program) (w : World) (K : PySem.W.Frag) (mg : Str → Option Value) (base : Heap)
    (x : Str) (k : Nat) (ps : List Str) (sp : Sp) : Prop where
  ex : ∃ (f : Addr) (fd : FuncData), FnOk P w K mg base CX0 k f fd ps sp ∧ mg x = some (.ref f) ∧
    PySem.W.keepIn K (.ref f) = true ∧ Binds K fd ps []
/-- .. that shows data -/
structure OwnG (P : Program) (w : World) (K : PySem.W.Frag) (mg : Str → Option Value) (base : Heap)
    (x : Str) (k : Nat) (ps : List Str) (sp : Sp) : Prop where
  ex : ∃ (f : Addr) (fd : FuncData), FnG P w K mg base k f fd ps sp ∧ mg x = some (.ref f) ∧
    PySem.W.keepIn K (.ref f) = true ∧ Binds K fd ps []
section
variable {X : Cx} {k : Nat} {ps : List Str} {sp : Sp} {x : Str} {p pos : Pos} {e : Expr} {es : List Expr} {t : TA}
theorem pe_own (O : Own X.prog X.w X.K X.mg X.base x k ps sp) (hr : Room k X.A) (hg : Gl X x) (ha : PA X (e :: es) t)
    (hdb : (x == ("__debug__" : Str)) = false := by decide)
    (he : starEach (e :: es) X.env = (false, eval e X.env) :: starEach es X.env := by rfl)
    (hpl : (backTo pos (starEach es X.env)).any (·.1) = false := by rfl) :
    PE X (.Call (.Name x p) (e :: es) [] pos) (tCall sp [] E0 t) := by
  obtain ⟨f, fd, F, hm, hk, hb⟩ := O.ex
  exact pe_call F hr hg hm hk hb .nil pass0 ha hdb he hpl
theorem pe_ownG (O : OwnG X.prog X.w X.K X.mg X.base x k ps sp) (hr : Room k X.A) (gd : X.A.guards = some []) (hg : Gl X x) (ha : PA X (e :: es) t)
    (hdb : (x == ("__debug__" : Str)) = false := by decide)
    (he : starEach (e :: es) X.env = (false, eval e X.env) :: starEach es X.env := by rfl)
    (hpl : (backTo pos (starEach es X.env)).any (·.1) = false := by rfl) :
    PE X (.Call (.Name x p) (e :: es) [] pos) (tCall sp [] E0 t) := by
  obtain ⟨f, fd, F, hm, hk, hb⟩ := O.ex
  exact pe_callG F hr gd hg hm hk hb ha hdb he hpl
theorem piTK (K : PySem.W.Frag) {tg a : Expr} {ta : TE} (ha : PE X a ta) (h : X.K = K := by rfl) : PI X tg a (iTup K ta) := h ▸ pi_tup ha
theorem piLK (K : PySem.W.Frag) {tg a : Expr} {ta : TE} (ha : PE X a ta) (h : X.K = K := by rfl) : PI X tg a (iList K ta) := h ▸ pi_list ha
theorem pgTK (K : PySem.W.Frag) {es : List Expr} {k : Nat} {t : TGs} {n : Nat} (h : PGs X es t) (hc : X.calm = true := by rfl) (hK : X.K = K := by rfl)
    (hn : (assignEach es X.env).length = n := by rfl) (hst : (assignEach es X.env).findIdx? (·.1) = none := by rfl) :
    PG X (.Tuple es k pos) (gTup K n t) := hK ▸ pg_tup hc h hn hst
theorem bmK (K : PySem.W.Frag) {o : Expr} {to : TE} {name : Str} {apos cpos : Pos} {T id : String}
    {r : V → List V → Hp → VK → Prop} (pa : PlainAttrs T) (slot : Slot T name id)
    (hty : typeOf (.builtin id) = pure (.type "method_descriptor")) (hm : MtR X id r) (ho : PE X o to)
    (ha : PA X (e :: es) t) (h : X.K = K := by rfl)
    (hbase : attributeBase o name X.env (eval o X.env) = eval o X.env := by rfl)
    (hfew : ((backTo cpos (starEach (e :: es) X.env)).all (fun x => !x.1)
        && (backToKw cpos (keywordEach [] X.env)).all (fun x => x.1.isSome)
        && decide ((e :: es).length + ([] : List Keyword).length
          + (if ([] : List Keyword).isEmpty then 0 else 1) < 30)) = true := by rfl)
    (hline : (apos.endLine == cpos.line) = true := by rfl)
    (hs : starEach (e :: es) X.env = (false, eval e X.env) :: starEach es X.env := by rfl)
    (hplain : (backTo cpos (starEach es X.env)).any (·.1) = false := by rfl) :
    PE X (.Call (.Attribute o name apos) (e :: es) [] cpos) (tBM K T r to t) :=
  h ▸ pe_bm pa slot hty hm ho ha hbase hfew hline hs hplain
theorem bm0K (K : PySem.W.Frag) {o : Expr} {to : TE} {name : Str} {apos cpos : Pos} {T id : String}
    {r : V → List V → Hp → VK → Prop} (pa : PlainAttrs T) (slot : Slot T name id)
    (hty : typeOf (.builtin id) = pure (.type "method_descriptor")) (hm : MtR X id r) (ho : PE X o to) (h : X.K = K := by rfl)
    (hbase : attributeBase o name X.env (eval o X.env) = eval o X.env := by rfl)
    (hline : (apos.endLine == cpos.line) = true := by rfl) :
    PE X (.Call (.Attribute o name apos) [] [] cpos) (tBM0 K T r to) := h ▸ pe_bm0 pa slot hty hm ho hbase hline
end
end TL
namespace TL
/-! ### ascending lists -/
abbrev Asc (l : List Int) : Prop := l.Pairwise (· < ·)
theorem asc_ext : ∀ {a b : List Int}, Asc a → Asc b → (∀ x, x ∈ a ↔ x ∈ b) → a = b
  | [], [], _, _, _ => rfl
  | [], y :: b, _, _, h => absurd ((h y).mpr List.mem_cons_self) (by simp)
  | x :: a, [], _, _, h => absurd ((h x).mp List.mem_cons_self) (by simp)
  | x :: a, y :: b, ha, hb, h => by
    have ha' := List.pairwise_cons.mp ha
    have hb' := List.pairwise_cons.mp hb
    have e : x = y := by
      rcases List.mem_cons.mp ((h x).mp List.mem_cons_self) with e | q
      · exact e
      · rcases List.mem_cons.mp ((h y).mpr List.mem_cons_self) with e | r
        · exact e.symm
        · have h1 := hb'.1 x q
          have h2 := ha'.1 y r
          omega
    subst e
    congr 1
    refine asc_ext ha'.2 hb'.2 fun z => ⟨fun hz => ?_, fun hz => ?_⟩
    · rcases List.mem_cons.mp ((h z).mp (List.mem_cons_of_mem _ hz)) with e | q
      · have := ha'.1 z hz
        omega
      · exact q
    · rcases List.mem_cons.mp ((h z).mpr (List.mem_cons_of_mem _ hz)) with e | q
      · have := hb'.1 z hz
        omega
      · exact q
theorem Asc.nodup {l : List Int} (h : Asc l) : l.Nodup := h.imp fun h => by omega
def leI (a b : Int) : Bool := decide (a ≤ b)
def srtI (l : List Int) : List Int := l.mergeSort leI
theorem srtI_perm (l : List Int) : (srtI l).Perm l := List.mergeSort_perm l _
theorem srtI_le (l : List Int) : (srtI l).Pairwise (· ≤ ·) :=
  (List.pairwise_mergeSort (le := leI) (fun a b c h1 h2 => by
    have h1 := of_decide_eq_true h1
    have h2 := of_decide_eq_true h2
    exact decide_eq_true (by omega)) (fun a b => by
    unfold leI
    by_cases h : a ≤ b
    · simp [h]
    · have : b ≤ a := by omega
      simp [this]) l).imp fun h => of_decide_eq_true h
theorem mem_srtI {l : List Int} {x : Int} : x ∈ srtI l ↔ x ∈ l := (srtI_perm l).mem_iff
theorem srtI_asc {l : List Int} (h : l.Nodup) : Asc (srtI l) := by
  have n : (srtI l).Nodup := (srtI_perm l).nodup_iff.mpr h
  exact ((srtI_le l).and n).imp fun h => by omega
theorem srtI_of_asc {l : List Int} (h : Asc l) : srtI l = l :=
  List.mergeSort_of_pairwise (h.imp fun h => decide_eq_true (by omega))
theorem srtI_congr {a b : List Int} (h : a.Perm b) : srtI a = srtI b := by
  have p : (srtI a).Perm (srtI b) := (srtI_perm a).trans (h.trans (srtI_perm b).symm)
  exact p.eq_of_pairwise (fun x y _ _ h1 h2 => by omega) (srtI_le a) (srtI_le b)
theorem srtI_length (l : List Int) : (srtI l).length = l.length := (srtI_perm l).length_eq
/-! ### pairs -/
abbrev LtP (p q : Int × Int) : Prop := p.1 < q.1 ∨ (p.1 = q.1 ∧ p.2 < q.2)
abbrev AscP (l : List (Int × Int)) : Prop := l.Pairwise LtP
def leP (p q : Int × Int) : Bool := decide (p.1 < q.1 ∨ (p.1 = q.1 ∧ p.2 ≤ q.2))
def srtP (l : List (Int × Int)) : List (Int × Int) := l.mergeSort leP
theorem srtP_perm (l : List (Int × Int)) : (srtP l).Perm l := List.mergeSort_perm l _
theorem srtP_le (l : List (Int × Int)) : (srtP l).Pairwise fun p q => p.1 < q.1 ∨ (p.1 = q.1 ∧ p.2 ≤ q.2) :=
  (List.pairwise_mergeSort (le := leP) (fun a b c h1 h2 => by
    have h1 := of_decide_eq_true h1
    have h2 := of_decide_eq_true h2
    exact decide_eq_true (by omega)) (fun a b => by
    unfold leP
    by_cases h : a.1 < b.1 ∨ (a.1 = b.1 ∧ a.2 ≤ b.2)
    · simp [h]
    · have : b.1 < a.1 ∨ (b.1 = a.1 ∧ b.2 ≤ a.2) := by omega
      simp [this]) l).imp fun h => of_decide_eq_true h
theorem mem_srtP {l : List (Int × Int)} {x : Int × Int} : x ∈ srtP l ↔ x ∈ l := (srtP_perm l).mem_iff
theorem srtP_asc {l : List (Int × Int)} (h : l.Nodup) : AscP (srtP l) := by
  have n : (srtP l).Nodup := (srtP_perm l).nodup_iff.mpr h
  refine ((srtP_le l).and n).imp fun {a b} h => ?_
  obtain ⟨h1, h2⟩ := h
  rcases h1 with h1 | ⟨h1, h3⟩
  · exact .inl h1
  · refine .inr ⟨h1, ?_⟩
    have : a.2 ≠ b.2 := fun e => h2 (Prod.ext h1 e)
    omega
theorem srtP_of_asc {l : List (Int × Int)} (h : AscP l) : srtP l = l :=
  List.mergeSort_of_pairwise (h.imp fun h => decide_eq_true (by rcases h with h | h <;> omega))
theorem srtP_length (l : List (Int × Int)) : (srtP l).length = l.length := (srtP_perm l).length_eq
/-! ### an edge between two vertices -/
def ordP (a b : Int) : Int × Int := if a ≤ b then (a, b) else (b, a)
theorem srt2 (a b : Int) : srtI [a, b] = [(ordP a b).1, (ordP a b).2] := by
  unfold ordP
  by_cases h : a ≤ b
  · rw [if_pos h]
    exact List.mergeSort_of_pairwise (le := leI) (List.pairwise_cons.mpr ⟨fun x hx => by
      obtain rfl := List.mem_singleton.mp hx
      exact decide_eq_true h, List.pairwise_singleton _ _⟩)
  · rw [if_neg h]
    have p : [a, b].Perm [b, a] := List.Perm.swap _ _ _
    rw [srtI_congr p]
    exact List.mergeSort_of_pairwise (le := leI) (List.pairwise_cons.mpr ⟨fun x hx => by
      obtain rfl := List.mem_singleton.mp hx
      exact decide_eq_true (by omega), List.pairwise_singleton _ _⟩)
theorem ordP_comm (a b : Int) : ordP a b = ordP b a := by
  unfold ordP
  by_cases h : a ≤ b
  · by_cases h2 : b ≤ a
    · obtain rfl : a = b := by omega
      rfl
    · rw [if_pos h, if_neg h2]
  · rw [if_neg h, if_pos (by omega)]
/-! ### forests as they are drawn -/
def rng (m : Nat) : List Int := (List.range m).map Int.ofNat
theorem mem_rng {m : Nat} {x : Int} : x ∈ rng m ↔ 0 ≤ x ∧ x < m := by
  unfold rng
  rw [List.mem_map]
  constructor
  · rintro ⟨i, hi, rfl⟩
    have := List.mem_range.mp hi
    simp only [Int.ofNat_eq_natCast]
    omega
  · intro h
    exact ⟨x.toNat, List.mem_range.mpr (by omega), by simp only [Int.ofNat_eq_natCast]; omega⟩
theorem rng_asc (m : Nat) : Asc (rng m) := by
  unfold rng Asc
  rw [List.pairwise_map]
  exact List.pairwise_lt_range.imp fun h => by simp only [Int.ofNat_eq_natCast]; omega
theorem rng_length (m : Nat) : (rng m).length = m := by
  unfold rng
  rw [List.length_map, List.length_range]
/-- edge k joins the k-th name with an earlier one -/
def edgeOf (nm : List Int) (q : Nat × Nat) : Int × Int := ordP (nm.getD q.1 0) (nm.getD q.2 0)
structure Grow (m : Nat) (nm : List Int) (ks : List (Nat × Nat)) : Prop where
  names : nm.Perm (rng m)
  up : ks.Pairwise fun a b => a.1 < b.1
  down : ∀ q ∈ ks, q.2 < q.1 ∧ q.1 < m
structure IsFor (m : Nat) (es : List (Int × Int)) : Prop where
  asc : AscP es
  rng : ∀ p ∈ es, 0 ≤ p.1 ∧ p.1 < p.2 ∧ p.2 < m
  grow : ∃ nm ks, Grow m nm ks ∧ es.Perm (ks.map (edgeOf nm))
theorem Grow.len {m : Nat} {nm : List Int} {ks : List (Nat × Nat)} (g : Grow m nm ks) : nm.length = m := by
  rw [g.names.length_eq, rng_length]
theorem Grow.nd {m : Nat} {nm : List Int} {ks : List (Nat × Nat)} (g : Grow m nm ks) : nm.Nodup := g.names.nodup_iff.mpr (rng_asc m).nodup
theorem Grow.name {m : Nat} {nm : List Int} {ks : List (Nat × Nat)} (g : Grow m nm ks) {i : Nat} (h : i < m) : 0 ≤ nm.getD i 0 ∧ nm.getD i 0 < m := by
  have hl : i < nm.length := by rw [g.len]; exact h
  have e : nm.getD i 0 = nm[i] := by rw [List.getD_eq_getElem?_getD, List.getElem?_eq_getElem hl]; rfl
  rw [e]
  exact mem_rng.mp (g.names.mem_iff.mp (List.getElem_mem hl))
theorem Grow.inj {m : Nat} {nm : List Int} {ks : List (Nat × Nat)} (g : Grow m nm ks) {i j : Nat} (hi : i < m) (hj : j < m) (e : nm.getD i 0 = nm.getD j 0) : i = j := by
  have hi' : i < nm.length := by rw [g.len]; exact hi
  have hj' : j < nm.length := by rw [g.len]; exact hj
  rw [List.getD_eq_getElem?_getD, List.getElem?_eq_getElem hi', List.getD_eq_getElem?_getD, List.getElem?_eq_getElem hj'] at e
  exact (List.getElem_inj g.nd).mp e
theorem Grow.edge {m : Nat} {nm : List Int} {ks : List (Nat × Nat)} (g : Grow m nm ks) {q : Nat × Nat} (h : q ∈ ks) :
    0 ≤ (edgeOf nm q).1 ∧ (edgeOf nm q).1 < (edgeOf nm q).2 ∧ (edgeOf nm q).2 < m := by
  obtain ⟨h1, h2⟩ := g.down q h
  have a := g.name h2
  have b := g.name (Nat.lt_trans h1 h2)
  have n : nm.getD q.1 0 ≠ nm.getD q.2 0 := fun e => by
    have := g.inj h2 (Nat.lt_trans h1 h2) e
    omega
  unfold edgeOf ordP
  split
  · exact ⟨a.1, by omega, b.2⟩
  · exact ⟨b.1, by omega, a.2⟩
theorem ordP_inj {a b c d : Int} (h : ordP a b = ordP c d) : (a = c ∧ b = d) ∨ (a = d ∧ b = c) := by
  unfold ordP at h
  split at h <;> split at h <;> (injection h with h1 h2; omega)
theorem Grow.nodup {m : Nat} {nm : List Int} {ks : List (Nat × Nat)} (g : Grow m nm ks) : (ks.map (edgeOf nm)).Nodup := by
  rw [List.Nodup, List.pairwise_map]
  have u := g.up
  have d := g.down
  refine (List.Pairwise.and_mem.mp u).imp ?_
  rintro a b ⟨ha, hb, hab⟩ e
  obtain ⟨a1, a2⟩ := d a ha
  obtain ⟨b1, b2⟩ := d b hb
  rcases ordP_inj e with ⟨e1, e2⟩ | ⟨e1, e2⟩
  · have := g.inj a2 b2 e1
    omega
  · have h1 := g.inj a2 (Nat.lt_trans b1 b2) e1
    have h2 := g.inj (Nat.lt_trans a1 a2) b2 e2
    omega
theorem Grow.isFor {m : Nat} {nm : List Int} {ks : List (Nat × Nat)} (g : Grow m nm ks) : IsFor m (srtP (ks.map (edgeOf nm))) where
  asc := srtP_asc g.nodup
  rng := fun p hp => by
    obtain ⟨q, hq, rfl⟩ := List.mem_map.mp (mem_srtP.mp hp)
    exact g.edge hq
  grow := ⟨nm, ks, g, srtP_perm _⟩
theorem rise_len {m : Nat} : ∀ {ks : List (Nat × Nat)} {lo : Nat}, ks.Pairwise (fun a b => a.1 < b.1) → (∀ q ∈ ks, lo ≤ q.1 ∧ q.1 < m) → ks.length ≤ m - lo
  | [], _, _, _ => Nat.zero_le _
  | q :: ks, lo, h, b => by
    have h' := List.pairwise_cons.mp h
    have hq := b q List.mem_cons_self
    have := rise_len (lo := q.1 + 1) h'.2 fun r hr => ⟨h'.1 r hr, (b r (List.mem_cons_of_mem _ hr)).2⟩
    rw [List.length_cons]
    omega
theorem Grow.count {m : Nat} {nm : List Int} {ks : List (Nat × Nat)} (g : Grow m nm ks) : ks.length ≤ m := by
  have := rise_len (lo := 0) g.up fun q hq => ⟨Nat.zero_le _, (g.down q hq).2⟩
  omega
theorem IsFor.count {m : Nat} {es : List (Int × Int)} (f : IsFor m es) : es.length ≤ m := by
  obtain ⟨nm, ks, g, p⟩ := f.grow
  rw [p.length_eq, List.length_map]
  exact g.count
/-! ### neighbours -/
def nearL (m : Nat) (es : List (Int × Int)) (v : Int) : List Int := (rng m).filter fun o => decide (ordP o v ∈ es)
def nbL (es : List (Int × Int)) (v : Int) : List Int := (es.filter fun p => decide (p.2 = v)).map (·.1) ++ (es.filter fun p => decide (p.1 = v)).map (·.2)
theorem nearL_asc (m : Nat) (es : List (Int × Int)) (v : Int) : Asc (nearL m es v) := (rng_asc m).filter _
theorem mem_nearL {m : Nat} {es : List (Int × Int)} {v o : Int} : o ∈ nearL m es v ↔ (0 ≤ o ∧ o < m) ∧ ordP o v ∈ es := by
  unfold nearL
  rw [List.mem_filter, mem_rng, decide_eq_true_eq]
theorem mem_nbL {es : List (Int × Int)} {v o : Int} : o ∈ nbL es v ↔ (o, v) ∈ es ∨ (v, o) ∈ es := by
  unfold nbL
  rw [List.mem_append, List.mem_map, List.mem_map]
  constructor
  · rintro (⟨⟨a, b⟩, h, rfl⟩ | ⟨⟨a, b⟩, h, rfl⟩)
    · obtain ⟨h1, h2⟩ := List.mem_filter.mp h
      have : b = v := of_decide_eq_true h2
      subst this
      exact .inl h1
    · obtain ⟨h1, h2⟩ := List.mem_filter.mp h
      have : a = v := of_decide_eq_true h2
      subst this
      exact .inr h1
  · rintro (h | h)
    · exact .inl ⟨(o, v), List.mem_filter.mpr ⟨h, decide_eq_true rfl⟩, rfl⟩
    · exact .inr ⟨(v, o), List.mem_filter.mpr ⟨h, decide_eq_true rfl⟩, rfl⟩
theorem IsFor.mem_ord {m : Nat} {es : List (Int × Int)} (f : IsFor m es) {o v : Int} : ordP o v ∈ es ↔ (o, v) ∈ es ∨ (v, o) ∈ es := by
  unfold ordP
  by_cases h : o ≤ v
  · rw [if_pos h]
    refine ⟨.inl, fun q => q.elim id fun q => ?_⟩
    have := f.rng _ q
    simp only at this
    omega
  · rw [if_neg h]
    refine ⟨.inr, fun q => q.elim (fun q => ?_) id⟩
    have := f.rng _ q
    simp only at this
    omega
theorem IsFor.nb {m : Nat} {es : List (Int × Int)} (f : IsFor m es) (v : Int) : nbL es v = nearL m es v := by
  refine asc_ext ?_ (nearL_asc m es v) fun o => ?_
  · unfold nbL
    refine List.pairwise_append.mpr ⟨?_, ?_, ?_⟩
    · rw [List.pairwise_map]
      refine (List.Pairwise.and_mem.mp (f.asc.filter fun p => decide (p.2 = v))).imp ?_
      rintro a b ⟨ha, hb, hab⟩
      have h1 : a.2 = v := of_decide_eq_true (List.mem_filter.mp ha).2
      have h2 : b.2 = v := of_decide_eq_true (List.mem_filter.mp hb).2
      rcases hab with h | h <;> omega
    · rw [List.pairwise_map]
      refine (List.Pairwise.and_mem.mp (f.asc.filter fun p => decide (p.1 = v))).imp ?_
      rintro a b ⟨ha, hb, hab⟩
      have h1 : a.1 = v := of_decide_eq_true (List.mem_filter.mp ha).2
      have h2 : b.1 = v := of_decide_eq_true (List.mem_filter.mp hb).2
      rcases hab with h | h <;> omega
    · intro x hx y hy
      obtain ⟨a, ha, rfl⟩ := List.mem_map.mp hx
      obtain ⟨b, hb, rfl⟩ := List.mem_map.mp hy
      have a1 := f.rng _ (List.mem_filter.mp ha).1
      have b1 := f.rng _ (List.mem_filter.mp hb).1
      have h1 : a.2 = v := of_decide_eq_true (List.mem_filter.mp ha).2
      have h2 : b.1 = v := of_decide_eq_true (List.mem_filter.mp hb).2
      omega
  · rw [mem_nbL, mem_nearL, f.mem_ord]
    refine ⟨fun h => ⟨?_, h⟩, fun h => h.2⟩
    rcases h with h | h
    · have := f.rng _ h
      simp only at this
      omega
    · have := f.rng _ h
      simp only at this
      omega
/-! ### settings -/
structure IsSet (m : Nat) (es : List (Int × Int)) (S : List Int) : Prop where
  asc : Asc S
  rng : ∀ v ∈ S, 0 ≤ v ∧ v < m
  free : ∀ u ∈ S, ∀ v ∈ S, ordP u v ∉ es
end TL
namespace TL
open PySem PySem.Spec PyProof.Rows L2
/-! ### sorting ints, pairs -/
theorem le_int_fun : PySem.W.dataLe false PyData.int = leI := by
  funext a b
  exact congrFun (congrFun (PySem.W.dataLe_int (β := Int) id) a) b
theorem le_pr_fun : PySem.W.dataLe false prD = leP := by
  funext p q
  exact congrFun (congrFun (PySem.W.dataLe_ii (β := Int × Int) Prod.fst Prod.snd) p) q
section
variable {K : PySem.W.Frag} {H : Hp} {Q : VK}
theorem sortInts {a : Addr} {ns : List Int} (hS : SqL K H a (ns.map V.int)) (q : ∀ p, H p = none → Q (.ref p) (upd H p (.lst ((srtI ns).map V.int)))) : rSortD K [.ref a] H Q := by
  unfold rSortD
  refine ⟨Int, PyData.int, ns, a, ns.map V.int, rfl, hS, DpAll.of_ints ns, ?_, .inr fun d hd => ?_, fun b _ => by simp [PyData.depth], fun p ys np dy => ?_⟩
  · intro d hd e he
    obtain ⟨x, _, rfl⟩ := List.mem_map.mp hd
    obtain ⟨y, _, rfl⟩ := List.mem_map.mp he
    simp [PySem.W.alike]
  · obtain ⟨x, _, rfl⟩ := List.mem_map.mp hd
    exact ⟨fun z => (nomatch z), fun _ z => (nomatch z)⟩
  · rw [le_int_fun] at dy
    have e := DpAll.ints dy
    subst e
    exact q p np
theorem sortPairs {a : Addr} {xs : List V} {ps : List (Int × Int)} (hS : SqL K H a xs) (hA : DpAll K H xs (ps.map prD))
    (q : ∀ p ys, H p = none → DpAll K H ys ((srtP ps).map prD) → Q (.ref p) (upd H p (.lst ys))) : rSortD K [.ref a] H Q := by
  unfold rSortD
  refine ⟨Int × Int, prD, ps, a, xs, rfl, hS, hA, ?_, .inl fun d hd => ?_, fun b _ => by simp [prD, PyData.depth, PyData.depthAll], fun p ys np dy => ?_⟩
  · intro d hd e he
    obtain ⟨x, _, rfl⟩ := List.mem_map.mp hd
    obtain ⟨y, _, rfl⟩ := List.mem_map.mp he
    simp [prD, PySem.W.alike, PySem.W.alikeAll]
  · obtain ⟨x, _, rfl⟩ := List.mem_map.mp hd
    exact ⟨_, _, rfl⟩
  · rw [le_pr_fun] at dy
    exact q p ys np dy
end
/-! ### forests as data -/
def forD (m : Nat) (es : List (Int × Int)) : PyData := .tuple [.int (m : Int), prsD es]
def intsD (ns : List Int) : PyData := .tuple (ns.map .int)
theorem only_ints : ∀ ns : List Int, onlyAll (ns.map .int) = true
  | [] => by simp [onlyAll]
  | n :: ns => by simp [onlyAll, only, only_ints ns]
theorem only_intsD (ns : List Int) : only (intsD ns) = true := by
  unfold intsD only
  exact only_ints ns
theorem only_forD (m : Nat) (es : List (Int × Int)) : only (forD m es) = true := by
  unfold forD
  simp [only, onlyAll, only_prsD]
section
variable {K : PySem.W.Frag} {H : Hp}
theorem Dp.forI {x : V} {m : Nat} {es : List (Int × Int)} (h : Dp K H x (forD m es)) :
    ∃ a b xs, x = .ref a ∧ SqT K H a [.int (m : Int), .ref b] ∧ SqT K H b xs ∧ DpAll K H xs (es.map prD) := by
  obtain ⟨a, xs, e, h1, h2⟩ := Dp.tupI h
  cases h2 with
  | cons ha hb =>
    cases hb with
    | cons hc hd =>
      cases hd
      obtain ⟨b, ys, e2, h3, h4⟩ := Dp.tupI hc
      subst e2
      rw [Dp.intI ha] at h1
      exact ⟨a, b, ys, e, h1, h3, h4⟩
theorem Dp.intsI {x : V} {ns : List Int} (h : Dp K H x (intsD ns)) : ∃ a, x = .ref a ∧ SqT K H a (ns.map V.int) := by
  obtain ⟨a, xs, e, h1, h2⟩ := Dp.tupI h
  have := DpAll.ints h2
  subst this
  exact ⟨a, e, h1⟩
theorem Dp.ints {a : Addr} {ns : List Int} (h : SqT K H a (ns.map V.int)) : Dp K H (.ref a) (intsD ns) := .tup h (DpAll.of_ints ns)
end
/-! ### equal data -/
theorem eqv_pr (a b : Int × Int) : PyData.eqv (prD a) (prD b) = decide (a = b) := by
  have e : PyData.eqv (prD a) (prD b) = ((a.1 == b.1) && ((a.2 == b.2) && true)) := by simp only [prD, PyData.eqv, PyData.eqvAll]
  rw [e]
  obtain ⟨x, y⟩ := a
  obtain ⟨u, v⟩ := b
  by_cases h1 : x = u
  · by_cases h2 : y = v
    · subst h1 h2; simp
    · have : ¬ ((x, y) : Int × Int) = (u, v) := fun z => h2 (Prod.mk.inj z).2
      rw [decide_eq_false this]; simp [h2]
  · have : ¬ ((x, y) : Int × Int) = (u, v) := fun z => h1 (Prod.mk.inj z).1
    rw [decide_eq_false this]; simp [h1]
theorem any_pr (p : Int × Int) : ∀ es : List (Int × Int), (es.map prD).any (fun z => PyData.eqv z (prD p)) = decide (p ∈ es)
  | [] => by simp
  | e :: es => by
    rw [List.map_cons, List.any_cons, any_pr p es, eqv_pr]
    by_cases h : e = p
    · subst h; simp
    · have h' : ¬ p = e := fun z => h z.symm
      simp [h, h']
theorem lay_pr (p : Int × Int) : (prD p).canLay0 = true := by simp [prD, PyData.canLay0, PyData.canLayAll0]
theorem lay_prs : ∀ es : List (Int × Int), PyData.canLayAll0 (es.map prD) = true
  | [] => by simp [PyData.canLayAll0]
  | e :: es => by simp [PyData.canLayAll0, lay_pr e, lay_prs es]
theorem dep_pr (p : Int × Int) : (prD p).depth ≤ 50 := by simp [prD, PyData.depth, PyData.depthAll]
theorem lay_ints : ∀ ns : List Int, PyData.canLayAll0 (ns.map PyData.int) = true
  | [] => by simp [PyData.canLayAll0]
  | n :: ns => by simp [PyData.canLayAll0, PyData.canLay0, lay_ints ns]
theorem dep_ints : ∀ ns : List Int, PyData.depthAll (ns.map PyData.int) = 0
  | [] => by simp [PyData.depthAll]
  | n :: ns => by simp [PyData.depthAll, PyData.depth, dep_ints ns]
theorem shaped_ints (ns : List Int) : SeqAt.shaped (.list (ns.map PyData.int)) = true := by
  unfold SeqAt.shaped
  simp only [PyData.canLay0, PyData.depth, lay_ints, dep_ints]
  decide
theorem eqv_nil (ns : List Int) : PyData.eqv (.list (ns.map PyData.int)) (.list []) = decide (ns = []) := by
  cases ns with
  | nil => simp [PyData.eqv, PyData.eqvAll]
  | cons n r => simp [PyData.eqv, PyData.eqvAll]
/-! ### ints in lists of ints -/
theorem flat_ints (ns : List Int) : (ns.map V.int).all flatV = true := by
  rw [List.all_map]
  exact List.all_eq_true.mpr fun _ _ => rfl
theorem inV_ints (x : Int) : ∀ ns : List Int, inV (.int x) (ns.map V.int) = decide (x ∈ ns)
  | [] => by simp [inV]
  | n :: ns => by
    have ih := inV_ints x ns
    unfold inV at ih ⊢
    rw [List.map_cons, List.any_cons, ih]
    show (decide (n = x) || decide (x ∈ ns)) = _
    by_cases h : n = x
    · subst h; simp
    · have h' : ¬ x = n := fun z => h z.symm
      simp [h, h']
/-! ### an if whose test is read for any end -/
theorem ifJ {c : TT} {t u : TS} {D : Ends} {σ : L2.St} {H : Hp} (R : Bool → Hp → Prop)
    (h1 : ∀ Q : Bool → Hp → Prop, (∀ b H1, R b H1 → Q b H1) → c σ H Q) (h2 : ∀ H1, R true H1 → t D σ H1) (h3 : ∀ H1, R false H1 → u D σ H1) : tIfS c t u D σ H := by
  refine h1 _ fun b H1 r => ?_
  cases b with
  | true => exact iteT (h2 H1 r)
  | false => exact iteF (h3 H1 r)
end TL
namespace TL
open PySem PySem.Spec PyProof.Rows L2
/-! ### comprehensions that leave all that was tracked as it was -/
theorem lc_gen {K : PySem.W.Frag} {J : It} {g : TG} {tt : TT} {te : TE} {vs : List Nat} {σ : L2.St} {H1 : Hp} {D : Addr} {Qd : Hp → Prop} {β : Type}
    (bs : List β) (σb : β → L2.St) (p : β → Bool) (d : β → PyData) (nD : H1 D = none)
    (hgo : ∀ j H', j < bs.length → Same H1 H' → J.go j H') (hst : ∀ H', Same H1 H' → J.stop bs.length H')
    (hg : ∀ j b x H' H'', bs[j]? = some b → Same H1 H' → J.yld j H' x H'' → H'' = H' ∧ ∀ Q : L2.St → Hp → Prop, Q (σb b) H' → g x (wipe σ vs) H' Q)
    (hw : ∀ b, wipe (σb b) vs = wipe σ vs)
    (ht : ∀ b ∈ bs, ∀ H' (Q : Bool → Hp → Prop), Same H1 H' → (∀ H2, Same H' H2 → Q (p b) H2) → tt (σb b) H' Q)
    (he : ∀ b ∈ bs, p b = true → ∀ H' (Q : VK), Same H1 H' → (∀ H2 y, Same H' H2 → Dp K H2 y (d b) → Q y H2) → te (σb b) H' Q)
    (ho : ∀ b, only (d b) = true) (hl : bs.length ≤ 1000)
    (hd : ∀ H' ys, Same H1 H' → H' D = some (.lst ys) → DpAll K H' ys ((bs.filter p).map d) → Qd H') : LcGoal J g tt te vs σ H1 D Qd := by
  have oa : ∀ l : List β, onlyAll (l.map d) = true := by
    intro l
    induction l with
    | nil => simp [onlyAll]
    | cons b l ih => simp [onlyAll, ho b, ih]
  refine lc_by bs.length (fun i H' => ∃ ys, Same H1 H' ∧ H' D = some (.lst ys) ∧ DpAll K H' ys (((bs.take i).filter p).map d) ∧ ys.length ≤ i) ?_ ?_ ?_ ?_ ?_
  · exact ⟨[], same_upd nD, upd_same, .nil, Nat.le_refl _⟩
  · rintro i H' hi ⟨ys, s, _⟩
    exact hgo i H' hi s
  · rintro H' ⟨ys, s, _⟩
    exact hst H' s
  · rintro i x H' H'' hi ⟨ys, s, eD, a, ln⟩ y
    obtain ⟨rfl, k⟩ := hg i bs[i] x H' H'' (List.getElem?_eq_getElem hi) s y
    have mb : bs[i] ∈ bs := List.getElem_mem hi
    have tk : bs.take (i + 1) = bs.take i ++ [bs[i]] := by rw [List.take_add_one, List.getElem?_eq_getElem hi]; rfl
    refine k _ ⟨hw _, ht _ mb _ _ s fun H2 s2 => ?_⟩
    by_cases hp : p bs[i] = true
    · rw [if_pos hp]
      refine he _ mb hp _ _ (s.trans s2) fun H3 z s3 dz => ?_
      have e3 := s3 _ _ (s2 _ _ eD)
      have kt : KT K H3 (upd H3 D (.lst (ys ++ [z]))) := kt_lst e3
      refine ⟨ys, e3, small1000 (by omega), ys ++ [z], ?_, upd_same, ?_, ?_⟩
      · intro b o e
        rw [upd_ne (ne_of_none e nD)]
        exact s3 _ _ (s2 _ _ (s _ _ e))
      · rw [tk, List.filter_append, List.map_append, List.filter_cons_of_pos hp]
        exact DpAll.append (DpAll.kt kt (DpAll.same (s2.trans s3) a) (oa _)) (.cons (Dp.kt kt dz (ho _)) .nil)
      · rw [List.length_append, List.length_singleton]
        omega
    · rw [if_neg hp]
      refine ⟨ys, s.trans s2, s2 _ _ eD, ?_, by omega⟩
      rw [tk, List.filter_append, List.filter_cons_of_neg hp, List.filter_nil, List.append_nil]
      exact DpAll.same s2 a
  · rintro H' ⟨ys, s, eD, a, _⟩
    rw [List.take_length] at a
    exact hd H' ys s eD a
section
variable {K : PySem.W.Frag} {tt : TT} {te : TE} {vs : List Nat} {σ : L2.St} {H1 : Hp} {D : Addr} {Qd : Hp → Prop}
/-- over a list of ints, the element any data -/
theorem lc_listI {a : Addr} {ns : List Int} {i : Nat} (p : Int → Bool) (d : Int → PyData) (nD : H1 D = none) (hS : SqL K H1 a (ns.map V.int))
    (hw : ∀ v, wipe ((wipe σ vs).set i (some v)) vs = wipe σ vs)
    (ht : ∀ o ∈ ns, ∀ H' (Q : Bool → Hp → Prop), Same H1 H' → (∀ H2, Same H' H2 → Q (p o) H2) → tt ((wipe σ vs).set i (some (.int o))) H' Q)
    (he : ∀ o ∈ ns, p o = true → ∀ H' (Q : VK), Same H1 H' → (∀ H2 y, Same H' H2 → Dp K H2 y (d o) → Q y H2) → te ((wipe σ vs).set i (some (.int o))) H' Q)
    (ho : ∀ o, only (d o) = true) (hl : ns.length ≤ 1000)
    (hd : ∀ H' ys, Same H1 H' → H' D = some (.lst ys) → DpAll K H' ys ((ns.filter p).map d) → Qd H') : LcGoal (Itl K a) (gName i) tt te vs σ H1 D Qd := by
  refine lc_gen ns (fun o => (wipe σ vs).set i (some (.int o))) p d nD (fun j H' hj s => ⟨_, _, s.seq hS, List.getElem?_eq_getElem (by rw [List.length_map]; exact hj)⟩)
    (fun H' s => ⟨_, s.seq hS, by rw [List.length_map]; exact Nat.le_refl _⟩) (fun j b x H' H'' hb s y => ?_) (fun b => hw _) ht he ho hl hd
  obtain ⟨e, hy⟩ := y
  have := hy _ (s.seq hS)
  rw [List.getElem?_map, hb] at this
  cases this
  exact ⟨e, fun Q q => q⟩
/-- over a tuple of ints -/
theorem lc_tupI {a : Addr} {ns : List Int} {i : Nat} (p : Int → Bool) (d : Int → PyData) (nD : H1 D = none) (hS : SqT K H1 a (ns.map V.int))
    (hw : ∀ v, wipe ((wipe σ vs).set i (some v)) vs = wipe σ vs)
    (ht : ∀ o ∈ ns, ∀ H' (Q : Bool → Hp → Prop), Same H1 H' → (∀ H2, Same H' H2 → Q (p o) H2) → tt ((wipe σ vs).set i (some (.int o))) H' Q)
    (he : ∀ o ∈ ns, p o = true → ∀ H' (Q : VK), Same H1 H' → (∀ H2 y, Same H' H2 → Dp K H2 y (d o) → Q y H2) → te ((wipe σ vs).set i (some (.int o))) H' Q)
    (ho : ∀ o, only (d o) = true) (hl : ns.length ≤ 1000)
    (hd : ∀ H' ys, Same H1 H' → H' D = some (.lst ys) → DpAll K H' ys ((ns.filter p).map d) → Qd H') : LcGoal (Itt K a) (gName i) tt te vs σ H1 D Qd := by
  refine lc_gen ns (fun o => (wipe σ vs).set i (some (.int o))) p d nD (fun j H' hj s => ⟨_, _, Same.tup s hS, List.getElem?_eq_getElem (by rw [List.length_map]; exact hj)⟩)
    (fun H' s => ⟨_, Same.tup s hS, by rw [List.length_map]; exact Nat.le_refl _⟩) (fun j b x H' H'' hb s y => ?_) (fun b => hw _) ht he ho hl hd
  obtain ⟨e, hy⟩ := y
  have := hy _ (Same.tup s hS)
  rw [List.getElem?_map, hb] at this
  cases this
  exact ⟨e, fun Q q => q⟩
/-- over range(m) -/
theorem lc_rng {m i : Nat} (p : Int → Bool) (d : Int → PyData) (nD : H1 D = none)
    (hw : ∀ v, wipe ((wipe σ vs).set i (some v)) vs = wipe σ vs)
    (ht : ∀ o ∈ rng m, ∀ H' (Q : Bool → Hp → Prop), Same H1 H' → (∀ H2, Same H' H2 → Q (p o) H2) → tt ((wipe σ vs).set i (some (.int o))) H' Q)
    (he : ∀ o ∈ rng m, p o = true → ∀ H' (Q : VK), Same H1 H' → (∀ H2 y, Same H' H2 → Dp K H2 y (d o) → Q y H2) → te ((wipe σ vs).set i (some (.int o))) H' Q)
    (ho : ∀ o, only (d o) = true) (hl : m ≤ 1000)
    (hd : ∀ H' ys, Same H1 H' → H' D = some (.lst ys) → DpAll K H' ys (((rng m).filter p).map d) → Qd H') : LcGoal (Itr 0 m) (gName i) tt te vs σ H1 D Qd := by
  refine lc_gen (rng m) (fun o => (wipe σ vs).set i (some (.int o))) p d nD (fun j H' hj s => by rw [rng_length] at hj; exact hj)
    (fun H' s => by rw [rng_length]; exact Nat.le_refl _) (fun j b x H' H'' hb s y => ?_) (fun b => hw _) ht he ho (by rw [rng_length]; exact hl) hd
  obtain ⟨e, hy⟩ := y
  unfold rng at hb
  rw [List.getElem?_map] at hb
  obtain ⟨z, hz, rfl⟩ := Option.map_eq_some_iff.mp hb
  obtain ⟨h1, rfl⟩ := List.getElem?_eq_some_iff.mp hz
  rw [List.getElem_range] at *
  subst hy
  refine ⟨e, fun Q q => ?_⟩
  show Q ((wipe σ vs).set i (some (.int (0 + (j : Int))))) H'
  rw [Int.zero_add]
  exact q
/-- over a tuple of pairs, the target two names -/
theorem lc_tupP {a : Addr} {xs : List V} {es : List (Int × Int)} {i j : Nat} (p : Int × Int → Bool) (d : Int × Int → PyData) (nD : H1 D = none) (hS : SqT K H1 a xs) (hA : DpAll K H1 xs (es.map prD))
    (hw : ∀ v u, wipe (((wipe σ vs).set i (some v)).set j (some u)) vs = wipe σ vs)
    (ht : ∀ o ∈ es, ∀ H' (Q : Bool → Hp → Prop), Same H1 H' → (∀ H2, Same H' H2 → Q (p o) H2) → tt (((wipe σ vs).set i (some (.int o.1))).set j (some (.int o.2))) H' Q)
    (he : ∀ o ∈ es, p o = true → ∀ H' (Q : VK), Same H1 H' → (∀ H2 y, Same H' H2 → Dp K H2 y (d o) → Q y H2) → te (((wipe σ vs).set i (some (.int o.1))).set j (some (.int o.2))) H' Q)
    (ho : ∀ o, only (d o) = true) (hl : es.length ≤ 1000)
    (hd : ∀ H' ys, Same H1 H' → H' D = some (.lst ys) → DpAll K H' ys ((es.filter p).map d) → Qd H') :
    LcGoal (Itt K a) (gTup K 2 (gCons (gName i) (gCons (gName j) gNil))) tt te vs σ H1 D Qd := by
  have xl : xs.length = es.length := by rw [DpAll.length hA, List.length_map]
  refine lc_gen es (fun o => ((wipe σ vs).set i (some (.int o.1))).set j (some (.int o.2))) p d nD (fun j H' hj s => ⟨_, _, Same.tup s hS, List.getElem?_eq_getElem (by rw [xl]; exact hj)⟩)
    (fun H' s => ⟨_, Same.tup s hS, by rw [xl]; exact Nat.le_refl _⟩) (fun k b x H' H'' hb s y => ?_) (fun b => hw _ _) ht he ho hl hd
  obtain ⟨e, hy⟩ := y
  obtain ⟨z, hz, dz⟩ := DpAll.get hA (hy _ (Same.tup s hS))
  rw [List.getElem?_map, hb] at hz
  cases hz
  obtain ⟨t, rfl, hT⟩ := Dp.prI (Dp.same s dz)
  exact ⟨e, fun Q q => ⟨t, _, rfl, hT, rfl, _, _, rfl, _, _, rfl, rfl, q⟩⟩
/-- over a list of pairs -/
theorem lc_listP {a : Addr} {xs : List V} {es : List (Int × Int)} {i j : Nat} (p : Int × Int → Bool) (d : Int × Int → PyData) (nD : H1 D = none) (hS : SqL K H1 a xs) (hA : DpAll K H1 xs (es.map prD))
    (hw : ∀ v u, wipe (((wipe σ vs).set i (some v)).set j (some u)) vs = wipe σ vs)
    (ht : ∀ o ∈ es, ∀ H' (Q : Bool → Hp → Prop), Same H1 H' → (∀ H2, Same H' H2 → Q (p o) H2) → tt (((wipe σ vs).set i (some (.int o.1))).set j (some (.int o.2))) H' Q)
    (he : ∀ o ∈ es, p o = true → ∀ H' (Q : VK), Same H1 H' → (∀ H2 y, Same H' H2 → Dp K H2 y (d o) → Q y H2) → te (((wipe σ vs).set i (some (.int o.1))).set j (some (.int o.2))) H' Q)
    (ho : ∀ o, only (d o) = true) (hl : es.length ≤ 1000)
    (hd : ∀ H' ys, Same H1 H' → H' D = some (.lst ys) → DpAll K H' ys ((es.filter p).map d) → Qd H') :
    LcGoal (Itl K a) (gTup K 2 (gCons (gName i) (gCons (gName j) gNil))) tt te vs σ H1 D Qd := by
  have xl : xs.length = es.length := by rw [DpAll.length hA, List.length_map]
  refine lc_gen es (fun o => ((wipe σ vs).set i (some (.int o.1))).set j (some (.int o.2))) p d nD (fun j H' hj s => ⟨_, _, s.seq hS, List.getElem?_eq_getElem (by rw [xl]; exact hj)⟩)
    (fun H' s => ⟨_, s.seq hS, by rw [xl]; exact Nat.le_refl _⟩) (fun k b x H' H'' hb s y => ?_) (fun b => hw _ _) ht he ho hl hd
  obtain ⟨e, hy⟩ := y
  obtain ⟨z, hz, dz⟩ := DpAll.get hA (hy _ (s.seq hS))
  rw [List.getElem?_map, hb] at hz
  cases hz
  obtain ⟨t, rfl, hT⟩ := Dp.prI (Dp.same s dz)
  exact ⟨e, fun Q q => ⟨t, _, rfl, hT, rfl, _, _, rfl, _, _, rfl, rfl, q⟩⟩
end
theorem only_int (i : Int) : only (.int i) = true := by simp [only]
theorem lst_ints {K : PySem.W.Frag} {H : Hp} {ys : List V} {ns : List Int} (h : DpAll K H ys (ns.map .int)) : ys = ns.map V.int := DpAll.ints h
end TL
namespace TL
open PySem PySem.Spec PyProof.Rows L2
theorem onlyAll_app : ∀ a b : List PyData, onlyAll (a ++ b) = (onlyAll a && onlyAll b)
  | [], b => by simp [onlyAll]
  | x :: a, b => by
    rw [List.cons_append]
    simp only [onlyAll, onlyAll_app a b, Bool.and_assoc]
theorem onlyAll_map {β : Type} {d : β → PyData} (h : ∀ b, only (d b) = true) : ∀ l : List β, onlyAll (l.map d) = true
  | [] => by simp [onlyAll]
  | x :: l => by simp [onlyAll, h x, onlyAll_map h l]
/-- [e for u in a tuple of ints for v in what f gives] -/
theorem lc2_tup {K : PySem.W.Frag} {a : Addr} {S : List Int} {i j : Nat} {wi1 : TI} {te : TE} {vs vs1 : List Nat} {σ : L2.St} {H1 : Hp} {D : Addr} {Qd : Hp → Prop}
    (f : Int → List Int) (d : Int → Int → PyData) (nD : H1 D = none) (hS : SqT K H1 a (S.map V.int))
    (hw : ∀ v, wipe ((wipe σ vs).set i (some v)) vs = wipe σ vs)
    (hw1 : ∀ u v, wipe ((wipe ((wipe σ vs).set i (some u)) vs1).set j (some v)) vs1 = wipe ((wipe σ vs).set i (some u)) vs1)
    (hin : ∀ u ∈ S, ∀ H' (R : It → Hp → Prop), Same H1 H' → (∀ H2 b, Same H' H2 → SqT K H2 b ((f u).map V.int) → R (Itt K b) H2) → wi1 ((wipe σ vs).set i (some (.int u))) H' R)
    (he : ∀ u ∈ S, ∀ v ∈ f u, ∀ H' (Q : VK), Same H1 H' → (∀ H2 y, Same H' H2 → Dp K H2 y (d u v) → Q y H2) → te ((wipe ((wipe σ vs).set i (some (.int u))) vs1).set j (some (.int v))) H' Q)
    (ho : ∀ u v, only (d u v) = true) (hl : S.length ≤ 100) (hf : ∀ u ∈ S, (f u).length ≤ 100)
    (hd : ∀ H' ys, Same H1 H' → H' D = some (.lst ys) → DpAll K H' ys (S.flatMap fun u => (f u).map (d u)) → Qd H') :
    ∃ W : Nat → Nat → Hp → Prop, (∃ m, W 0 m (upd H1 D (.lst []))) ∧ ∀ k m H, W k m H →
      ((Itt K a).stop k H ∧ Qd H) ∨
      ((Itt K a).go k H ∧ ∃ Nx : Hp → Prop, (∀ H', Nx H' → ∃ m', m' < m ∧ W (k + 1) m' H') ∧
        ∀ x H', (Itt K a).yld k H x H' → (gName i) x (wipe σ vs) H' fun σ2 H2 =>
          wipe σ2 vs = wipe σ vs ∧ tYes σ2 H2 fun b H3 =>
            if b = true then
              wi1 σ2 H3 fun J1 H4 => ∃ W1 : Nat → Nat → Hp → Prop, (∃ m, W1 0 m H4) ∧ ∀ j' k H, W1 j' k H →
                (J1.stop j' H ∧ Nx H) ∨
                (J1.go j' H ∧ ∃ Nx1 : Hp → Prop, (∀ H', Nx1 H' → ∃ k', k' < k ∧ W1 (j' + 1) k' H') ∧
                  ∀ x H', J1.yld j' H x H' → (gName j) x (wipe σ2 vs1) H' fun σ3 H5 =>
                    wipe σ3 vs1 = wipe σ2 vs1 ∧ tYes σ3 H5 fun b H6 =>
                      if b = true then
                        te σ3 H6 fun y H7 => ∃ acc, H7 D = some (.lst acc) ∧ acc.length < sizeLine ∧ Nx1 (upd H7 D (.lst (acc ++ [y])))
                      else Nx1 H6)
            else Nx H3) := by
  have ofl : ∀ l : List Int, onlyAll (l.flatMap fun u => (f u).map (d u)) = true := by
    intro l
    induction l with
    | nil => simp [onlyAll]
    | cons u l ih => rw [List.flatMap_cons, onlyAll_app, ih, onlyAll_map (ho u)]; rfl
  let Pv : Nat → Hp → Prop := fun k H' => ∃ ys, Same H1 H' ∧ H' D = some (.lst ys) ∧ DpAll K H' ys ((S.take k).flatMap fun u => (f u).map (d u)) ∧ ys.length ≤ 100 * k
  refine ⟨fun k m H => m = S.length - k ∧ k ≤ S.length ∧ Pv k H, ⟨S.length, rfl, Nat.zero_le _, [], same_upd nD, upd_same, .nil, Nat.le_refl _⟩, fun k m H hW => ?_⟩
  obtain ⟨em, hk, ys, s, eD, dy, ln⟩ := hW
  by_cases hlt : k < S.length
  · refine .inr ⟨⟨_, _, Same.tup s hS, List.getElem?_eq_getElem (by rw [List.length_map]; exact hlt)⟩, Pv (k + 1), fun H' p => ⟨S.length - (k + 1), by omega, rfl, hlt, p⟩, fun x H' y => ?_⟩
    obtain ⟨e, hy⟩ := y
    subst e
    have hx := hy _ (Same.tup s hS)
    rw [List.getElem?_map, List.getElem?_eq_getElem hlt] at hx
    cases hx
    have mu : S[k] ∈ S := List.getElem_mem hlt
    have tk : S.take (k + 1) = S.take k ++ [S[k]] := by rw [List.take_add_one, List.getElem?_eq_getElem hlt]; rfl
    refine ⟨hw _, yesI (iteT (hin _ mu _ _ s fun H4 b s4 hb => ?_))⟩
    refine ⟨fun j' m H => m = (f S[k]).length - j' ∧ j' ≤ (f S[k]).length ∧ ∃ zs, Same H1 H ∧ SqT K H b ((f S[k]).map V.int) ∧ H D = some (.lst zs) ∧
      DpAll K H zs (((S.take k).flatMap fun u => (f u).map (d u)) ++ ((f S[k]).take j').map (d S[k])) ∧ zs.length ≤ 100 * k + j', ⟨(f S[k]).length, rfl, Nat.zero_le _, ys, s.trans s4, hb, s4 _ _ eD, ?_, by omega⟩, fun j' m H hW => ?_⟩
    · rw [List.take_zero, List.map_nil, List.append_nil]
      exact DpAll.same s4 dy
    · obtain ⟨em', hj, zs, sj, hbj, eDj, dz, lz⟩ := hW
      have lf := hf _ mu
      by_cases hjl : j' < (f S[k]).length
      · refine .inr ⟨⟨_, _, hbj, List.getElem?_eq_getElem (by rw [List.length_map]; exact hjl)⟩, fun H => ∃ zs, Same H1 H ∧ SqT K H b ((f S[k]).map V.int) ∧ H D = some (.lst zs) ∧
          DpAll K H zs (((S.take k).flatMap fun u => (f u).map (d u)) ++ ((f S[k]).take (j' + 1)).map (d S[k])) ∧ zs.length ≤ 100 * k + (j' + 1),
          fun H' p => ⟨(f S[k]).length - (j' + 1), by omega, rfl, hjl, p⟩, fun x H' y => ?_⟩
        obtain ⟨e, hy⟩ := y
        subst e
        have hx := hy _ hbj
        rw [List.getElem?_map, List.getElem?_eq_getElem hjl] at hx
        cases hx
        have mv : (f S[k])[j'] ∈ f S[k] := List.getElem_mem hjl
        refine ⟨hw1 _ _, yesI (iteT (he _ mu _ mv _ _ sj fun H5 y5 s5 d5 => ?_))⟩
        have e5 := s5 _ _ eDj
        have kt : KT K H5 (upd H5 D (.lst (zs ++ [y5]))) := kt_lst e5
        refine ⟨zs, e5, Nat.lt_of_le_of_lt (show zs.length ≤ 20000 by omega) (by decide), zs ++ [y5], ?_, kt _ _ (Same.tup s5 hbj), upd_same, ?_, ?_⟩
        · intro c o e
          rw [upd_ne (ne_of_none e nD)]
          exact s5 _ _ (sj _ _ e)
        · rw [List.take_add_one, List.getElem?_eq_getElem hjl, List.map_append, ← List.append_assoc]
          refine DpAll.append (DpAll.kt kt (DpAll.same s5 dz) ?_) (.cons (Dp.kt kt d5 (ho _ _)) .nil)
          rw [onlyAll_app, ofl, onlyAll_map (ho _)]
          rfl
        · rw [List.length_append, List.length_singleton]
          omega
      · obtain rfl : j' = (f S[k]).length := by omega
        refine .inl ⟨⟨_, hbj, by rw [List.length_map]; exact Nat.le_refl _⟩, zs, sj, eDj, ?_, by omega⟩
        rw [List.take_length] at dz
        rw [tk, List.flatMap_append, List.flatMap_cons, List.flatMap_nil, List.append_nil]
        exact dz
  · obtain rfl : k = S.length := by omega
    rw [List.take_length] at dy
    exact .inl ⟨⟨_, Same.tup s hS, by rw [List.length_map]; exact Nat.le_refl _⟩, hd H ys s eD dy⟩
section
variable {X : Cx}
def tTruth (K : PySem.W.Frag) (ta : TE) : TT := fun σ H Q => ta σ H fun x H' => ∃ k, TruV K x H' k ∧ Q k H'
theorem truthK (K : PySem.W.Frag) {a : Expr} {ta : TE} (ha : PE X a ta)
    (he : ∀ whole, isTrue a X.env whole = (do let v ← whole; standAt a.pos; holding [v] (truthy v))) (h : X.K = K := by rfl) :
    PT X a (tTruth K ta) := h ▸ pt_truth ha he
theorem isiK (K : PySem.W.Frag) (h : X.K = K := by rfl) : CallR X (.builtin "isinstance") (rIsi K) := h ▸ call_isi
end
theorem ty_tup {K : PySem.W.Frag} {H : Hp} {a : Addr} {xs : List V} (h : SqT K H a xs) : TyX K H (.ref a) (.type "tuple") := by
  rcases h with (h | ⟨o, h⟩) | ⟨o, its, n, h, c, _⟩
  · exact .base (.tup h)
  · exact .fTuple h
  · exact .kTuple h c
end TL
namespace TL
/-! ### slides -/
def oth (m : Nat) (es : List (Int × Int)) (S : List Int) (u v : Int) : List Int := (nearL m es v).filter fun o => decide (o ∈ S) && !decide (o = u)
theorem mem_oth {m : Nat} {es : List (Int × Int)} {S : List Int} {u v o : Int} : o ∈ oth m es S u v ↔ o ∈ nearL m es v ∧ o ∈ S ∧ o ≠ u := by
  unfold oth
  rw [List.mem_filter, Bool.and_eq_true, decide_eq_true_eq, Bool.not_eq_true', decide_eq_false_iff_not]
def stepsL (m : Nat) (es : List (Int × Int)) (T : List Int) : List (Int × Int) := T.flatMap fun u => (nearL m es u).map fun v => (u, v)
def slidesP (m : Nat) (es : List (Int × Int)) (S : List Int) : List (Int × Int) := (stepsL m es S).filter fun p => decide (oth m es S p.1 p.2 = [])
def slidesT (m : Nat) (es : List (Int × Int)) (S T : List Int) : List (Int × Int) := T.flatMap fun u => ((nearL m es u).filter fun v => decide (oth m es S u v = [])).map fun v => (u, v)
theorem slides_eqT (m : Nat) (es : List (Int × Int)) (S : List Int) : ∀ T : List Int, (stepsL m es T).filter (fun p => decide (oth m es S p.1 p.2 = [])) = slidesT m es S T
  | [] => rfl
  | u :: T => by
    have ih := slides_eqT m es S T
    unfold stepsL slidesT at ih ⊢
    rw [List.flatMap_cons, List.flatMap_cons, List.filter_append, ih, List.filter_map]
    rfl
theorem slides_eq (m : Nat) (es : List (Int × Int)) (S : List Int) : slidesP m es S = slidesT m es S S := slides_eqT m es S S
theorem mem_slidesP {m : Nat} {es : List (Int × Int)} {S : List Int} {u v : Int} : (u, v) ∈ slidesP m es S ↔ u ∈ S ∧ v ∈ nearL m es u ∧ oth m es S u v = [] := by
  unfold slidesP stepsL
  rw [List.mem_filter, List.mem_flatMap, decide_eq_true_eq]
  constructor
  · rintro ⟨⟨a, ha, hb⟩, h⟩
    obtain ⟨b, hb, e⟩ := List.mem_map.mp hb
    cases e
    exact ⟨ha, hb, h⟩
  · rintro ⟨h1, h2, h3⟩
    exact ⟨⟨u, h1, List.mem_map.mpr ⟨v, h2, rfl⟩⟩, h3⟩
theorem ascP_steps (m : Nat) (es : List (Int × Int)) : ∀ {T : List Int}, Asc T → AscP (stepsL m es T)
  | [], _ => .nil
  | u :: T, h => by
    have h' := List.pairwise_cons.mp h
    unfold stepsL
    rw [List.flatMap_cons]
    refine List.pairwise_append.mpr ⟨?_, ascP_steps m es h'.2, ?_⟩
    · rw [List.pairwise_map]
      exact (nearL_asc m es u).imp fun h => .inr ⟨rfl, h⟩
    · intro a ha b hb
      obtain ⟨v, _, rfl⟩ := List.mem_map.mp ha
      obtain ⟨z, hz, hb⟩ := List.mem_flatMap.mp hb
      obtain ⟨y, _, rfl⟩ := List.mem_map.mp hb
      exact .inl (h'.1 z hz)
theorem ascP_slides {m : Nat} {es : List (Int × Int)} {S : List Int} (h : Asc S) : AscP (slidesP m es S) := (ascP_steps m es h).filter _
theorem nearL_len (m : Nat) (es : List (Int × Int)) (v : Int) : (nearL m es v).length ≤ m := by
  have := List.length_filter_le (fun o => decide (ordP o v ∈ es)) (rng m)
  rw [rng_length] at this
  exact this
theorem asc_len {m : Nat} : ∀ {S : List Int} {lo : Nat}, Asc S → (∀ v ∈ S, (lo : Int) ≤ v ∧ v < m) → S.length ≤ m - lo
  | [], _, _, _ => Nat.zero_le _
  | v :: S, lo, h, b => by
    have h' := List.pairwise_cons.mp h
    have hv := b v List.mem_cons_self
    have := asc_len (m := m) (lo := v.toNat + 1) h'.2 fun z hz => ⟨by have := h'.1 z hz; omega, (b z (List.mem_cons_of_mem _ hz)).2⟩
    rw [List.length_cons]
    omega
theorem IsSet.len {m : Nat} {es : List (Int × Int)} {S : List Int} (h : IsSet m es S) : S.length ≤ m := by
  have := asc_len (lo := 0) h.asc fun v hv => by have := h.rng v hv; omega
  omega
theorem steps_len (m : Nat) (es : List (Int × Int)) : ∀ T : List Int, (stepsL m es T).length ≤ T.length * m
  | [] => by simp [stepsL]
  | u :: T => by
    have ih := steps_len m es T
    unfold stepsL at ih ⊢
    rw [List.flatMap_cons, List.length_append, List.length_map, List.length_cons, Nat.add_mul, Nat.one_mul]
    have := nearL_len m es u
    omega
/-! ### the setting behind a slide -/
theorem move_perm {u v : Int} : ∀ {S : List Int}, S.Nodup → u ∈ S → (S.map fun l => if l = u then v else l).Perm (S.filter (fun l => !decide (l = u)) ++ [v])
  | [], _, h => nomatch h
  | a :: S, nd, h => by
    have nd' := List.nodup_cons.mp nd
    by_cases e : a = u
    · subst e
      rw [List.map_cons, if_pos rfl, List.filter_cons_of_neg (by simp)]
      have e1 : S.map (fun l => if l = a then v else l) = S := by
        have q : S.map (fun l => if l = a then v else l) = S.map id :=
          List.map_congr_left fun l hl => if_neg fun z => nd'.1 (by rw [← z]; exact hl)
        rw [q, List.map_id]
      have e2 : S.filter (fun l => !decide (l = a)) = S := List.filter_eq_self.mpr fun l hl => by
        have : l ≠ a := fun z => nd'.1 (z ▸ hl)
        simp [this]
      rw [e1, e2]
      exact (List.perm_append_singleton v S).symm
    · rw [List.map_cons, if_neg e, List.filter_cons_of_pos (by simp [e]), List.cons_append]
      exact List.Perm.cons a (move_perm nd'.2 ((List.mem_cons.mp h).resolve_left fun z => e z.symm))
def after (S : List Int) (u v : Int) : List Int := srtI (S.filter (fun l => !decide (l = u)) ++ [v])
theorem after_eq {S : List Int} {u v : Int} (nd : S.Nodup) (h : u ∈ S) : srtI (S.map fun l => if l = u then v else l) = after S u v := srtI_congr (move_perm nd h)
theorem IsFor.loop {m : Nat} {es : List (Int × Int)} (f : IsFor m es) (v : Int) : ordP v v ∉ es := fun h => by
  have := f.rng _ h
  unfold ordP at this
  rw [if_pos (Int.le_refl _)] at this
  simp only at this
  omega
theorem mem_after {S : List Int} {u v z : Int} : z ∈ after S u v ↔ (z ∈ S ∧ z ≠ u) ∨ z = v := by
  unfold after
  rw [mem_srtI, List.mem_append, List.mem_filter, List.mem_singleton, Bool.not_eq_true', decide_eq_false_iff_not]
theorem IsSet.after {m : Nat} {es : List (Int × Int)} {S : List Int} {u v : Int} (f : IsFor m es) (h : IsSet m es S) (hu : u ∈ S) (hv : v ∈ nearL m es u) (ho : oth m es S u v = []) :
    IsSet m es (after S u v) := by
  obtain ⟨rv, av⟩ := mem_nearL.mp hv
  have nv : v ∉ S := fun z => h.free v z u hu av
  have key : ∀ a ∈ S, a ≠ u → ordP a v ∉ es := fun a ha hne hin => by
    have : a ∈ oth m es S u v := mem_oth.mpr ⟨mem_nearL.mpr ⟨h.rng a ha, hin⟩, ha, hne⟩
    rw [ho] at this
    cases this
  refine ⟨srtI_asc ?_, fun z hz => ?_, fun a ha b hb => ?_⟩
  · refine List.nodup_append.mpr ⟨h.asc.nodup.filter _, List.pairwise_singleton _ _, fun a ha b hb e => ?_⟩
    rw [List.mem_singleton.mp hb] at e
    subst e
    exact nv (List.mem_filter.mp ha).1
  · rcases mem_after.mp hz with ⟨h1, _⟩ | rfl
    · exact h.rng z h1
    · exact rv
  · rcases mem_after.mp ha with ⟨h1, h2⟩ | rfl
    · rcases mem_after.mp hb with ⟨h3, h4⟩ | rfl
      · exact h.free a h1 b h3
      · exact key a h1 h2
    · rcases mem_after.mp hb with ⟨h3, h4⟩ | rfl
      · rw [ordP_comm]
        exact key b h3 h4
      · exact f.loop b
end TL
namespace TL
open PySem PySem.Spec PyProof.Rows L2
theorem Sm.ints {ns : List Int} {m : Nat} (h : ∀ v ∈ ns, sm v) (hm : ns.length ≤ m) : Sm (intsD ns) (m * 11) 1 :=
  Sm.tup (n := 10) (k := 0) (m := m) (fun d hd => by
    obtain ⟨p, hp, rfl⟩ := List.mem_map.mp hd
    exact Sm.int (h p hp)) (by rw [List.length_map]; exact hm)
theorem IsSet.shows {m : Nat} {es : List (Int × Int)} {S : List Int} (h : IsSet m es S) (hm : m ≤ 12) : Sm (intsD S) 132 1 :=
  Sm.ints (m := 12) (fun v hv => by have := h.rng v hv; unfold sm; omega) (by have := h.len; omega)
theorem IsFor.shows {m : Nat} {es : List (Int × Int)} (h : IsFor m es) (hm : m ≤ 12) : Sm (forD m es) 600 3 := by
  have h1 : Sm (prsD es) (12 * 23) 2 := Sm.prs (fun p hp => by have := h.rng p hp; unfold smP sm; omega) (by have := h.count; omega)
  have h2 : Sm (.int (m : Int)) (12 * 23) 2 := (Sm.int (by unfold sm; omega)).le (by decide) (by decide)
  refine (Sm.tup (n := 12 * 23) (k := 2) (m := 2) (fun d hd => ?_) (Nat.le_refl _)).le (by decide) (by decide)
  rcases List.mem_cons.mp hd with rfl | hd
  · exact h2
  · obtain rfl := List.mem_singleton.mp hd
    exact h1
theorem slides_small {m : Nat} {es : List (Int × Int)} {S : List Int} (h : IsSet m es S) (hm : m ≤ 12) : ∀ p ∈ slidesP m es S, smP p := by
  rintro ⟨u, v⟩ hp
  obtain ⟨h1, h2, _⟩ := mem_slidesP.mp hp
  have a := h.rng u h1
  have b := (mem_nearL.mp h2).1
  unfold smP sm
  exact ⟨⟨by show (-1000 : Int) ≤ u; omega, by show u ≤ 1000; omega⟩, by show (-1000 : Int) ≤ v; omega, by show v ≤ 1000; omega⟩
theorem slides_len {m : Nat} {es : List (Int × Int)} {S : List Int} (h : IsSet m es S) (hm : m ≤ 12) : (slidesP m es S).length ≤ 144 := by
  have h1 := List.length_filter_le (fun p => decide (oth m es S p.1 p.2 = [])) (stepsL m es S)
  have h2 := steps_len m es S
  have h3 : S.length * m ≤ 12 * 12 := Nat.mul_le_mul (by have := h.len; omega) hm
  unfold slidesP
  omega
theorem Sm.two {d e : PyData} {n k : Nat} (h1 : Sm d n k) (h2 : Sm e n k) : Sm (.list [d, e]) (2 * (n + 1)) (k + 1) :=
  Sm.lst (m := 2) (fun z hz => by
    rcases List.mem_cons.mp hz with rfl | hz
    · exact h1
    · obtain rfl := List.mem_singleton.mp hz
      exact h2) (Nat.le_refl _)
theorem show2 {m : Nat} {es : List (Int × Int)} {S : List Int} (f : IsFor m es) (h : IsSet m es S) (hm : m ≤ 12) : Shows (.list [forD m es, intsD S]) :=
  (Sm.two (f.shows hm) ((h.shows hm).le (by decide) (by decide))).shows (by decide) (by decide)
end TL
namespace TL
open PySem PySem.Spec PyProof.Rows L2
/-! ### enumerate(a tuple) -/
abbrev tupIt (l : Addr) : Obj := { cls := .type "tuple_iterator", data := .fields #[.ref l, .int 0 0] }
abbrev enumOb (it : Addr) : Obj :=
  { cls := .type "enumerate", data := .fields #[.none, .bool false, .ref it, rawInt 0, .none, .none] }
theorem meets_enumT (l : Addr) (items : Array Value) (n : Nat) (dct : Option Addr) (sl : Array (Option Value)) :
    Meets (Builtin.«enumerate.__new__» ⟨[.type "enumerate", .ref l], []⟩) (fun _ R s =>
      s.heap.get? l = some { cls := .type "tuple", dict := dct, data := .seq items n, slots := sl } ∧
      R (.ok (.ret (.ref (s.heap.push (tupIt l)).objs.size)))
        { s with heap := (s.heap.push (tupIt l)).push (enumOb s.heap.objs.size) }) :=
  .of_wp fun prog w A R s h => by
    obtain ⟨hp, g, d, tk, os⟩ := s
    obtain ⟨hl, h⟩ := h
    have hsub := sub_enumerate
    have hL : Heap.IsTuple (Shared.heap ⟨hp, g, d, tk, os⟩) l items := ⟨_, hl, rfl, n, rfl⟩
    wp_walk using AutoSeq1.wpAny_loadPart' hl
    refine wpAny_stack_any fun st => wpAny_pure ?_
    split
    · rename_i c _ _ _ _ _
      cases (c == Value.type "enumerate")
      · wp_walk using AutoSeq1.wpAny_loadPart' hl, wpAny_pyIter_tuple hL
        exact ⟨_, rfl, h⟩
      · wp_walk using AutoSeq1.wpAny_loadPart' hl, wpAny_pyIter_tuple hL
        exact ⟨_, rfl, h⟩
    · wp_walk using AutoSeq1.wpAny_loadPart' hl, wpAny_pyIter_tuple hL
      exact ⟨_, rfl, h⟩
section
variable {prog : Program} {w : World} {A : Around} {E : Value → Shared → Prop} {s : Shared}
theorem call_enumT {l : Addr} {items : Array Value} {Q : Value → Shared → Prop} (hL : s.heap.IsTuple l items)
    (h : ∀ h', IsEnum h' (s.heap.objs.size + 1) s.heap.objs.size 0 .none → h'.IsTupleIter s.heap.objs.size l 0 →
      (∀ b o, s.heap.get? b = some o → h'.get? b = some o) → Q (.ref (s.heap.objs.size + 1)) { s with heap := h' }) :
    wpAny (model prog w) A (call (.type "enumerate") [.ref l]) Q E s := by
  obtain ⟨⟨c, dct, dt, sl⟩, hl, hc, n, hd⟩ := hL
  obtain rfl : c = .type "tuple" := hc
  obtain rfl : dt = .seq items n := hd
  refine callType_new F.called_enumerate (by decide) (F.typeCall_enumerate_1 _) (F.newCall_enumerate_1 _)
    (fun obj => F.args_object_init_2 obj _) F.entry_enumerate_new (meets_enumT l items n dct sl) ⟨hl, ?_⟩
  have hz : (s.heap.push (tupIt l)).objs.size = s.heap.objs.size + 1 := Heap.size_push ..
  show _ ∧ _
  rw [hz]
  have he : IsEnum ((s.heap.push (tupIt l)).push (enumOb s.heap.objs.size)) (s.heap.objs.size + 1) s.heap.objs.size 0 .none := by
    have q := Heap.get?_push_size (s.heap.push (tupIt l)) (o := enumOb s.heap.objs.size) rfl
    rw [hz] at q
    exact q
  exact ⟨⟨_, he, rfl⟩, h _ he ⟨_, Heap.get?_push_of_some _ (Heap.get?_push_size _ rfl), rfl, rfl⟩
    fun b o x => Heap.get?_push_of_some _ (Heap.get?_push_of_some _ x)⟩
end
/-- the tuple at a, each item in a new pair -/
def IteT (K : PySem.W.Frag) (a : Addr) : It :=
  ⟨fun i H => ∃ (xs : List V) (x : V), SqT K H a xs ∧ xs[i]? = some x,
   fun i H v H' => ∃ T x, v = .ref T ∧ H T = none ∧ H' = upd H T (.tup [.int (i : Nat), x]) ∧ ∀ xs, SqT K H a xs → xs[i]? = some x,
   fun i H => ∃ xs : List V, SqT K H a xs ∧ xs.length ≤ i⟩
theorem turn_enumT {P : Program} {w : World} {K : PySem.W.Frag} {elts : List Expr} {kk : Nat} {tpos : Pos} (a e it : Addr) (ha : a ≠ it) :
    Turn P w K (.Tuple elts kk tpos) (IteT K a) [e, it] e
      (fun i h => (∃ old, IsEnum h e it ((i : Nat) : Int) old) ∧ h.IsTupleIter it a i ∧ e ≠ it) where
  mem := by simp
  obj := fun i h st b hb => by
    obtain ⟨⟨old, he⟩, ⟨o, ho, hc, hd⟩, _⟩ := st
    have e' : b = e ∨ b = it := by simpa using hb
    rcases e' with rfl | rfl
    · exact ⟨_, he, fun v q => nomatch q⟩
    · exact ⟨o, ho, fun v q => by rw [hd] at q; cases q⟩
  keep := fun i h h' st k => by
    obtain ⟨⟨old, he⟩, hi, hne⟩ := st
    exact ⟨⟨old, k e (by simp) _ he⟩, hi.at fun o q => k it (by simp) o q, hne⟩
  item := by
    intro X hP hw hK hc i pins s σ H E I hf st hg
    subst hP hw hK
    obtain ⟨⟨old, he⟩, hit, hne⟩ := st
    obtain ⟨xs, x, hq, hx⟩ := hg
    obtain ⟨its, rv, p, hz⟩ := I.tuple hq
    obtain ⟨u, hu, ru⟩ := rv.get hx
    have hel : e < s.heap.objs.size := Heap.lt_size he
    have hil : it < s.heap.objs.size := by
      obtain ⟨_, q, _⟩ := hit
      exact Heap.lt_size q
    have hi : i < its.toArray.size := by
      rw [List.size_toArray]
      exact (List.getElem?_eq_some_iff.mp hu).1
    obtain ⟨o0, ho0, hc0, n0, hd0⟩ := p
    have pT : s.heap.IsTuple a its.toArray := ⟨o0, ho0, hc0, n0, hd0⟩
    refine wpAny_pyNext_enum_itemD (Draws.tuple (A := X.A.in1) (I.ok.hd hc) it a ha its.toArray) he ⟨hit, pT⟩ hi hne (fun z => ?_) fun x' h' tk hP ho hit' hT hsz hk => ?_
    · rcases List.mem_cons.mp z with z | z
      · exact hne z
      · have z := List.mem_singleton.mp z
        rw [z] at he
        have q := Option.some.inj (ho0.symm.trans he)
        rw [q] at hc0
        exact absurd (show Value.type "enumerate" = Value.type "tuple" from hc0) (by decide)
    have ex : x' = u := by
      have h1 : its.toArray[i]? = some x' := hP
      have h2 : its.toArray[i]? = some u := by simpa using hu
      exact Option.some.inj (h1.symm.trans h2)
    subst ex
    refine ⟨_, rfl, wpAny_letOwnedTupleGo_enum (s := { s with heap := h', toks := tk + 1 }) ho fun h'' he' sb => ?_⟩
    have hT2 : h''.get? s.heap.objs.size = some { cls := .type "tuple", data := .seq #[.int i tk, x'] } := (sb.2 _ (Nat.ne_of_gt hel)).trans hT
    have new : ObjOk X.prog X.w (upd H s.heap.objs.size (.tup [.int (i : Nat), x])) h'' s.heap.objs.size (.tup [.int (i : Nat), x]) :=
      ⟨by show 2 ≤ sizeLine; decide, [.int i tk, x'], .cons ⟨_, rfl⟩ (.cons ru .nil), ⟨_, hT2, rfl, _, rfl⟩⟩
    have kept : ∀ b ob, b ∉ [e, it] → s.heap.get? b = some ob → h''.get? b = some ob := fun b ob hb q =>
      (sb.2 b (fun z => hb (by simp [z]))).trans (hk b ob (fun z => hb (by simp [z])) (fun z => hb (by simp [z])) q)
    have I1 := I.turnedNew (t' := tk + 1) (ch := [e, it]) kept hf (Nat.le_refl _) new
    refine ⟨.ref s.heap.objs.size, _, I1, rfl, ⟨_, x, rfl, I.hok.fresh (Nat.le_refl _), rfl, fun ys hy => by rw [I.tuple_inj hy hq]; exact hx⟩,
      ⟨⟨x', ?_⟩, hit'.1.at fun o q => (sb.2 it (Ne.symm hne)).trans q, hne⟩, fun b hb => ?_⟩
    · have e1 : ((i + 1 : Nat) : Int) = (i : Int) + 1 := by omega
      rw [e1]
      exact he'
    · have hb' : b < s.heap.objs.size := by
        have e' : b = e ∨ b = it := by simpa using hb
        rcases e' with rfl | rfl
        · exact hel
        · exact hil
      rw [upd_ne (Nat.ne_of_lt hb')]
      exact (hf b hb).1
  done := by
    intro X hP hw hK hc i pins s σ H E I hf st hg
    subst hP hw hK
    obtain ⟨⟨old, he⟩, hit, hne⟩ := st
    obtain ⟨xs, hq, hx⟩ := hg
    obtain ⟨its, rv, p, hz⟩ := I.tuple hq
    obtain ⟨f0, f1, f2, f3, f4, f5⟩ := hf it (by simp)
    have hl := rv.length
    obtain ⟨o0, ho0, hc0, n0, hd0⟩ := p
    have pT : s.heap.IsTuple a its.toArray := ⟨o0, ho0, hc0, n0, hd0⟩
    have hT : s.TypeIs (.ref e) "enumerate" := ⟨_, he, rfl⟩
    unfold pyNext
    refine wpAny_bind (wpAny_attempt (wpAny_callSpecial?_slot (name := Str.ofString "__next__") hT F.slot_enumerate_next
      (wpAny_call_entry F.slot_enumerate_next hT F.entry_enumerate_next ?_ (F.args_enumerate_next_1 _))))
    show wpAny _ _ (field (.ref e) 2 >>= _) _ _ _
    refine wpAny_bind (wpAny_field he rfl (x := .ref it) rfl ?_)
    refine wpAny_bind (wpAny_nextOf_tuple_end (I.ok.hd hc) hit pT (by simp; omega) fun h' x he' hx' => ?_)
    obtain ⟨o, ho, hc⟩ := hx'
    refine wpAny_bind (wpAny_isInstance (T := "StopIteration") (b := true) ⟨o, ho, hc⟩ isSubtype_stop ?_)
    exact wpAny_pure ⟨rfl, I.turned (t' := s.toks) (fun b o hb q => he' b o hb q) f0 f1 f3 f4 f5⟩
  self := fun A i s Q E st h => by
    obtain ⟨⟨_, he⟩, _⟩ := st
    exact wpAny_pyIter_enum he h
def iEnumT (K : PySem.W.Frag) (ta : TA) : TI := fun σ H R => ta σ H fun vs H1 => ∃ a xs, vs = [.ref a] ∧ SqT K H1 a xs ∧ R (IteT K a) H1
theorem pi_enumT (K : PySem.W.Frag) {X : Cx} {e : Expr} {ta : TA} {p pos tpos : Pos} {elts : List Expr} {kk : Nat} (hg : Gl X "enumerate") (hm : X.mg "enumerate" = none)
    (ha : PA X [e] ta) (hK : X.K = K := by rfl) (hs : starEach [e] X.env = [(false, eval e X.env)] := by rfl) :
    PI X (.Tuple elts kk tpos) (.Call (.Name "enumerate" p) [e] [] pos) (iEnumT K ta) := by
  subst hK
  refine ⟨fun pins s σ H R I h => ?_⟩
  refine Call_ (ld_blt I hg hm boot_enumerate (PyProof.Rows.callWith_type1
    (thn (ha.run pos pins s σ H _ I h) fun us s1 ⟨vs, H1, I1, r1, q1⟩ => ?_) hs rfl))
  obtain ⟨a, xs, ex, hq, q⟩ := q1
  subst ex
  cases r1 with
  | cons r rr =>
    cases rr
    cases r
    obtain ⟨its, rv, ⟨o0, ho0, hc0, n0, hd0⟩, hz⟩ := I1.tuple hq
    have pT : s1.heap.IsTuple a its.toArray := ⟨o0, ho0, hc0, n0, hd0⟩
    refine call_enumT pT fun h' he hit hk => wpAny_pyIter_enum he ?_
    have I2 : Inv X pins σ H1 { s1 with heap := h' } := I1.kept (t' := s1.toks) hk
    refine ⟨s1.heap.objs.size + 1, [s1.heap.objs.size + 1, s1.heap.objs.size], _, _, H1, rfl, I2,
      turn_enumT a (s1.heap.objs.size + 1) s1.heap.objs.size (Nat.ne_of_lt (Heap.lt_size ho0)), ⟨⟨.none, he⟩, hit, Nat.succ_ne_self _⟩, fun b hb => ?_, q⟩
    have hle : s1.heap.objs.size ≤ b := by
      have e' : b = s1.heap.objs.size + 1 ∨ b = s1.heap.objs.size := by simpa using hb
      rcases e' with z | z
      · rw [z]; exact Nat.le_add_right _ _
      · rw [z]; exact Nat.le_refl _
    exact I1.fpOk hle (I1.hok.fresh hle)
/-- a loop over enumerate(a tuple): the new pair at T -/
theorem for_enumT {K : PySem.W.Frag} {a : Addr} {xs : List V} {g : TG} {tb : TS} {D : Ends} {σ : L2.St} {H : Hp} (Pv : Nat → L2.St → Hp → Prop) (h0 : Pv 0 σ H) (hl : ∀ i σ H, Pv i σ H → SqT K H a xs)
    (hs : ∀ i x T σ H, xs[i]? = some x → H T = none → Pv i σ H →
      g (.ref T) σ (upd H T (.tup [.int (i : Nat), x])) fun σ2 H2 => tb { D with nx := Pv (i + 1), ct := Pv (i + 1), bk := D.nx } σ2 H2)
    (hd : ∀ σ H, Pv xs.length σ H → D.nx σ H) :
    ∃ W : Nat → Nat → L2.St → Hp → Prop, (∃ m, W 0 m σ H) ∧ ∀ i m σ H, W i m σ H →
      ((IteT K a).stop i H ∧ D.nx σ H) ∨ ((IteT K a).go i H ∧ ∃ N : L2.St → Hp → Prop, (∀ σ' H', N σ' H' → ∃ m', m' < m ∧ W (i + 1) m' σ' H') ∧
        ∀ v H', (IteT K a).yld i H v H' → g v σ H' fun σ2 H2 => tb { D with nx := N, ct := N, bk := D.nx } σ2 H2) := by
  refine ⟨fun i m σ H => m = xs.length - i ∧ i ≤ xs.length ∧ Pv i σ H, ⟨xs.length, rfl, Nat.zero_le _, h0⟩, fun i m σ H hW => ?_⟩
  obtain ⟨em, hi, p⟩ := hW
  by_cases hlt : i < xs.length
  · refine .inr ⟨⟨xs, _, hl i σ H p, List.getElem?_eq_getElem hlt⟩, Pv (i + 1), fun σ' H' p' => ⟨xs.length - (i + 1), by omega, rfl, hlt, p'⟩, fun v H' y => ?_⟩
    obtain ⟨T, x, rfl, nT, rfl, hx⟩ := y
    exact hs i x T σ H (hx _ (hl i σ H p)) nT p
  · obtain rfl : i = xs.length := by omega
    exact .inl ⟨⟨xs, hl _ σ H p, Nat.le_refl _⟩, hd σ H p⟩
end TL
namespace TL
/-! ### slides one after another -/
def walk (m : Nat) (es : List (Int × Int)) : List Int → List (Int × Int) → Option (List Int)
  | S, [] => some S
  | S, p :: ps => if p ∈ slidesP m es S then walk m es (after S p.1 p.2) ps else none
theorem walk_cons {m : Nat} {es : List (Int × Int)} {S T : List Int} {p : Int × Int} {ps : List (Int × Int)} (h : walk m es S (p :: ps) = some T) :
    p ∈ slidesP m es S ∧ walk m es (after S p.1 p.2) ps = some T := by
  unfold walk at h
  split at h
  · rename_i h1
    exact ⟨h1, h⟩
  · cases h
theorem IsSet.slide {m : Nat} {es : List (Int × Int)} {S : List Int} {p : Int × Int} (f : IsFor m es) (h : IsSet m es S) (hp : p ∈ slidesP m es S) : IsSet m es (TL.after S p.1 p.2) := by
  obtain ⟨u, v⟩ := p
  obtain ⟨h1, h2, h3⟩ := mem_slidesP.mp hp
  exact IsSet.after f h h1 h2 h3
theorem mem_nearL_comm {m : Nat} {es : List (Int × Int)} (f : IsFor m es) {u v : Int} : v ∈ nearL m es u ↔ u ∈ nearL m es v := by
  rw [mem_nearL, mem_nearL, ordP_comm v u]
  constructor
  · rintro ⟨_, h⟩
    refine ⟨?_, h⟩
    rcases f.mem_ord.mp h with q | q
    · have := f.rng _ q; simp only at this; omega
    · have := f.rng _ q; simp only at this; omega
  · rintro ⟨_, h⟩
    refine ⟨?_, h⟩
    rcases f.mem_ord.mp h with q | q
    · have := f.rng _ q; simp only at this; omega
    · have := f.rng _ q; simp only at this; omega
theorem adj_free {m : Nat} {es : List (Int × Int)} {S : List Int} (h : IsSet m es S) {u v : Int} (hu : u ∈ S) (hv : v ∈ nearL m es u) : v ∉ S :=
  fun z => h.free v z u hu (mem_nearL.mp hv).2
/-- another lamp's slide after a slide -/
theorem slide_other {m : Nat} {es : List (Int × Int)} {S : List Int} (f : IsFor m es) (h : IsSet m es S) {u v u' v' : Int} (p : (u, v) ∈ slidesP m es S) (q : (u', v') ∈ slidesP m es S) (ne : u ≠ u') :
    (u', v') ∈ slidesP m es (after S u v) ↔ v' ∉ nearL m es v := by
  obtain ⟨hu, hv, ho⟩ := mem_slidesP.mp p
  obtain ⟨hu', hv', ho'⟩ := mem_slidesP.mp q
  have nv := adj_free h hu hv
  rw [mem_slidesP]
  constructor
  · rintro ⟨_, _, o⟩ z
    have : v ∈ oth m es (after S u v) u' v' := mem_oth.mpr ⟨(mem_nearL_comm f).mp z, mem_after.mpr (.inr rfl), fun e => nv (e ▸ hu')⟩
    rw [o] at this
    cases this
  · intro z
    refine ⟨mem_after.mpr (.inl ⟨hu', fun e => ne e.symm⟩), hv', ?_⟩
    refine List.eq_nil_iff_forall_not_mem.mpr fun a ha => ?_
    obtain ⟨h1, h2, h3⟩ := mem_oth.mp ha
    rcases mem_after.mp h2 with ⟨h4, h5⟩ | rfl
    · have : a ∈ oth m es S u' v' := mem_oth.mpr ⟨h1, h4, h3⟩
      rw [ho'] at this
      cases this
    · exact z ((mem_nearL_comm f).mp h1)
theorem slide_same {m : Nat} {es : List (Int × Int)} {S : List Int} (f : IsFor m es) (h : IsSet m es S) {u v v' : Int} (p : (u, v) ∈ slidesP m es S) : (u, v') ∉ slidesP m es (after S u v) := by
  obtain ⟨hu, hv, ho⟩ := mem_slidesP.mp p
  have nv := adj_free h hu hv
  intro z
  rcases mem_after.mp (mem_slidesP.mp z).1 with ⟨_, h2⟩ | h2
  · exact h2 rfl
  · exact nv (h2 ▸ hu)
theorem slide_back {m : Nat} {es : List (Int × Int)} {S : List Int} (f : IsFor m es) (h : IsSet m es S) {u v : Int} (p : (u, v) ∈ slidesP m es S) : (v, u) ∈ slidesP m es (after S u v) := by
  obtain ⟨hu, hv, ho⟩ := mem_slidesP.mp p
  refine mem_slidesP.mpr ⟨mem_after.mpr (.inr rfl), (mem_nearL_comm f).mp hv, ?_⟩
  refine List.eq_nil_iff_forall_not_mem.mpr fun a ha => ?_
  obtain ⟨h1, h2, h3⟩ := mem_oth.mp ha
  rcases mem_after.mp h2 with ⟨h4, h5⟩ | h4
  · exact h.free a h4 u hu (mem_nearL.mp h1).2
  · exact h3 h4
theorem after_comm {m : Nat} {es : List (Int × Int)} {S : List Int} (f : IsFor m es) (h : IsSet m es S) {u v u' v' : Int} (p : (u, v) ∈ slidesP m es S) (q : (u', v') ∈ slidesP m es S) (ne : u ≠ u')
    (ap : v' ∉ nearL m es v) : after (after S u v) u' v' = after (after S u' v') u v := by
  obtain ⟨hu, hv, ho⟩ := mem_slidesP.mp p
  obtain ⟨hu', hv', ho'⟩ := mem_slidesP.mp q
  have nv := adj_free h hu hv
  have nv' := adj_free h hu' hv'
  have s1 := IsSet.slide f (IsSet.slide f h p) ((slide_other f h p q ne).mpr ap)
  have ap' : v ∉ nearL m es v' := fun z => ap ((mem_nearL_comm f).mp z)
  have s2 := IsSet.slide f (IsSet.slide f h q) ((slide_other f h q p (Ne.symm ne)).mpr ap')
  refine asc_ext s1.asc s2.asc fun z => ?_
  have e1 : v ≠ u' := fun e => nv (e ▸ hu')
  have e2 : v' ≠ u := fun e => nv' (e ▸ hu)
  rw [mem_after, mem_after, mem_after, mem_after]
  constructor
  · rintro (⟨⟨a, b⟩ | a, c⟩ | a)
    · exact .inl ⟨.inl ⟨a, c⟩, b⟩
    · exact .inr a
    · exact .inl ⟨.inr a, by rw [a]; exact e2⟩
  · rintro (⟨⟨a, b⟩ | a, c⟩ | a)
    · exact .inl ⟨.inl ⟨a, c⟩, b⟩
    · exact .inr a
    · exact .inl ⟨.inr a, by rw [a]; exact e1⟩
theorem walk_two {m : Nat} {es : List (Int × Int)} {S : List Int} (f : IsFor m es) (h : IsSet m es S) {p q : Int × Int} (hp : p ∈ slidesP m es S) (hq : q ∈ slidesP m es S) (ne : p.1 ≠ q.1)
    (ap : q.2 ∉ nearL m es p.2) : walk m es S [p, q] = some (after (after S p.1 p.2) q.1 q.2) := by
  have h2 : q ∈ slidesP m es (after S p.1 p.2) := (slide_other f h (u := p.1) (v := p.2) (u' := q.1) (v' := q.2) hp hq ne).mpr ap
  unfold walk
  rw [if_pos hp]
  unfold walk
  rw [if_pos h2]
  rfl
end TL
namespace TL
open PySem PySem.Spec PyProof.Rows L2
section
variable {X : Cx}
/-- name = {..} on one line, the name a local -/
theorem ps_setDc {i : Nat} {y : Str} {py : Pos} {kx vx tg iter : Expr} {ifs : List Expr} {scope : Scope} {own : List (Str × Nat)} {pos spos : Pos}
    {wi : TI} {g : TG} {tt : TT} {tk tv : TE} (hc : X.calm = true) (hN : X.N.Nodup) (hy : X.N[i]? = some y) (hyl : X.env.scope.names.lookup y = some .local)
    (hsw : swapsWith (.DictComp kx vx [⟨tg, iter, ifs, 0⟩] scope pos) (some (.Name y py)) spos.line X.env = pure true)
    (hi : PI X tg iter wi) (ok : BlkOk X.N X.env.scope scope own)
    (hg : ∀ (s : Shared) (H : Hp) (C : Addr) (cl : List (Str × Addr)) (fp : List Addr),
      PG (X.blk s H scope (compEnvC scope cl C X.env) fp) tg g)
    (ht : ∀ (s : Shared) (H : Hp) (C : Addr) (cl : List (Str × Addr)) (fp : List Addr),
      PTs (X.blk s H scope (compEnvC scope cl C X.env) fp) ifs tt)
    (hk : ∀ (s : Shared) (H : Hp) (C : Addr) (cl : List (Str × Addr)) (fp : List Addr),
      PE (X.blk s H scope (compEnvC scope cl C X.env) fp) kx tk)
    (he : ∀ (s : Shared) (H : Hp) (C : Addr) (cl : List (Str × Addr)) (fp : List Addr),
      PE (X.blk s H scope (compEnvC scope cl C X.env) fp) vx tv)
    (hs : ∀ x, foldedSetIterable iter X.env x = pure x := by intro _; rfl) :
    PS X (.Assign [.Name y py] (.DictComp kx vx [⟨tg, iter, ifs, 0⟩] scope pos) spos) (tAsg (tDc wi g tt tk tv (own.map (·.2))) (gName i)) := by
  refine ⟨fun pins s σ H D I h => ?_⟩
  rw [exec_Assign_Name_used _ _ _ _ hsw]
  refine wpAny_bind (wpAny_standAt (wpAny_bind ?_))
  show wpAny _ X.A (do
    let _ ← comprehension (.DictComp kx vx [⟨tg, iter, ifs, 0⟩] scope pos) scope X.env
      (firstIterPos [⟨tg, iter, ifs, 0⟩] pos) newDict false (eval iter X.env) (some (assign (.Name y py) X.env))) _ _ s
  have h2 : tDc wi g tt tk tv (own.map (·.2)) σ H (fun x H1 => gName i x σ H1 D.nx) := h
  refine wpAny_bind (thn (dc_core (Qf := fun _ s' => SP X pins D .next s') hc hN I hi ok hg ht hk he hs h2
    fun L C s' m H' I' q hn f => ?_) fun _ s' hq => wpAny_pure (wpAny_pure hq))
  show wpAny _ _ (assign (.Name y py) X.env (.ref L)) _ _ _
  refine wpAny_assign_Name (store_ok2 (v := V.ref L) I' hN hy (.inl hyl) rfl (fun s2 I2 ⟨a, sb, ha⟩ => ?_) (.inr hyl))
  obtain ⟨f0, f1, f2, f3, f4, f5⟩ := f
  have haC : C ≠ a := by
    rcases ha with z | z
    · rw [z]; exact f1
    · exact fun e => f4 y a z e.symm
  exact ⟨m, hn.sameBut sb haC, fun h3 sb3 => ⟨_, H', I2.turned (t' := s2.toks) (fun b o hb e => (sb3.2 b hb).trans e) f0 f1 f3 f4 f5, q⟩⟩
theorem sw_trueD {kx vx : Expr} {gs : List Comprehension} {scope : Scope} {pos py : Pos} {y : Str} {l : Nat} {env : Env} (hk : env.scope.kind = .function)
    (hy : env.scope.names.lookup y = some .local) (hl : (py.line == pos.line) = true)
    (ha : (scope.names.any fun (n, k) => n == y && (k == .local || k == .cell)) = false) :
    swapsWith (.DictComp kx vx gs scope pos) (some (.Name y py)) l env = pure true := by
  have ky : env.kindOf y = some .local := hy
  have hb : env.blockKind = .function := by
    unfold Env.blockKind
    rw [hk]
    rfl
  unfold swapsWith
  simp only [hb, ky, ha, Expr.pos, hl]
  rfl
end
/-! ### tables from ints to ints -/
def tab (f : Int → Int) (vs : List Int) : List (Key × V) := vs.map fun v => ((Sum.inl v : Key), V.int (f v))
theorem tab_val (f : Int → Int) (v : Int) : ∀ vs : List Int, valV (tab f vs) (Sum.inl v) = if v ∈ vs then some (V.int (f v)) else none
  | [] => rfl
  | u :: vs => by
    have ih := tab_val f v vs
    unfold tab at ih ⊢
    rw [List.map_cons]
    by_cases e : u = v
    · subst e
      rw [valV_pos rfl, if_pos List.mem_cons_self]
    · have e' : ¬ (Sum.inl u : Key) = Sum.inl v := fun z => e (Sum.inl.inj z)
      rw [valV_neg e', ih]
      by_cases h : v ∈ vs
      · rw [if_pos h, if_pos (List.mem_cons_of_mem _ h)]
      · rw [if_neg h, if_neg fun z => (List.mem_cons.mp z).elim (fun z => e z.symm) h]
theorem tab_len (f : Int → Int) (vs : List Int) : (tab f vs).length = vs.length := List.length_map _
theorem tab_snoc (f : Int → Int) (vs : List Int) (v : Int) (h : v ∉ vs) : putK (tab f vs) (Sum.inl v) (V.int (f v)) = tab f (vs ++ [v]) := by
  rw [putK_new _ (by rw [tab_val, if_neg h])]
  unfold tab
  rw [List.map_append]
  rfl
/-- {v: f(v) for v in ..}: the turns leave what was tracked as it was -/
theorem dc_tab {J : It} {g : TG} {tk tv : TE} {vs : List Nat} {σ : L2.St} {H1 : Hp} {D : Addr} {Qd : Hp → Prop} (f : Int → Int) (bs : List Int) (σb : Int → L2.St)
    (nd : bs.Nodup) (nD : H1 D = none) (hl : bs.length ≤ 1000)
    (hgo : ∀ j H', j < bs.length → Same H1 H' → J.go j H') (hst : ∀ H', Same H1 H' → J.stop bs.length H')
    (hg : ∀ j b x H' H'', bs[j]? = some b → Same H1 H' → J.yld j H' x H'' → H'' = H' ∧ ∀ Q : L2.St → Hp → Prop, Q (σb b) H' → g x (wipe σ vs) H' Q)
    (hw : ∀ b, wipe (σb b) vs = wipe σ vs)
    (hk : ∀ b ∈ bs, ∀ H' (Q : VK), Same H1 H' → Q (.int b) H' → tk (σb b) H' Q)
    (hv : ∀ b ∈ bs, ∀ H' (Q : VK), Same H1 H' → (∀ H2, Same H' H2 → Q (.int (f b)) H2) → tv (σb b) H' Q)
    (hd : ∀ H', Same H1 H' → H' D = some (.dK (tab f bs)) → Qd H') :
    ∃ W : Nat → Nat → Hp → Prop, (∃ m, W 0 m (upd H1 D (.dK []))) ∧ ∀ i m H, W i m H →
      (J.stop i H ∧ Qd H) ∨
      (J.go i H ∧ ∃ Nx : Hp → Prop, (∀ H', Nx H' → ∃ m', m' < m ∧ W (i + 1) m' H') ∧
        ∀ x H', J.yld i H x H' → g x (wipe σ vs) H' fun σ2 H2 => wipe σ2 vs = wipe σ vs ∧ tYes σ2 H2 fun b H3 =>
          if b = true then
            tk σ2 H3 fun y H4 => tv σ2 H4 fun z H5 => ∃ kvs k, y = kV k ∧ H5 D = some (.dK kvs) ∧ kvs.length < sizeLine ∧ Nx (upd H5 D (.dK (putK kvs k z)))
          else Nx H3) := by
  let Pv : Nat → Hp → Prop := fun i H' => Same H1 H' ∧ H' D = some (.dK (tab f (bs.take i)))
  refine ⟨fun i m H => m = bs.length - i ∧ i ≤ bs.length ∧ Pv i H, ⟨bs.length, rfl, Nat.zero_le _, same_upd nD, upd_same⟩, fun i m H hW => ?_⟩
  obtain ⟨em, hi, s, eD⟩ := hW
  by_cases hlt : i < bs.length
  · refine .inr ⟨hgo i H hlt s, Pv (i + 1), fun H' p => ⟨bs.length - (i + 1), by omega, rfl, hlt, p⟩, fun x H' y => ?_⟩
    obtain ⟨rfl, k⟩ := hg i bs[i] x H H' (List.getElem?_eq_getElem hlt) s y
    have mb : bs[i] ∈ bs := List.getElem_mem hlt
    refine k _ ⟨hw _, yesI (iteT (hk _ mb _ _ s (hv _ mb _ _ s fun H5 s5 => ?_)))⟩
    have tk' : bs.take (i + 1) = bs.take i ++ [bs[i]] := by rw [List.take_add_one, List.getElem?_eq_getElem hlt]; rfl
    have ni : bs[i] ∉ bs.take i := fun z => by
      obtain ⟨j, hj, e⟩ := List.mem_iff_getElem.mp z
      rw [List.length_take] at hj
      rw [List.getElem_take] at e
      have := (List.getElem_inj nd).mp e
      omega
    refine ⟨tab f (bs.take i), Sum.inl bs[i], rfl, s5 _ _ eD, ?_, ?_, ?_⟩
    · rw [tab_len, List.length_take]
      exact small1000 (by omega)
    · intro b o e
      rw [upd_ne (ne_of_none e nD)]
      exact s5 _ _ (s _ _ e)
    · rw [upd_same, tab_snoc f _ _ ni, tk']
  · obtain rfl : i = bs.length := by omega
    rw [List.take_length] at eD
    exact .inl ⟨hst H s, hd H s eD⟩
end TL
namespace TL
/-! ### labels: vertices that edges join have one label -/
inductive Conn (es : List (Int × Int)) : Int → Int → Prop
  | refl (a : Int) : Conn es a a
  | step {a b c : Int} : Conn es a b → ((b, c) ∈ es ∨ (c, b) ∈ es) → Conn es a c
theorem Conn.trans {es : List (Int × Int)} {a b c : Int} (h : Conn es a b) (k : Conn es b c) : Conn es a c := by
  induction k with
  | refl => exact h
  | step _ e ih => exact .step ih e
theorem Conn.symm {es : List (Int × Int)} {a b : Int} (h : Conn es a b) : Conn es b a := by
  induction h with
  | refl => exact .refl _
  | step _ e ih => exact Conn.trans (.step (.refl _) e.symm) ih
theorem Conn.mono {es fs : List (Int × Int)} (s : ∀ p ∈ es, p ∈ fs) {a b : Int} (h : Conn es a b) : Conn fs a b := by
  induction h with
  | refl => exact .refl _
  | step _ e ih => exact .step ih (e.imp (s _) (s _))
def mrg (f : Int → Int) (a b : Int) : Int → Int := fun v => if f v = f a then f b else f v
structure Lab (es : List (Int × Int)) (vs : List Int) (f : Int → Int) : Prop where
  join : ∀ p ∈ es, p.1 ∈ vs → p.2 ∈ vs → f p.1 = f p.2
  conn : ∀ a ∈ vs, ∀ b ∈ vs, f a = f b → Conn (es.filter fun p => decide (p.1 ∈ vs) && decide (p.2 ∈ vs)) a b
theorem Lab.start (vs : List Int) : Lab [] vs id := ⟨(fun _ h => nomatch h), fun a _ b _ e => by
  have e : a = b := e
  rw [e]
  exact .refl _⟩
theorem filt_sub {es : List (Int × Int)} {p : Int × Int} {q : Int × Int → Bool} : ∀ r ∈ es.filter q, r ∈ (es ++ [p]).filter q := fun r hr => by
  rw [List.filter_append]
  exact List.mem_append_left _ hr
theorem Lab.skip {es : List (Int × Int)} {vs : List Int} {f : Int → Int} {p : Int × Int} (h : Lab es vs f) (n : ¬ (p.1 ∈ vs ∧ p.2 ∈ vs)) : Lab (es ++ [p]) vs f where
  join := fun r hr h1 h2 => by
    rcases List.mem_append.mp hr with hr | hr
    · exact h.join r hr h1 h2
    · rw [List.mem_singleton.mp hr] at h1 h2
      exact absurd ⟨h1, h2⟩ n
  conn := fun a ha b hb e => (h.conn a ha b hb e).mono filt_sub
theorem Lab.merge {es : List (Int × Int)} {vs : List Int} {f : Int → Int} {p : Int × Int} (h : Lab es vs f) (h1 : p.1 ∈ vs) (h2 : p.2 ∈ vs) : Lab (es ++ [p]) vs (mrg f p.1 p.2) where
  join := fun r hr k1 k2 => by
    unfold mrg
    rcases List.mem_append.mp hr with hr | hr
    · rw [h.join r hr k1 k2]
    · rw [List.mem_singleton.mp hr, if_pos rfl]
      split <;> rfl
  conn := fun a ha b hb e => by
    have up : ∀ x ∈ vs, ∀ y ∈ vs, f x = f y → Conn ((es ++ [p]).filter fun p => decide (p.1 ∈ vs) && decide (p.2 ∈ vs)) x y := fun x hx y hy q => (h.conn x hx y hy q).mono filt_sub
    have ed : Conn ((es ++ [p]).filter fun p => decide (p.1 ∈ vs) && decide (p.2 ∈ vs)) p.1 p.2 := by
      refine .step (.refl _) (.inl ?_)
      refine List.mem_filter.mpr ⟨List.mem_append_right _ (List.mem_singleton.mpr rfl), ?_⟩
      rw [Bool.and_eq_true, decide_eq_true_eq, decide_eq_true_eq]
      exact ⟨h1, h2⟩
    unfold mrg at e
    by_cases ea : f a = f p.1
    · by_cases eb : f b = f p.1
      · exact up a ha b hb (ea.trans eb.symm)
      · rw [if_pos ea, if_neg eb] at e
        exact ((up a ha _ h1 ea).trans ed).trans (up _ h2 b hb e)
    · by_cases eb : f b = f p.1
      · rw [if_neg ea, if_pos eb] at e
        exact (((up b hb _ h1 eb).trans ed).trans (up _ h2 a ha e.symm)).symm
      · rw [if_neg ea, if_neg eb] at e
        exact up a ha b hb e
/-! ### groups of one label -/
structure Grp (f : Int → Int) (T : List Int) (gs : List (Int × List Int)) : Prop where
  nd : (gs.map (·.1)).Nodup
  is : ∀ g ∈ gs, g.2 = T.filter (fun v => decide (f v = g.1)) ∧ g.2 ≠ []
  all : ∀ v ∈ T, f v ∈ gs.map (·.1)
theorem Grp.start (f : Int → Int) : Grp f [] [] := ⟨.nil, (fun _ h => nomatch h), (fun _ h => nomatch h)⟩
def addG (gs : List (Int × List Int)) (l v : Int) : List (Int × List Int) :=
  if l ∈ gs.map (·.1) then gs.map (fun g => if g.1 = l then (g.1, g.2 ++ [v]) else g) else gs ++ [(l, [v])]
theorem addG_keys_old {gs : List (Int × List Int)} {l v : Int} : (gs.map (fun g => if g.1 = l then (g.1, g.2 ++ [v]) else g)).map (·.1) = gs.map (·.1) := by
  rw [List.map_map]
  refine List.map_congr_left fun g _ => ?_
  show (if g.1 = l then (g.1, g.2 ++ [v]) else g).1 = g.1
  split <;> rfl
theorem Grp.add {f : Int → Int} {T : List Int} {gs : List (Int × List Int)} (h : Grp f T gs) (v : Int) : Grp f (T ++ [v]) (addG gs (f v) v) := by
  unfold addG
  by_cases hin : f v ∈ gs.map (·.1)
  · rw [if_pos hin]
    refine ⟨by rw [addG_keys_old]; exact h.nd, fun g hg => ?_, fun u hu => ?_⟩
    · obtain ⟨g0, hg0, rfl⟩ := List.mem_map.mp hg
      obtain ⟨i1, i2⟩ := h.is g0 hg0
      by_cases e : g0.1 = f v
      · rw [if_pos e]
        refine ⟨?_, by simp⟩
        show g0.2 ++ [v] = _
        rw [List.filter_append, ← i1, List.filter_cons_of_pos (by simp [e])]
        rfl
      · rw [if_neg e]
        refine ⟨?_, i2⟩
        rw [List.filter_append, ← i1, List.filter_cons_of_neg (by simp; exact fun z => e z.symm), List.filter_nil, List.append_nil]
    · rw [addG_keys_old]
      rcases List.mem_append.mp hu with hu | hu
      · exact h.all u hu
      · rw [List.mem_singleton.mp hu]
        exact hin
  · rw [if_neg hin]
    have none : T.filter (fun u => decide (f u = f v)) = [] := List.filter_eq_nil_iff.mpr fun u hu z => hin (by
      rw [← of_decide_eq_true z]
      exact h.all u hu)
    refine ⟨?_, fun g hg => ?_, fun u hu => ?_⟩
    · rw [List.map_append]
      refine List.nodup_append.mpr ⟨h.nd, List.pairwise_singleton _ _, fun a ha b hb e => ?_⟩
      rw [List.mem_singleton.mp hb] at e
      have e : a = f v := e
      rw [e] at ha
      exact hin ha
    · rcases List.mem_append.mp hg with hg | hg
      · obtain ⟨i1, i2⟩ := h.is g hg
        refine ⟨?_, i2⟩
        have : ¬ f v = g.1 := fun z => hin (by rw [z]; exact List.mem_map.mpr ⟨g, hg, rfl⟩)
        rw [List.filter_append, ← i1, List.filter_cons_of_neg (by simp [this]), List.filter_nil, List.append_nil]
      · rw [List.mem_singleton.mp hg]
        refine ⟨?_, by simp⟩
        rw [List.filter_append, none, List.nil_append, List.filter_cons_of_pos (by simp)]
        rfl
    · rw [List.map_append]
      rcases List.mem_append.mp hu with hu | hu
      · exact List.mem_append_left _ (h.all u hu)
      · rw [List.mem_singleton.mp hu]
        exact List.mem_append_right _ (List.mem_singleton.mpr rfl)
theorem Grp.len {f : Int → Int} {T : List Int} {gs : List (Int × List Int)} (h : Grp f T gs) : gs.length ≤ T.length := by
  have key : ∀ (l : List Int), l.Nodup → (∀ x ∈ l, x ∈ T.map f) → l.length ≤ T.length := by
    intro l nd sub
    have := nd.length_le_of_subset sub
    rw [List.length_map] at this
    exact this
  have := key (gs.map (·.1)) h.nd fun x hx => by
    obtain ⟨g, hg, rfl⟩ := List.mem_map.mp hx
    obtain ⟨i1, i2⟩ := h.is g hg
    obtain ⟨u, hu⟩ := List.exists_mem_of_ne_nil _ i2
    rw [i1] at hu
    obtain ⟨a, b⟩ := List.mem_filter.mp hu
    exact List.mem_map.mpr ⟨u, a, of_decide_eq_true b⟩
  rw [List.length_map] at this
  exact this
end TL
namespace TL
open PySem PySem.Spec L2
/-! ### walks and the way back -/
def run (S : List Int) (ps : List (Int × Int)) : List Int := ps.foldl (fun S p => after S p.1 p.2) S
theorem run_snoc (S : List Int) (ps : List (Int × Int)) (p : Int × Int) : run S (ps ++ [p]) = after (run S ps) p.1 p.2 := by
  unfold run
  rw [List.foldl_append]
  rfl
theorem walk_run {m : Nat} {es : List (Int × Int)} : ∀ {ps : List (Int × Int)} {S T : List Int}, walk m es S ps = some T → T = run S ps
  | [], S, T, h => by cases h; rfl
  | p :: ps, S, T, h => by
    obtain ⟨_, h2⟩ := walk_cons h
    exact (walk_run h2 : T = run (after S p.1 p.2) ps)
theorem walk_push {m : Nat} {es : List (Int × Int)} {S : List Int} {p : Int × Int} {ps : List (Int × Int)} (h : p ∈ slidesP m es S) : walk m es S (p :: ps) = walk m es (after S p.1 p.2) ps := by
  show (if p ∈ slidesP m es S then _ else _) = _
  rw [if_pos h]
theorem walk_app {m : Nat} {es : List (Int × Int)} {qs : List (Int × Int)} : ∀ {ps : List (Int × Int)} {S T : List Int}, walk m es S ps = some T → walk m es S (ps ++ qs) = walk m es T qs
  | [], S, T, h => by cases h; rfl
  | p :: ps, S, T, h => by
    obtain ⟨h1, h2⟩ := walk_cons h
    rw [List.cons_append, walk_push h1]
    exact walk_app h2
theorem walk_some {m : Nat} {es : List (Int × Int)} {qs : List (Int × Int)} : ∀ {ps : List (Int × Int)} {S T : List Int}, walk m es S (ps ++ qs) = some T → walk m es S ps = some (run S ps) ∧ walk m es (run S ps) qs = some T
  | [], S, T, h => ⟨rfl, h⟩
  | p :: ps, S, T, h => by
    rw [List.cons_append] at h
    obtain ⟨h1, h2⟩ := walk_cons h
    rw [walk_push h1]
    exact walk_some h2
theorem walk_cut {m : Nat} {es : List (Int × Int)} {ps : List (Int × Int)} {S T : List Int} (n : Nat) (h : walk m es S ps = some T) : walk m es S (ps.take n) = some (run S (ps.take n)) ∧ walk m es (run S (ps.take n)) (ps.drop n) = some T := by
  rw [← List.take_append_drop n ps] at h
  exact walk_some h
theorem walk_set {m : Nat} {es : List (Int × Int)} (f : IsFor m es) : ∀ {ps : List (Int × Int)} {S T : List Int}, IsSet m es S → walk m es S ps = some T → IsSet m es T
  | [], S, T, i, h => by cases h; exact i
  | p :: ps, S, T, i, h => by
    obtain ⟨h1, h2⟩ := walk_cons h
    exact walk_set f (IsSet.slide f i h1) h2
theorem after_back {m : Nat} {es : List (Int × Int)} {S : List Int} (f : IsFor m es) (h : IsSet m es S) {u v : Int} (p : (u, v) ∈ slidesP m es S) : after (after S u v) v u = S := by
  obtain ⟨hu, hv, ho⟩ := mem_slidesP.mp p
  have nv := adj_free h hu hv
  have s1 := IsSet.slide f (IsSet.slide f h p) (slide_back f h p)
  refine asc_ext s1.asc h.asc fun z => ?_
  show z ∈ after (after S u v) v u ↔ _
  rw [mem_after, mem_after]
  constructor
  · rintro (⟨⟨a, b⟩ | a, c⟩ | a)
    · exact a
    · exact absurd a c
    · rw [a]; exact hu
  · intro hz
    by_cases e : z = u
    · exact .inr e
    · exact .inl ⟨.inl ⟨hz, e⟩, fun y => nv (y ▸ hz)⟩
def bk (ps : List (Int × Int)) : List (Int × Int) := (ps.map fun p => (p.2, p.1)).reverse
theorem bk_length (ps : List (Int × Int)) : (bk ps).length = ps.length := by
  unfold bk
  rw [List.length_reverse, List.length_map]
theorem walk_bk {m : Nat} {es : List (Int × Int)} (f : IsFor m es) : ∀ {ps : List (Int × Int)} {S T : List Int}, IsSet m es S → walk m es S ps = some T → walk m es T (bk ps) = some S
  | [], S, T, i, h => by cases h; rfl
  | p :: ps, S, T, i, h => by
    obtain ⟨h1, h2⟩ := walk_cons h
    have h3 := walk_bk f (IsSet.slide f i h1) h2
    have e : bk (p :: ps) = bk ps ++ [(p.2, p.1)] := by
      unfold bk
      rw [List.map_cons, List.reverse_cons]
    rw [e, walk_app h3, walk_push (slide_back f i (u := p.1) (v := p.2) h1)]
    show some (after (after S p.1 p.2) p.2 p.1) = _
    rw [after_back f i (u := p.1) (v := p.2) h1]
/-! ### the settings on the way -/
def sts (S : List Int) (ps : List (Int × Int)) : List (List Int) := (List.range (ps.length + 1)).map fun i => run S (ps.take i)
theorem sts_nil (S : List Int) : sts S [] = [S] := rfl
theorem sts_len (S : List Int) (ps : List (Int × Int)) : (sts S ps).length = ps.length + 1 := by
  unfold sts
  rw [List.length_map, List.length_range]
theorem sts_snoc (S : List Int) (ps : List (Int × Int)) (p : Int × Int) : sts S (ps ++ [p]) = sts S ps ++ [run S (ps ++ [p])] := by
  unfold sts
  rw [List.length_append, List.length_singleton, List.range_succ, List.map_append, List.map_singleton, List.take_of_length_le (l := ps ++ [p]) (by rw [List.length_append]; exact Nat.le_refl _)]
  congr 1
  refine List.map_congr_left fun i hi => ?_
  have := List.mem_range.mp hi
  rw [List.take_append_of_le_length (by omega)]
theorem sts_get {S : List Int} {ps : List (Int × Int)} {i : Nat} (h : i ≤ ps.length) : (sts S ps)[i]? = some (run S (ps.take i)) := by
  unfold sts
  rw [List.getElem?_map, List.getElem?_range (by omega)]
  rfl
theorem mem_sts {S R : List Int} {ps : List (Int × Int)} (h : R ∈ sts S ps) : ∃ i, i ≤ ps.length ∧ R = run S (ps.take i) := by
  unfold sts at h
  obtain ⟨i, hi, rfl⟩ := List.mem_map.mp h
  have := List.mem_range.mp hi
  exact ⟨i, by omega, rfl⟩
/-! ### lamps counted -/
def cnt (bs : List (List Int)) (S : List Int) : List Int := bs.map fun b => (((S.filter fun l => decide (l ∈ b)).length : Nat) : Int)
theorem cnt_slide {m : Nat} {es : List (Int × Int)} {f : Int → Int} {gs : List (Int × List Int)} {S : List Int} {u v : Int} {bs : List (List Int)} (isf : IsFor m es) (iss : IsSet m es S) (lab : Lab es (rng m) f) (gr : Grp f (rng m) gs)
    (hb : ∀ b ∈ bs, b ∈ gs.map (·.2)) (p : (u, v) ∈ slidesP m es S) : cnt bs (after S u v) = cnt bs S := by
  obtain ⟨hu, hv, ho⟩ := mem_slidesP.mp p
  obtain ⟨rv, av⟩ := mem_nearL.mp hv
  have ru := iss.rng u hu
  have mu : u ∈ rng m := mem_rng.mpr ru
  have mv : v ∈ rng m := mem_rng.mpr rv
  have e : f u = f v := by
    unfold ordP at av
    split at av
    · exact (lab.join _ av mv mu).symm
    · exact lab.join _ av mu mv
  unfold cnt
  refine List.map_congr_left fun b hb0 => ?_
  obtain ⟨g, hg, rfl⟩ := List.mem_map.mp (hb b hb0)
  have key : ∀ x, x ∈ g.2 ↔ x ∈ rng m ∧ f x = g.1 := fun x => by
    rw [(gr.is g hg).1, List.mem_filter, decide_eq_true_eq]
  have uv : u ∈ g.2 ↔ v ∈ g.2 := by
    rw [key, key, e]
    exact ⟨fun z => ⟨mv, z.2⟩, fun z => ⟨mu, z.2⟩⟩
  have h1 : (after S u v).Perm (S.map fun l => if l = u then v else l) := (srtI_perm _).trans (move_perm iss.asc.nodup hu).symm
  rw [(h1.filter _).length_eq, List.filter_map, List.length_map]
  congr 2
  refine List.filter_congr fun l _ => ?_
  show decide ((if l = u then v else l) ∈ g.2) = _
  split
  · rename_i h
    rw [h]
    exact decide_eq_decide.mpr uv.symm
  · rfl
theorem cnt_walk {m : Nat} {es : List (Int × Int)} {f : Int → Int} {gs : List (Int × List Int)} {bs : List (List Int)} (isf : IsFor m es) (lab : Lab es (rng m) f) (gr : Grp f (rng m) gs)
    (hb : ∀ b ∈ bs, b ∈ gs.map (·.2)) : ∀ {ps : List (Int × Int)} {S T : List Int}, IsSet m es S → walk m es S ps = some T → cnt bs T = cnt bs S
  | [], S, T, i, h => by cases h; rfl
  | p :: ps, S, T, i, h => by
    obtain ⟨h1, h2⟩ := walk_cons h
    rw [cnt_walk isf lab gr hb (IsSet.slide isf i h1) h2]
    exact cnt_slide isf i lab gr hb (u := p.1) (v := p.2) h1
/-! ### a comprehension within another -/
def env0 (sc : Scope) : Env := { scope := sc, locals := 0, globals := 0, cells := [], qual := "", func := none, code := .none, frame := default, builtins := default }
theorem blkOk_in {N : List Str} {scope0 scope : Scope} {own : List (Str × Nat)} {env : Env} {cl : List (Str × Addr)} {C : Addr} (sc : Scope) (e : env.scope = sc) (h : blkC N (relabel scope0 (env0 sc)) scope own = true) :
    BlkOk N (compEnvC scope0 cl C env).scope scope own := by
  subst e
  exact blkOk_by h
/-! ### comprehensions over lists and tuples of data -/
theorem zip_filter {α β γ : Type} {xs : List α} {bs : List β} (h : xs.length = bs.length) (p : β → Bool) (d : β → γ) : ((xs.zip bs).filter (fun q => p q.2)).map (fun q => d q.2) = (bs.filter p).map d := by
  have e : (xs.zip bs).map Prod.snd = bs := List.map_snd_zip (by omega)
  conv => rhs; rw [← e, List.filter_map, List.map_map]
  rfl
section
variable {K : PySem.W.Frag} {tt : TT} {te : TE} {vs : List Nat} {σ : L2.St} {H1 : Hp} {D : Addr} {Qd : Hp → Prop}
theorem lc_listD {a : Addr} {xs : List V} {β : Type} {bs : List β} {e : β → PyData} {i : Nat} (p : β → Bool) (d : β → PyData) (nD : H1 D = none) (hS : SqL K H1 a xs) (hA : DpAll K H1 xs (bs.map e))
    (hw : ∀ v, wipe ((wipe σ vs).set i (some v)) vs = wipe σ vs)
    (ht : ∀ x b, b ∈ bs → Dp K H1 x (e b) → ∀ H' (Q : Bool → Hp → Prop), Same H1 H' → (∀ H2, Same H' H2 → Q (p b) H2) → tt ((wipe σ vs).set i (some x)) H' Q)
    (he : ∀ x b, b ∈ bs → p b = true → Dp K H1 x (e b) → ∀ H' (Q : VK), Same H1 H' → (∀ H2 y, Same H' H2 → Dp K H2 y (d b) → Q y H2) → te ((wipe σ vs).set i (some x)) H' Q)
    (ho : ∀ o, only (d o) = true) (hl : bs.length ≤ 1000)
    (hd : ∀ H' ys, Same H1 H' → H' D = some (.lst ys) → DpAll K H' ys ((bs.filter p).map d) → Qd H') : LcGoal (Itl K a) (gName i) tt te vs σ H1 D Qd := by
  have xl : xs.length = bs.length := by rw [DpAll.length hA, List.length_map]
  have mem : ∀ q ∈ xs.zip bs, q.2 ∈ bs ∧ Dp K H1 q.1 (e q.2) := fun q hq => by
    obtain ⟨k, hk⟩ := List.getElem?_of_mem hq
    obtain ⟨h1, h2⟩ := List.getElem?_zip_eq_some.mp hk
    obtain ⟨z, hz, dz⟩ := DpAll.get hA h1
    rw [List.getElem?_map, h2] at hz
    cases hz
    exact ⟨List.mem_of_getElem? h2, dz⟩
  have zl : (xs.zip bs).length = xs.length := by rw [List.length_zip]; omega
  refine lc_gen (K := K) (xs.zip bs) (fun q => (wipe σ vs).set i (some q.1)) (fun q => p q.2) (fun q => d q.2) nD (fun j H' hj s => ⟨_, _, s.seq hS, List.getElem?_eq_getElem (by omega)⟩)
    (fun H' s => ⟨_, s.seq hS, by omega⟩) (fun j b x H' H'' hb s y => ?_) (fun b => hw _) (fun b hb H' Q s hQ => ht _ _ (mem b hb).1 (mem b hb).2 H' Q s hQ) (fun b hb hp H' Q s hQ => he _ _ (mem b hb).1 hp (mem b hb).2 H' Q s hQ) (fun o => ho _) (by omega)
    (fun H' ys s eD dy => hd H' ys s eD ?_)
  · obtain ⟨e1, hy⟩ := y
    have h1 := hy _ (s.seq hS)
    obtain ⟨h2, h3⟩ := List.getElem?_zip_eq_some.mp hb
    rw [h2] at h1
    cases h1
    exact ⟨e1, fun Q q => q⟩
  · rw [zip_filter xl] at dy
    exact dy
theorem lc_tupD {a : Addr} {xs : List V} {β : Type} {bs : List β} {e : β → PyData} {i : Nat} (p : β → Bool) (d : β → PyData) (nD : H1 D = none) (hS : SqT K H1 a xs) (hA : DpAll K H1 xs (bs.map e))
    (hw : ∀ v, wipe ((wipe σ vs).set i (some v)) vs = wipe σ vs)
    (ht : ∀ x b, b ∈ bs → Dp K H1 x (e b) → ∀ H' (Q : Bool → Hp → Prop), Same H1 H' → (∀ H2, Same H' H2 → Q (p b) H2) → tt ((wipe σ vs).set i (some x)) H' Q)
    (he : ∀ x b, b ∈ bs → p b = true → Dp K H1 x (e b) → ∀ H' (Q : VK), Same H1 H' → (∀ H2 y, Same H' H2 → Dp K H2 y (d b) → Q y H2) → te ((wipe σ vs).set i (some x)) H' Q)
    (ho : ∀ o, only (d o) = true) (hl : bs.length ≤ 1000)
    (hd : ∀ H' ys, Same H1 H' → H' D = some (.lst ys) → DpAll K H' ys ((bs.filter p).map d) → Qd H') : LcGoal (Itt K a) (gName i) tt te vs σ H1 D Qd := by
  have xl : xs.length = bs.length := by rw [DpAll.length hA, List.length_map]
  have mem : ∀ q ∈ xs.zip bs, q.2 ∈ bs ∧ Dp K H1 q.1 (e q.2) := fun q hq => by
    obtain ⟨k, hk⟩ := List.getElem?_of_mem hq
    obtain ⟨h1, h2⟩ := List.getElem?_zip_eq_some.mp hk
    obtain ⟨z, hz, dz⟩ := DpAll.get hA h1
    rw [List.getElem?_map, h2] at hz
    cases hz
    exact ⟨List.mem_of_getElem? h2, dz⟩
  have zl : (xs.zip bs).length = xs.length := by rw [List.length_zip]; omega
  refine lc_gen (K := K) (xs.zip bs) (fun q => (wipe σ vs).set i (some q.1)) (fun q => p q.2) (fun q => d q.2) nD (fun j H' hj s => ⟨_, _, Same.tup s hS, List.getElem?_eq_getElem (by omega)⟩)
    (fun H' s => ⟨_, Same.tup s hS, by omega⟩) (fun j b x H' H'' hb s y => ?_) (fun b => hw _) (fun b hb H' Q s hQ => ht _ _ (mem b hb).1 (mem b hb).2 H' Q s hQ) (fun b hb hp H' Q s hQ => he _ _ (mem b hb).1 hp (mem b hb).2 H' Q s hQ) (fun o => ho _) (by omega)
    (fun H' ys s eD dy => hd H' ys s eD ?_)
  · obtain ⟨e1, hy⟩ := y
    have h1 := hy _ (Same.tup s hS)
    obtain ⟨h2, h3⟩ := List.getElem?_zip_eq_some.mp hb
    rw [h2] at h1
    cases h1
    exact ⟨e1, fun Q q => q⟩
  · rw [zip_filter xl] at dy
    exact dy
end
end TL
namespace TL
open PySem PySem.Spec L2
/-! ### vertices joined by edges, found pass by pass -/
def stp (f : List Int) (p : Int × Int) : List Int := if decide (p.1 ∈ f) = decide (p.2 ∈ f) then f else f ++ [if p.1 ∈ f then p.2 else p.1]
def pas (E : List (Int × Int)) (f : List Int) : List Int := E.foldl stp f
def passes (E : List (Int × Int)) (v : Int) : Nat → List Int
  | 0 => [v]
  | n + 1 => pas E (passes E v n)
theorem filt_le {α : Type} {P Q : α → Bool} (h : ∀ x, P x = true → Q x = true) : ∀ l : List α, (l.filter P).length ≤ (l.filter Q).length
  | [] => Nat.le_refl _
  | a :: l => by
    have ih := filt_le h l
    rw [List.filter_cons, List.filter_cons]
    by_cases hp : P a = true
    · rw [if_pos hp, if_pos (h a hp), List.length_cons, List.length_cons]
      omega
    · rw [if_neg hp]
      split
      · rw [List.length_cons]
        omega
      · exact ih
theorem filt_lt {α : Type} {P Q : α → Bool} (h : ∀ x, P x = true → Q x = true) : ∀ {l : List α} {a : α}, a ∈ l → P a = false → Q a = true → (l.filter P).length < (l.filter Q).length
  | b :: l, a, ha, hp, hq => by
    rw [List.filter_cons, List.filter_cons]
    rcases List.mem_cons.mp ha with e | ha
    · rw [← e, if_neg (by rw [hp]; decide), if_pos hq, List.length_cons]
      have := filt_le h l
      omega
    · have ih := filt_lt h ha hp hq
      by_cases hb : P b = true
      · rw [if_pos hb, if_pos (h b hb), List.length_cons, List.length_cons]
        omega
      · rw [if_neg hb]
        split
        · rw [List.length_cons]
          omega
        · exact ih
def inn (f : List Int) (p : Int × Int) : Bool := decide (p.1 ∈ f) && decide (p.2 ∈ f)
structure Jn (E : List (Int × Int)) (v : Int) (f : List Int) : Prop where
  nd : f.Nodup
  has : v ∈ f
  conn : ∀ x ∈ f, Conn E v x
  cnt : f.length ≤ 1 + (E.filter (inn f)).length
theorem Jn.start (E : List (Int × Int)) (v : Int) : Jn E v [v] where
  nd := List.pairwise_singleton _ _
  has := List.mem_singleton.mpr rfl
  conn := fun x hx => by rw [List.mem_singleton.mp hx]; exact .refl _
  cnt := by rw [List.length_singleton]; omega
theorem Jn.put {E : List (Int × Int)} {v : Int} {f : List Int} {p : Int × Int} {y : Int} (h : Jn E v f) (hp : p ∈ E) (ny : y ∉ f) (cy : Conn E v y) (n : inn f p = false) (m : inn (f ++ [y]) p = true) : Jn E v (f ++ [y]) where
  nd := List.nodup_append.mpr ⟨h.nd, List.pairwise_singleton _ _, fun a ha b hb e => by rw [List.mem_singleton.mp hb] at e; exact ny (e ▸ ha)⟩
  has := List.mem_append_left _ h.has
  conn := fun x hx => (List.mem_append.mp hx).elim (h.conn x) fun z => by rw [List.mem_singleton.mp z]; exact cy
  cnt := by
    have := filt_lt (P := inn f) (Q := inn (f ++ [y])) (fun x hx => by
      unfold inn at hx ⊢
      rw [Bool.and_eq_true, decide_eq_true_eq, decide_eq_true_eq] at hx ⊢
      exact ⟨List.mem_append_left _ hx.1, List.mem_append_left _ hx.2⟩) hp n m
    have := h.cnt
    rw [List.length_append, List.length_singleton]
    omega
theorem Jn.stp {E : List (Int × Int)} {v : Int} {f : List Int} {p : Int × Int} (h : Jn E v f) (hp : p ∈ E) : Jn E v (TL.stp f p) := by
  unfold TL.stp
  split
  · exact h
  · rename_i ne
    by_cases h1 : p.1 ∈ f
    · have h2 : p.2 ∉ f := fun z => ne (by rw [decide_eq_true h1, decide_eq_true z])
      rw [if_pos h1]
      refine h.put hp h2 (.step (h.conn _ h1) (.inl hp)) ?_ ?_
      · unfold inn; rw [decide_eq_false h2, Bool.and_false]
      · unfold inn; rw [decide_eq_true (List.mem_append_left _ h1), decide_eq_true (List.mem_append_right _ (List.mem_singleton.mpr rfl))]; rfl
    · have h2 : p.2 ∈ f := Decidable.byContradiction fun z => ne (by rw [decide_eq_false h1, decide_eq_false z])
      rw [if_neg h1]
      refine h.put hp h1 (.step (h.conn _ h2) (.inr hp)) ?_ ?_
      · unfold inn; rw [decide_eq_false h1, Bool.false_and]
      · unfold inn; rw [decide_eq_true (List.mem_append_left _ h2), decide_eq_true (List.mem_append_right _ (List.mem_singleton.mpr rfl))]; rfl
theorem Jn.fold {E : List (Int × Int)} {v : Int} : ∀ {D : List (Int × Int)} {f : List Int}, (∀ p ∈ D, p ∈ E) → Jn E v f → Jn E v (D.foldl TL.stp f)
  | [], _, _, h => h
  | p :: D, f, s, h => Jn.fold (D := D) (fun q hq => s q (List.mem_cons_of_mem _ hq)) (h.stp (s p List.mem_cons_self))
theorem Jn.passes (E : List (Int × Int)) (v : Int) : ∀ n, Jn E v (TL.passes E v n)
  | 0 => Jn.start E v
  | n + 1 => Jn.fold (fun _ h => h) (Jn.passes E v n)
def Closed (E : List (Int × Int)) (f : List Int) : Prop := ∀ p ∈ E, decide (p.1 ∈ f) = decide (p.2 ∈ f)
theorem fold_grow : ∀ {D : List (Int × Int)} {f : List Int}, (D.foldl TL.stp f = f ∧ Closed D f) ∨ f.length + 1 ≤ (D.foldl TL.stp f).length
  | [], f => .inl ⟨rfl, fun _ h => nomatch h⟩
  | p :: D, f => by
    rw [List.foldl_cons]
    by_cases e : decide (p.1 ∈ f) = decide (p.2 ∈ f)
    · have es : TL.stp f p = f := by unfold TL.stp; rw [if_pos e]
      rw [es]
      rcases fold_grow (D := D) (f := f) with ⟨h1, h2⟩ | h
      · exact .inl ⟨h1, fun q hq => (List.mem_cons.mp hq).elim (fun z => z ▸ e) (h2 q)⟩
      · exact .inr h
    · have es : (TL.stp f p).length = f.length + 1 := by unfold TL.stp; rw [if_neg e, List.length_append, List.length_singleton]
      rcases fold_grow (D := D) (f := TL.stp f p) with ⟨h1, h2⟩ | h
      · rw [h1]
        exact .inr (by omega)
      · exact .inr (by omega)
theorem fold_closed : ∀ {D : List (Int × Int)} {f : List Int}, Closed D f → D.foldl TL.stp f = f
  | [], _, _ => rfl
  | p :: D, f, h => by
    have es : TL.stp f p = f := by unfold TL.stp; rw [if_pos (h p List.mem_cons_self)]
    rw [List.foldl_cons, es]
    exact fold_closed fun q hq => h q (List.mem_cons_of_mem _ hq)
theorem passes_grow (E : List (Int × Int)) (v : Int) : ∀ n, Closed E (passes E v n) ∨ n + 1 ≤ (passes E v n).length
  | 0 => .inr (Nat.le_refl _)
  | n + 1 => by
    rcases passes_grow E v n with h | h
    · left
      show Closed E (pas E (passes E v n))
      unfold pas
      rw [fold_closed h]
      exact h
    · rcases fold_grow (D := E) (f := passes E v n) with ⟨h1, h2⟩ | h3
      · left
        show Closed E (pas E (passes E v n))
        unfold pas
        rw [h1]
        exact h2
      · right
        show _ ≤ (pas E (passes E v n)).length
        unfold pas
        omega
theorem passes_closed (E : List (Int × Int)) (v : Int) : Closed E (passes E v E.length) := by
  rcases passes_grow E v E.length with h | h
  · exact h
  · have c := (Jn.passes E v E.length).cnt
    have l := List.length_filter_le (inn (passes E v E.length)) E
    have e : E.filter (inn (passes E v E.length)) = E := List.filter_sublist.eq_of_length (by omega)
    intro p hp
    rw [← e] at hp
    have h2 := (List.mem_filter.mp hp).2
    unfold inn at h2
    rw [Bool.and_eq_true] at h2
    rw [h2.1, h2.2]
theorem mem_passes (E : List (Int × Int)) (v x : Int) : x ∈ passes E v E.length ↔ Conn E v x := by
  refine ⟨(Jn.passes E v _).conn x, fun h => ?_⟩
  induction h with
  | refl => exact (Jn.passes E v _).has
  | step _ hp ih =>
    rcases hp with hp | hp
    · have := passes_closed E v _ hp
      exact of_decide_eq_true (by rw [← this]; exact decide_eq_true ih)
    · have := passes_closed E v _ hp
      exact of_decide_eq_true (by rw [this]; exact decide_eq_true ih)
/-! ### groups of one label -/
def within (es : List (Int × Int)) (ws : List Int) : List (Int × Int) := es.filter fun p => decide (p.1 ∈ ws) && decide (p.2 ∈ ws)
theorem mem_within {es : List (Int × Int)} {ws : List Int} {p : Int × Int} : p ∈ within es ws ↔ p ∈ es ∧ p.1 ∈ ws ∧ p.2 ∈ ws := by
  unfold within
  rw [List.mem_filter, Bool.and_eq_true, decide_eq_true_eq, decide_eq_true_eq]
theorem conn_lab {es : List (Int × Int)} {ws : List Int} {f : Int → Int} (h : Lab es ws f) {a b : Int} (ha : a ∈ ws) (c : Conn (within es ws) a b) : b ∈ ws ∧ f a = f b := by
  induction c with
  | refl => exact ⟨ha, rfl⟩
  | step _ hp ih =>
    rcases hp with hp | hp
    · obtain ⟨h1, h2, h3⟩ := mem_within.mp hp
      exact ⟨h3, ih.2.trans (h.join _ h1 h2 h3)⟩
    · obtain ⟨h1, h2, h3⟩ := mem_within.mp hp
      exact ⟨h2, ih.2.trans (h.join _ h1 h2 h3).symm⟩
theorem group_eq {es : List (Int × Int)} {ws : List Int} {f : Int → Int} (h : Lab es ws f) (asc : Asc ws) {v : Int} (hv : v ∈ ws) :
    srtI (passes (within es ws) v (within es ws).length) = ws.filter fun u => decide (f u = f v) := by
  refine asc_ext (srtI_asc (Jn.passes _ _ _).nd) (asc.filter _) fun z => ?_
  rw [(srtI_perm _).mem_iff, mem_passes, List.mem_filter, decide_eq_true_eq]
  constructor
  · intro c
    obtain ⟨h1, h2⟩ := conn_lab h hv c
    exact ⟨h1, h2.symm⟩
  · intro hz
    exact h.conn v hv z hz.1 hz.2.symm
end TL
namespace TL
/-! ### paths in forests: between two vertices there is at most one -/
def Adj (es : List (Int × Int)) (a b : Int) : Prop := (a, b) ∈ es ∨ (b, a) ∈ es
theorem Adj.symm {es : List (Int × Int)} {a b : Int} (h : Adj es a b) : Adj es b a := h.elim .inr .inl
inductive Pth (es : List (Int × Int)) : Int → Int → List Int → Prop
  | one (a : Int) : Pth es a a [a]
  | cons {a b c : Int} {p : List Int} : Adj es a b → Pth es b c p → a ∉ p → Pth es a c (a :: p)
theorem Pth.mono {es fs : List (Int × Int)} (s : ∀ p ∈ es, p ∈ fs) {a b : Int} {p : List Int} (h : Pth es a b p) : Pth fs a b p := by
  induction h with
  | one a => exact .one a
  | cons ad _ n ih => exact .cons (ad.elim (fun z => .inl (s _ z)) fun z => .inr (s _ z)) ih n
theorem Pth.first {es : List (Int × Int)} {a b : Int} {p : List Int} (h : Pth es a b p) : a ∈ p := by
  cases h with
  | one => exact List.mem_singleton.mpr rfl
  | cons => exact List.mem_cons_self
theorem Pth.last {es : List (Int × Int)} {a b : Int} {p : List Int} (h : Pth es a b p) : b ∈ p := by
  induction h with
  | one a => exact List.mem_singleton.mpr rfl
  | cons _ _ _ ih => exact List.mem_cons_of_mem _ ih
theorem Pth.self {es : List (Int × Int)} {a : Int} {p : List Int} (h : Pth es a a p) : p = [a] := by
  cases h with
  | one => rfl
  | cons _ h n => exact absurd h.last n
theorem Pth.nodup {es : List (Int × Int)} {a b : Int} {p : List Int} (h : Pth es a b p) : p.Nodup := by
  induction h with
  | one a => exact List.pairwise_singleton _ _
  | cons _ _ n ih => exact List.nodup_cons.mpr ⟨n, ih⟩
theorem Pth.snoc {es : List (Int × Int)} {a b c : Int} {p : List Int} (h : Pth es a b p) (ad : Adj es b c) (n : c ∉ p) : Pth es a c (p ++ [c]) := by
  induction h with
  | one a =>
    refine .cons ad (.one c) fun z => n ?_
    rw [List.mem_singleton.mp z]
    exact List.mem_singleton.mpr rfl
  | cons ad0 _ n0 ih =>
    refine .cons ad0 (ih ad fun z => n (List.mem_cons_of_mem _ z)) fun z => ?_
    rcases List.mem_append.mp z with z | z
    · exact n0 z
    · rw [List.mem_singleton.mp z] at n
      exact n List.mem_cons_self
theorem Pth.rev {es : List (Int × Int)} {a b : Int} {p : List Int} (h : Pth es a b p) : Pth es b a p.reverse := by
  induction h with
  | one a => exact .one a
  | cons ad _ n ih =>
    rw [List.reverse_cons]
    exact ih.snoc ad.symm fun z => n (List.mem_reverse.mp z)
def Uniq (es : List (Int × Int)) : Prop := ∀ a b p q, Pth es a b p → Pth es a b q → p = q
section
variable {es : List (Int × Int)} {u v : Int} {e : Int × Int} (he : e = (v, u) ∨ e = (u, v)) (nv : ∀ p ∈ es, p.1 ≠ v ∧ p.2 ≠ v) (uv : u ≠ v)
include he nv
theorem adj_snoc {a b : Int} (h : Adj (es ++ [e]) a b) : Adj es a b ∨ (a = v ∧ b = u) ∨ (a = u ∧ b = v) := by
  rcases h with h | h
  · rcases List.mem_append.mp h with h | h
    · exact .inl (.inl h)
    · have h := List.mem_singleton.mp h
      rcases he with he | he
      · rw [he] at h; cases h; exact .inr (.inl ⟨rfl, rfl⟩)
      · rw [he] at h; cases h; exact .inr (.inr ⟨rfl, rfl⟩)
  · rcases List.mem_append.mp h with h | h
    · exact .inl (.inr h)
    · have h := List.mem_singleton.mp h
      rcases he with he | he
      · rw [he] at h; cases h; exact .inr (.inr ⟨rfl, rfl⟩)
      · rw [he] at h; cases h; exact .inr (.inl ⟨rfl, rfl⟩)
include uv
theorem adj_leaf {b : Int} (h : Adj (es ++ [e]) v b) : b = u := by
  rcases adj_snoc he nv h with h | h | h
  · rcases h with h | h
    · exact absurd rfl (nv _ h).1
    · exact absurd rfl (nv _ h).2
  · exact h.2
  · exact absurd h.1.symm uv
theorem pth_leaf1 {a b : Int} {p : List Int} (h : Pth (es ++ [e]) a b p) (ha : a ≠ v) (hb : b ≠ v) : v ∉ p ∧ Pth es a b p := by
  induction h with
  | one a => exact ⟨fun z => ha (List.mem_singleton.mp z).symm, .one a⟩
  | @cons a x c p ad hp na ih =>
    by_cases hx : x = v
    · subst hx
      have au : a = u := adj_leaf he nv uv ad.symm
      cases hp with
      | one => exact absurd rfl hb
      | cons ad2 hp2 n2 =>
        have yu := adj_leaf he nv uv ad2
        rw [yu, ← au] at hp2
        exact absurd (List.mem_cons_of_mem _ hp2.first) na
    · obtain ⟨h1, h2⟩ := ih hx hb
      refine ⟨fun z => (List.mem_cons.mp z).elim (fun z => ha z.symm) h1, .cons ?_ h2 na⟩
      rcases adj_snoc he nv ad with h | h | h
      · exact h
      · exact absurd h.1 ha
      · exact absurd h.2 hx
theorem pth_leaf2 {b : Int} {p : List Int} (h : Pth (es ++ [e]) v b p) (hb : b ≠ v) : ∃ p', p = v :: p' ∧ Pth es u b p' := by
  cases h with
  | one => exact absurd rfl hb
  | cons ad hp _ =>
    have yu := adj_leaf he nv uv ad
    rw [yu] at hp
    exact ⟨_, rfl, (pth_leaf1 he nv uv hp uv hb).2⟩
theorem uniq_snoc (U : Uniq es) : Uniq (es ++ [e]) := by
  intro a b p q hp hq
  by_cases ha : a = v
  · by_cases hb : b = v
    · rw [ha, hb] at hp hq
      rw [hp.self, hq.self]
    · rw [ha] at hp hq
      obtain ⟨p', rfl, h1⟩ := pth_leaf2 he nv uv hp hb
      obtain ⟨q', rfl, h2⟩ := pth_leaf2 he nv uv hq hb
      rw [U _ _ _ _ h1 h2]
  · by_cases hb : b = v
    · rw [hb] at hp hq
      obtain ⟨p', e1, h1⟩ := pth_leaf2 he nv uv hp.rev ha
      obtain ⟨q', e2, h2⟩ := pth_leaf2 he nv uv hq.rev ha
      rw [← U _ _ _ _ h1 h2, ← e1] at e2
      exact (List.reverse_inj.mp e2).symm
    · exact U _ _ _ _ (pth_leaf1 he nv uv hp ha hb).2 (pth_leaf1 he nv uv hq ha hb).2
end
theorem uniq_nil : Uniq [] := by
  intro a b p q hp hq
  cases hp with
  | one => rw [hq.self]
  | cons ad => exact ad.elim (fun z => nomatch z) fun z => nomatch z
theorem uniq_grow {m : Nat} {nm : List Int} : ∀ {n : Nat} {ks : List (Nat × Nat)}, ks.length = n → Grow m nm ks → Uniq (ks.map (edgeOf nm))
  | 0, ks, hn, g => by
    rw [List.length_eq_zero_iff.mp hn]
    exact uniq_nil
  | n + 1, ks, hn, g => by
    have hne : ks ≠ [] := fun z => by rw [z] at hn; cases hn
    obtain ⟨js, q, rfl⟩ : ∃ js q, ks = js ++ [q] := ⟨_, _, (List.dropLast_concat_getLast hne).symm⟩
    rw [List.length_append, List.length_singleton] at hn
    have gj : Grow m nm js := ⟨g.names, (List.pairwise_append.mp g.up).1, fun r hr => g.down r (List.mem_append_left _ hr)⟩
    have up := (List.pairwise_append.mp g.up).2.2
    obtain ⟨hq1, hq2⟩ := g.down q (List.mem_append_right _ (List.mem_singleton.mpr rfl))
    rw [List.map_append, List.map_singleton]
    have ne : nm.getD q.2 0 ≠ nm.getD q.1 0 := fun z => by have := g.inj (Nat.lt_trans hq1 hq2) hq2 z; omega
    refine uniq_snoc (v := nm.getD q.1 0) (u := nm.getD q.2 0) ?_ (fun p hp => ?_) ne (uniq_grow (n := n) (by omega) gj)
    · unfold edgeOf ordP
      split
      · exact .inl rfl
      · exact .inr rfl
    · obtain ⟨r, hr, rfl⟩ := List.mem_map.mp hp
      obtain ⟨hr1, hr2⟩ := gj.down r hr
      have hlt := up r hr q (List.mem_singleton.mpr rfl)
      have n1 : nm.getD r.1 0 ≠ nm.getD q.1 0 := fun z => by have := g.inj hr2 hq2 z; omega
      have n2 : nm.getD r.2 0 ≠ nm.getD q.1 0 := fun z => by have := g.inj (Nat.lt_trans hr1 hr2) hq2 z; omega
      unfold edgeOf ordP
      split
      · exact ⟨n1, n2⟩
      · exact ⟨n2, n1⟩
theorem IsFor.uniq {m : Nat} {es : List (Int × Int)} (f : IsFor m es) : Uniq es := by
  obtain ⟨nm, ks, g, p⟩ := f.grow
  intro a b x y hx hy
  exact uniq_grow rfl g a b x y (hx.mono fun q hq => p.mem_iff.mp hq) (hy.mono fun q hq => p.mem_iff.mp hq)
end TL
namespace TL
/-! ### an edge of a forest joins what no other edges join -/
theorem Pth.cut {es : List (Int × Int)} {a b : Int} {p : List Int} (h : Pth es a b p) : ∀ c ∈ p, ∃ q, Pth es a c q ∧ ∀ x ∈ q, x ∈ p := by
  induction h with
  | one a =>
    intro c hc
    rw [List.mem_singleton.mp hc]
    exact ⟨[a], .one a, fun x hx => hx⟩
  | @cons a y b p ad hp n ih =>
    intro c hc
    rcases List.mem_cons.mp hc with rfl | hc
    · exact ⟨[c], .one c, fun x hx => by rw [List.mem_singleton.mp hx]; exact List.mem_cons_self⟩
    · obtain ⟨q, hq, sub⟩ := ih c hc
      refine ⟨a :: q, .cons ad hq fun z => n (sub a z), fun x hx => ?_⟩
      rcases List.mem_cons.mp hx with rfl | hx
      · exact List.mem_cons_self
      · exact List.mem_cons_of_mem _ (sub x hx)
theorem Conn.pth {es : List (Int × Int)} {a b : Int} (h : Conn es a b) : ∃ p, Pth es a b p := by
  induction h with
  | refl => exact ⟨_, .one _⟩
  | @step b c _ e ih =>
    obtain ⟨p, hp⟩ := ih
    by_cases hc : c ∈ p
    · obtain ⟨q, hq, _⟩ := hp.cut c hc
      exact ⟨q, hq⟩
    · exact ⟨_, hp.snoc e hc⟩
theorem Pth.pair {es : List (Int × Int)} {a b x y : Int} {l : List Int} (h : Pth es a b l) (e : l = [x, y]) : Adj es x y := by
  cases h with
  | one => cases e
  | cons ad hp n =>
    cases hp with
    | one => cases e; exact ad
    | cons _ hp _ => cases hp <;> cases e
theorem IsFor.open {m : Nat} {A B : List (Int × Int)} {p : Int × Int} (f : IsFor m (A ++ p :: B)) : ¬ Conn A p.1 p.2 := by
  intro h
  obtain ⟨q, hq⟩ := h.pth
  have mem : p ∈ A ++ p :: B := List.mem_append_right _ List.mem_cons_self
  have r := f.rng p mem
  have h1 : Pth (A ++ p :: B) p.1 p.2 q := hq.mono fun x hx => List.mem_append_left _ hx
  have h2 : Pth (A ++ p :: B) p.1 p.2 [p.1, p.2] := .cons (.inl mem) (.one _) fun z => by
    have := List.mem_singleton.mp z
    omega
  have e := f.uniq _ _ _ _ h1 h2
  subst e
  have ad : Adj A p.1 p.2 := hq.pair rfl
  rcases ad with z | z
  · have := (List.pairwise_append.mp f.asc).2.2 _ z p List.mem_cons_self
    rcases this with y | y
    · simp only at y; omega
    · simp only at y; omega
  · have := f.rng _ (List.mem_append_left _ z)
    simp only at this
    omega
/-! ### sorted pairs -/
theorem srtP_congr {a b : List (Int × Int)} (h : a.Perm b) : srtP a = srtP b := by
  have p : (srtP a).Perm (srtP b) := (srtP_perm a).trans (h.trans (srtP_perm b).symm)
  refine p.eq_of_pairwise (fun x y _ _ h1 h2 => ?_) (srtP_le a) (srtP_le b)
  refine Prod.ext ?_ ?_ <;> omega
theorem Grow.sorted {m : Nat} {nm : List Int} {ks : List (Nat × Nat)} {es : List (Int × Int)} (g : Grow m nm ks) (p : es.Perm (ks.map (edgeOf nm))) : IsFor m (srtP es) := by
  rw [srtP_congr p]
  exact g.isFor
theorem ordP_eq {a b : Int} (h : a ≤ b) : ordP a b = (a, b) := by
  unfold ordP
  rw [if_pos h]
/-! ### names for vertices -/
def nam (ns : List Int) (v : Int) : Int := ns.getD v.toNat 0
def ren (ns : List Int) (p : Int × Int) : Int × Int := ordP (nam ns p.1) (nam ns p.2)
theorem ren_ord (ns : List Int) (a b : Int) : ren ns (ordP a b) = ordP (nam ns a) (nam ns b) := by
  unfold ren ordP
  by_cases h : a ≤ b
  · rw [if_pos h]
  · rw [if_neg h]
    exact ordP_comm (nam ns b) (nam ns a)
theorem nam_rng {ns : List Int} : (rng ns.length).map (nam ns) = ns := by
  unfold rng
  rw [List.map_map]
  refine List.ext_getElem? fun i => ?_
  rw [List.getElem?_map]
  by_cases h : i < ns.length
  · rw [List.getElem?_range h, List.getElem?_eq_getElem h]
    show some (ns.getD (Int.toNat (Int.ofNat i)) 0) = _
    show some (ns.getD i 0) = _
    rw [List.getD_eq_getElem?_getD, List.getElem?_eq_getElem h]
    rfl
  · rw [List.getElem?_eq_none (by rw [List.length_range]; omega), List.getElem?_eq_none (by omega)]
    rfl
theorem perm_len {m : Nat} {ns : List Int} (h : ns.Perm (rng m)) : ns.length = m := by rw [h.length_eq, rng_length]
theorem nam_in {m : Nat} {ns : List Int} (h : ns.Perm (rng m)) {v : Int} (hv : 0 ≤ v ∧ v < m) : 0 ≤ nam ns v ∧ nam ns v < m := by
  have hl : v.toNat < ns.length := by rw [perm_len h]; omega
  refine mem_rng.mp (h.mem_iff.mp ?_)
  unfold nam
  rw [List.getD_eq_getElem?_getD, List.getElem?_eq_getElem hl]
  exact List.getElem_mem hl
theorem nam_inj {m : Nat} {ns : List Int} (h : ns.Perm (rng m)) {u v : Int} (hu : 0 ≤ u ∧ u < m) (hv : 0 ≤ v ∧ v < m) (e : nam ns u = nam ns v) : u = v := by
  have hl : u.toNat < ns.length := by rw [perm_len h]; omega
  have hk : v.toNat < ns.length := by rw [perm_len h]; omega
  unfold nam at e
  rw [List.getD_eq_getElem?_getD, List.getElem?_eq_getElem hl, List.getD_eq_getElem?_getD, List.getElem?_eq_getElem hk] at e
  have nd : ns.Nodup := h.nodup_iff.mpr (rng_asc m).nodup
  have := (List.getElem_inj nd).mp e
  omega
theorem IsFor.renamed {m : Nat} {es : List (Int × Int)} {ns : List Int} (f : IsFor m es) (h : ns.Perm (TL.rng m)) : IsFor m (srtP (es.map (ren ns))) := by
  obtain ⟨nm, ks, g, p⟩ := f.grow
  have gn : ∀ i, i < m → (nm.map (nam ns)).getD i 0 = nam ns (nm.getD i 0) := fun i hi => by
    have hl : i < nm.length := by rw [g.len]; exact hi
    rw [List.getD_eq_getElem?_getD, List.getElem?_map, List.getD_eq_getElem?_getD, List.getElem?_eq_getElem hl]
    rfl
  have g' : Grow m (nm.map (nam ns)) ks := ⟨by
    refine (g.names.map (nam ns)).trans ?_
    have e : (TL.rng m).map (nam ns) = ns := by rw [← perm_len h]; exact nam_rng
    rw [e]
    exact h, g.up, g.down⟩
  refine g'.sorted ((p.map (ren ns)).trans ?_)
  rw [List.map_map]
  refine List.Perm.of_eq (List.map_congr_left fun q hq => ?_)
  obtain ⟨h1, h2⟩ := g.down q hq
  show ren ns (edgeOf nm q) = edgeOf (nm.map (nam ns)) q
  unfold edgeOf
  rw [ren_ord, gn _ h2, gn _ (Nat.lt_trans h1 h2)]
theorem ren_back {m : Nat} {es : List (Int × Int)} {ns ms : List Int} (f : IsFor m es) (back : ∀ v : Int, 0 ≤ v → v < m → nam ms (nam ns v) = v) : srtP ((srtP (es.map (ren ns))).map (ren ms)) = es := by
  rw [srtP_congr ((srtP_perm _).map (ren ms)), List.map_map]
  have e : es.map (ren ms ∘ ren ns) = es := by
    conv => rhs; rw [← List.map_id es]
    refine List.map_congr_left fun p hp => ?_
    have r := f.rng p hp
    show ren ms (ren ns p) = p
    unfold ren
    have := ren_ord ms (nam ns p.1) (nam ns p.2)
    unfold ren at this
    rw [this, back _ r.1 (by omega), back _ (by omega) r.2.2, ordP_eq (by omega)]
  rw [e]
  exact srtP_of_asc f.asc
/-! ### side by side -/
def shf (m : Nat) (p : Int × Int) : Int × Int := (p.1 + m, p.2 + m)
theorem rng_add (m n : Nat) : rng (m + n) = rng m ++ (rng n).map (· + (m : Int)) := by
  unfold rng
  rw [List.range_add, List.map_append, List.map_map, List.map_map]
  congr 1
  refine List.map_congr_left fun i _ => ?_
  show Int.ofNat (m + i) = Int.ofNat i + (m : Int)
  simp only [Int.ofNat_eq_natCast]
  omega
theorem ordP_add (a b c : Int) : ordP (a + c) (b + c) = ((ordP a b).1 + c, (ordP a b).2 + c) := by
  unfold ordP
  by_cases h : a ≤ b
  · rw [if_pos h, if_pos (by omega)]
  · rw [if_neg h, if_neg (by omega)]
theorem IsFor.beside {m n : Nat} {es fs : List (Int × Int)} (f : IsFor m es) (g : IsFor n fs) : IsFor (m + n) (es ++ fs.map (shf m)) := by
  obtain ⟨nm, ks, G, p⟩ := f.grow
  obtain ⟨nn, js, G2, p2⟩ := g.grow
  have l1 := G.len
  have l2 := G2.len
  have left : ∀ i, i < m → (nm ++ nn.map (· + (m : Int))).getD i 0 = nm.getD i 0 := fun i hi => by
    rw [List.getD_eq_getElem?_getD, List.getElem?_append_left (by omega), List.getD_eq_getElem?_getD]
  have right : ∀ i, i < n → (nm ++ nn.map (· + (m : Int))).getD (i + m) 0 = nn.getD i 0 + m := fun i hi => by
    rw [List.getD_eq_getElem?_getD, List.getElem?_append_right (by omega), l1, Nat.add_sub_cancel, List.getElem?_map, List.getD_eq_getElem?_getD, List.getElem?_eq_getElem (by omega)]
    rfl
  refine ⟨?_, fun q hq => ?_, nm ++ nn.map (· + (m : Int)), ks ++ js.map (fun q => (q.1 + m, q.2 + m)), ⟨?_, ?_, fun q hq => ?_⟩, ?_⟩
  · refine List.pairwise_append.mpr ⟨f.asc, ?_, fun a ha b hb => ?_⟩
    · refine List.pairwise_map.mpr ?_
      refine g.asc.imp fun {a b} h => ?_
      unfold shf LtP
      simp only
      rcases h with h | h
      · left; omega
      · right; omega
    · obtain ⟨c, hc, rfl⟩ := List.mem_map.mp hb
      have := f.rng a ha
      have := g.rng c hc
      left
      unfold shf
      simp only
      omega
  · rcases List.mem_append.mp hq with hq | hq
    · have := f.rng q hq
      omega
    · obtain ⟨c, hc, rfl⟩ := List.mem_map.mp hq
      have := g.rng c hc
      unfold shf
      simp only
      omega
  · rw [rng_add]
    exact G.names.append (G2.names.map _)
  · refine List.pairwise_append.mpr ⟨G.up, ?_, fun a ha b hb => ?_⟩
    · rw [List.pairwise_map]
      exact G2.up.imp fun {a b} h => by simp only; omega
    · obtain ⟨c, hc, rfl⟩ := List.mem_map.mp hb
      have := G.down a ha
      simp only
      omega
  · rcases List.mem_append.mp hq with hq | hq
    · have := G.down q hq
      omega
    · obtain ⟨c, hc, rfl⟩ := List.mem_map.mp hq
      have := G2.down c hc
      simp only
      omega
  · rw [List.map_append]
    refine List.Perm.append (p.trans (List.Perm.of_eq (List.map_congr_left fun q hq => ?_))) ((p2.map (shf m)).trans (List.Perm.of_eq ?_))
    · have := G.down q hq
      unfold edgeOf
      rw [left _ (by omega), left _ (by omega)]
    · rw [List.map_map, List.map_map]
      refine List.map_congr_left fun q hq => ?_
      have := G2.down q hq
      show shf m (edgeOf nn q) = ordP ((nm ++ nn.map (· + (m : Int))).getD (q.1 + m) 0) ((nm ++ nn.map (· + (m : Int))).getD (q.2 + m) 0)
      rw [right _ (by omega), right _ (by omega), ordP_add]
      rfl
/-! ### one vertex more -/
theorem Grow.more {m : Nat} {nm : List Int} {ks : List (Nat × Nat)} (g : Grow m nm ks) : Grow (m + 1) (nm ++ [(m : Int)]) ks where
  names := by
    have e : rng (m + 1) = rng m ++ [(m : Int)] := by
      rw [rng_add]
      congr 1
      show [Int.ofNat 0 + (m : Int)] = _
      simp
    rw [e]
    exact g.names.append (List.Perm.refl _)
  up := g.up
  down := fun q hq => by have := g.down q hq; omega
theorem more_get {m : Nat} {nm : List Int} {i : Nat} (l : nm.length = m) (hi : i < m) : (nm ++ [(m : Int)]).getD i 0 = nm.getD i 0 := by
  rw [List.getD_eq_getElem?_getD, List.getElem?_append_left (by omega), List.getD_eq_getElem?_getD]
theorem more_edges {m : Nat} {nm : List Int} {ks : List (Nat × Nat)} (g : Grow m nm ks) : ks.map (edgeOf (nm ++ [(m : Int)])) = ks.map (edgeOf nm) :=
  List.map_congr_left fun q hq => by
    have := g.down q hq
    unfold edgeOf
    rw [more_get g.len (by omega), more_get g.len (by omega)]
theorem IsFor.more {m : Nat} {es : List (Int × Int)} (f : IsFor m es) : IsFor (m + 1) es := by
  obtain ⟨nm, ks, g, p⟩ := f.grow
  refine ⟨f.asc, fun q hq => by have := f.rng q hq; omega, nm ++ [(m : Int)], ks, g.more, ?_⟩
  rw [more_edges g]
  exact p
theorem IsFor.attach {m : Nat} {es : List (Int × Int)} {v : Int} (f : IsFor m es) (hv : 0 ≤ v ∧ v < m) : IsFor (m + 1) (srtP (es ++ [(v, (m : Int))])) := by
  obtain ⟨nm, ks, g, p⟩ := f.grow
  have l := g.len
  obtain ⟨i, hi, ei⟩ := List.mem_iff_getElem.mp (g.names.mem_iff.mpr (mem_rng.mpr hv))
  have gi : nm.getD i 0 = v := by rw [List.getD_eq_getElem?_getD, List.getElem?_eq_getElem hi]; exact ei
  have gm : (nm ++ [(m : Int)]).getD m 0 = (m : Int) := by
    rw [List.getD_eq_getElem?_getD, List.getElem?_append_right (by omega), l, Nat.sub_self]
    rfl
  have g' : Grow (m + 1) (nm ++ [(m : Int)]) (ks ++ [(m, i)]) := ⟨g.more.names, List.pairwise_append.mpr ⟨g.up, List.pairwise_singleton _ _, fun a ha b hb => by
    rw [List.mem_singleton.mp hb]
    exact (g.down a ha).2⟩, fun q hq => by
    rcases List.mem_append.mp hq with hq | hq
    · have := g.down q hq
      omega
    · rw [List.mem_singleton.mp hq]
      simp only
      omega⟩
  refine g'.sorted ?_
  rw [List.map_append, more_edges g]
  refine List.Perm.append p (List.Perm.of_eq ?_)
  rw [List.map_singleton]
  unfold edgeOf
  simp only
  rw [gm, more_get l (by omega), gi, ordP_comm, ordP_eq (by omega)]
theorem IsFor.empty : IsFor 0 [] := ⟨.nil, (fun _ h => nomatch h), [], [], ⟨.nil, .nil, (fun _ h => nomatch h)⟩, .nil⟩
end TL
namespace TL
open PySem PySem.Spec PyProof.Rows L2
section
variable {X : Cx} {pos : Pos}
theorem pgLK (K : PySem.W.Frag) {es : List Expr} {k : Nat} {t : TGs} {n : Nat} (h : PGs X es t) (hc : X.calm = true := by rfl) (hK : X.K = K := by rfl)
    (hn : (assignEach es X.env).length = n := by rfl) (hst : (assignEach es X.env).findIdx? (·.1) = none := by rfl) :
    PG X (.Tuple es k pos) (gLst K n t) := hK ▸ pg_lst hc h hn hst
theorem leTK (K : PySem.W.Frag) (hu : X.A.units + 64 < cLine) (h : X.K = K := by rfl) : OpR X (compareOp .LtE) (rLeT K) := h ▸ op_leT (by omega)
end
section
variable {X : Cx}
/-- t.index(n), t a tuple of ints that holds n -/
def rTix (K : PySem.W.Frag) : V → List V → Hp → VK → Prop := fun x xs H Q => ∃ (p : Addr) (ns : List Int) (k : Int), x = .ref p ∧ xs = [.int k] ∧ SqT K H p (ns.map V.int) ∧ k ∈ ns ∧ Q (.int (ns.idxOf k : Nat)) H
theorem mt_tix : MtR X "tuple.index" (rTix X.K) := by
  intro pins s σ H x xs v us Q I rx rs h
  obtain ⟨p, ns, k, rfl, rfl, hq, hk, q⟩ := h
  cases rx
  obtain ⟨u, rfl, t, rfl⟩ := vals1 rs
  obtain ⟨its, r, ⟨o0, ho0, hc0, n0, hd0⟩, hz⟩ := I.tuple hq
  have i1 : IntsAre its ns := Vals.ints r
  refine SeqAt.call_tuple_index (ks := ns) (k := k) ⟨o0, ho0, hc0, n0, hd0⟩ ⟨i1.length, fun j h1 h2 => ?_⟩ hk ⟨.int _, H, I.tok _, ⟨_, rfl⟩, q⟩
  obtain ⟨t', et⟩ := PyProof.Rows.IntsAre.int_at i1 j its[j] (List.getElem?_eq_getElem h1)
  rw [et]
  have e : ns.getD j 0 = ns[j] := by rw [List.getD_eq_getElem?_getD, List.getElem?_eq_getElem h2]; rfl
  rw [e]
  have z : (ns[j] == k) = decide (ns[j] = k) := by
    by_cases q : ns[j] = k
    · rw [decide_eq_true q]; exact beq_iff_eq.mpr q
    · rw [decide_eq_false q]; exact beq_eq_false_iff_ne.mpr q
  rw [← z]
  exact SeqAt.EqAt.int_int _ _ _ _
theorem tixK (K : PySem.W.Frag) (h : X.K = K := by rfl) : MtR X "tuple.index" (rTix K) := h ▸ mt_tix
end
theorem filt_true {α : Type} (l : List α) : l.filter (fun _ => true) = l := List.filter_eq_self.mpr fun _ _ => rfl
/-- a loop by a measure that is carried along -/
theorem while_ms {c : TT} {tb : TS} {D : Ends} {σ : L2.St} {H : Hp} (W : Nat → L2.St → Hp → Prop) (n : Nat) (h0 : W n σ H)
    (hs : ∀ n σ H, W n σ H → c σ H fun b H1 => if b = true then tb { D with nx := fun σ' H' => ∃ n', n' < n ∧ W n' σ' H', ct := fun σ' H' => ∃ n', n' < n ∧ W n' σ' H', bk := D.nx } σ H1 else D.nx σ H1)
    (mono : ∀ σ H Q Q', (∀ b H1, Q b H1 → Q' b H1) → c σ H Q → c σ H Q') : tWhile c tb D σ H := by
  refine ⟨W, ⟨n, h0⟩, fun m σ H p => mono σ H _ _ (fun b H1 q => ?_) (hs m σ H p)⟩
  cases b with
  | true => exact ⟨_, fun σ' H' h => h, q⟩
  | false => exact q
/-! ### the state of the draws: cells, a count, what is left of great cells -/
structure Dw (H : Hp) (d r c : Addr) (n : Nat) : Prop where
  ex : ∃ (k : Nat) (cs rs : List Int), k ≤ n ∧ H d = some (.lst [.ref c, .int (k : Int), .ref r]) ∧ H c = some (.lst (cs.map V.int)) ∧ H r = some (.lst (rs.map V.int)) ∧
    c ≠ r ∧ 0 < cs.length ∧ rs.length = cs.length ∧ cs.length ≤ 63 ∧ (∀ z ∈ cs, 0 ≤ z) ∧ (∀ z ∈ rs, 0 ≤ z)
theorem ne_ints {H : Hp} {d c x : Addr} {vs : List V} {ns : List Int} (h1 : H d = some (.lst (.ref x :: vs))) (h2 : H c = some (.lst (ns.map V.int))) : d ≠ c := by
  intro e
  rw [e, h2] at h1
  cases ns with
  | nil => cases h1
  | cons z r => cases h1
theorem Dw.same {H H' : Hp} {d r c : Addr} {n : Nat} (h : Dw H d r c n) (e : Same H H') : Dw H' d r c n := by
  obtain ⟨k, cs, rs, hk, h1, h2, h3, h4⟩ := h.ex
  exact ⟨k, cs, rs, hk, e _ _ h1, e _ _ h2, e _ _ h3, h4⟩
theorem Dw.le {H : Hp} {d r c : Addr} {n m : Nat} (h : Dw H d r c n) (e : n ≤ m) : Dw H d r c m := by
  obtain ⟨k, cs, rs, hk, h4⟩ := h.ex
  exact ⟨k, cs, rs, Nat.le_trans hk e, h4⟩
theorem Dw.off {H : Hp} {d r c a : Addr} {n : Nat} (h : Dw H d r c n) (ha : H a = none) : a ≠ d ∧ a ≠ r ∧ a ≠ c := by
  obtain ⟨k, cs, rs, hk, h1, h2, h3, h4⟩ := h.ex
  exact ⟨fun z => (by rw [z, h1] at ha; cases ha), fun z => (by rw [z, h3] at ha; cases ha), fun z => (by rw [z, h2] at ha; cases ha)⟩
theorem Dw.put {H : Hp} {d r c a : Addr} {n : Nat} {o : HO} (h : Dw H d r c n) (e : a ≠ d ∧ a ≠ r ∧ a ≠ c) : Dw (upd H a o) d r c n := by
  obtain ⟨k, cs, rs, hk, h1, h2, h3, h4⟩ := h.ex
  exact ⟨k, cs, rs, hk, by rw [upd_ne e.1.symm]; exact h1, by rw [upd_ne e.2.2.symm]; exact h2, by rw [upd_ne e.2.1.symm]; exact h3, h4⟩
theorem Fm.ktw {K : PySem.W.Frag} {H H' : Hp} {d r c : Addr} {n : Nat} (e : Fm d r H H') (h : Dw H d r c n) : KT K H H' := by
  obtain ⟨k, cs, rs, hk, h1, h2, h3, h4⟩ := h.ex
  intro a xs q
  rcases q with (q | ⟨o, q⟩) | q
  · refine .inl (.inl (e _ _ (fun z => ?_) (fun z => ?_) q))
    · rw [z, h1] at q; cases q
    · rw [z, h3] at q; cases q
  · refine .inl (.inr ⟨o, e _ _ (fun z => ?_) (fun z => ?_) q⟩)
    · rw [z, h1] at q; cases q
    · rw [z, h3] at q; cases q
  · exact .inr q
theorem Fm.put1 {d l a : Addr} {H H' : Hp} {o : HO} (h : Fm d l H H') (ha : H a = none) : Fm d l H (upd H' a o) := fun b u n1 n2 e => by
  rw [upd_ne (ne_of_none e ha)]
  exact h b u n1 n2 e
theorem erase_prm {rs : List Int} {k : Nat} (h : k < rs.length) : (rs[k] :: rs.eraseIdx k).Perm rs := by
  induction rs generalizing k with
  | nil => exact absurd h (Nat.not_lt_zero _)
  | cons a r ih =>
    cases k with
    | zero => exact List.Perm.refl _
    | succ k =>
      have h' : k < r.length := by rw [List.length_cons] at h; omega
      exact (List.Perm.swap _ _ _).trans (List.Perm.cons a (ih h'))
theorem erase_mp : ∀ (rs : List Int) (k : Nat), (rs.map V.int).eraseIdx k = (rs.eraseIdx k).map V.int
  | [], _ => rfl
  | a :: r, 0 => rfl
  | a :: r, k + 1 => congrArg (V.int a :: ·) (erase_mp r k)
theorem modIn {x m : Int} (h : 0 < m) : 0 ≤ x % m ∧ x % m < m := ⟨Int.emod_nonneg x (by omega), Int.emod_lt_of_pos x h⟩
theorem rgVrng (m : Nat) : rgV 0 (m : Int) = (rng m).map V.int := by
  unfold rgV rng
  rw [List.map_map]
  have e : ((m : Int) - 0).toNat = m := by omega
  rw [e]
  refine List.map_congr_left fun i _ => ?_
  show V.int (0 + (i : Int)) = V.int (Int.ofNat i)
  rw [Int.zero_add]
  rfl
theorem decInt (a b : Int) : decide (V.int a = V.int b) = decide (a = b) := by
  by_cases h : a = b
  · subst h; simp
  · have : ¬ V.int a = V.int b := fun z => h (V.int.inj z)
    rw [decide_eq_false h, decide_eq_false this]
theorem cut63 {ns : List Int} (h : ns.length ≤ 63) : cutV (ns.map V.int) none (some 63) = ns.map V.int := by
  unfold cutV
  rw [HT.sIx_none, show HT.sIx (ns.map V.int).length (ns.map V.int).length (some 63) = min 63 (ns.map V.int).length from HT.sIx_nat _ _ 63]
  rw [List.drop_zero]
  exact List.take_of_length_le (by rw [List.length_map]; omega)
theorem shaped_forD (m : Nat) (es : List (Int × Int)) : SeqAt.shaped (forD m es) = true := by
  have h1 : ∀ l : List (Int × Int), PyData.depthAll (l.map prD) ≤ 1 := by
    intro l
    induction l with
    | nil => simp [PyData.depthAll]
    | cons p l ih =>
      simp only [List.map_cons, PyData.depthAll]
      exact Nat.max_le.mpr ⟨by simp [prD, PyData.depth, PyData.depthAll], ih⟩
  have h2 := h1 es
  have h : (forD m es).depth ≤ 64 := by
    simp only [forD, prsD, PyData.depth, PyData.depthAll]
    omega
  unfold SeqAt.shaped
  rw [decide_eq_true h, Bool.and_true]
  simp only [forD, prsD, PyData.canLay0, PyData.canLayAll0, lay_prs, Bool.and_self, Bool.and_true]
theorem idx_back {m : Nat} {ns : List Int} (h : ns.Perm (rng m)) {v : Int} (v0 : 0 ≤ v) (v1 : v < m) : nam ((rng m).map fun u => ((ns.idxOf u : Nat) : Int)) (nam ns v) = v := by
  have hn := nam_in h ⟨v0, v1⟩
  have nd : ns.Nodup := h.nodup_iff.mpr (rng_asc m).nodup
  have hl : v.toNat < ns.length := by rw [perm_len h]; omega
  have e1 : nam ns v = ns[v.toNat] := by
    unfold nam
    rw [List.getD_eq_getElem?_getD, List.getElem?_eq_getElem hl]
    rfl
  have e2 : (rng m)[(nam ns v).toNat]? = some (nam ns v) := by
    unfold rng
    rw [List.getElem?_map, List.getElem?_range (by omega)]
    show some (Int.ofNat (nam ns v).toNat) = _
    congr 1
    simp only [Int.ofNat_eq_natCast]
    omega
  have e3 : ns.idxOf (nam ns v) = v.toNat := by
    rw [e1]
    exact nd.idxOf_getElem _ hl
  show ((rng m).map fun u => ((ns.idxOf u : Nat) : Int)).getD (nam ns v).toNat 0 = v
  rw [List.getD_eq_getElem?_getD, List.getElem?_map, e2]
  show ((ns.idxOf (nam ns v) : Nat) : Int) = v
  rw [e3]
  omega
theorem nam_at {m : Nat} {ns : List Int} (h : ns.length = m) {v : Int} (v0 : 0 ≤ v) (v1 : v < m) : atI (ns.map V.int) v = some (.int (nam ns v)) := by
  have hl : v.toNat < ns.length := by omega
  refine at_of (j := v.toNat) (by omega) ?_
  unfold nam
  rw [List.getElem?_map, List.getD_eq_getElem?_getD, List.getElem?_eq_getElem hl]
  rfl
end TL
namespace TL
open PySem PySem.Spec PyProof.Rows L2
section
variable {X : Cx} {o e : Expr} {to te : TE}
theorem joinK (K : PySem.W.Frag) {apos pos : Pos} (ho : PE X o to) (he : PE X e te) (h : X.K = K := by rfl) (hs : starEach [e] X.env = [(false, eval e X.env)] := by rfl) (hbase : attributeBase o "join" X.env (eval o X.env) = eval o X.env := by rfl) (hline : (apos.endLine == pos.line) = true := by rfl) :
    PE X (.Call (.Attribute o "join" apos) [e] [] pos) (tM1 (fun x xs H Q => ∃ a p, ∃ ys : List Str, x = .str a ∧ xs = [.ref p] ∧ (SqL K H p (ys.map V.str) ∨ SqT K H p (ys.map V.str)) ∧
      (ys.map (·.length)).sum + ys.length * a.length ≤ 16777216 ∧ Q (.str (Txt.join a ys)) H) to te) := by
  subst h
  exact pe_join ho he hs hbase hline
end
def tJd (ts : List TE) : TE := fun σ H Q => tJs ts Str.empty σ H fun out H1 => Q (.str out) H1
theorem pe_jd {X : Cx} {v1 v2 : Expr} {rest : List Expr} {ts : List TE} {pos : Pos} (h : PJ X (v1 :: v2 :: rest) ts) : PE X (.JoinedStr (v1 :: v2 :: rest) pos) (tJd ts) := pe_joined h
/-! ### texts of pairs -/
abbrev dig (i : Int) : Str := (toString i : String)
def wrd (g : Str) (p : Int × Int) : Str := dig p.1 ++ g ++ dig p.2
def wds (g : Str) (ps : List (Int × Int)) : List Str := if ps = [] then [("none" : Str)] else ps.map (wrd g)
def txt (g : Str) (ps : List (Int × Int)) : Str := Txt.join " " (wds g ps)
def sm12 (p : Int × Int) : Prop := (0 ≤ p.1 ∧ p.1 ≤ 99) ∧ 0 ≤ p.2 ∧ p.2 ≤ 99
theorem dig_all : ∀ i : Fin 100, (∀ c ∈ tl (dig ((i : Nat) : Int)), 48 ≤ c ∧ c ≤ 57) ∧ (dig ((i : Nat) : Int)).length ≤ 2 ∧ ∀ j : Fin 100, tl (dig ((i : Nat) : Int)) = tl (dig ((j : Nat) : Int)) → i = j := by
  decide +kernel
theorem dig_ok {i : Int} (h : 0 ≤ i ∧ i ≤ 99) : (∀ c ∈ tl (dig i), 48 ≤ c ∧ c ≤ 57) ∧ (dig i).length ≤ 2 := by
  have e : i = (((⟨i.toNat, by omega⟩ : Fin 100) : Nat) : Int) := by show i = (i.toNat : Int); omega
  have := dig_all ⟨i.toNat, by omega⟩
  rw [e]
  exact ⟨this.1, this.2.1⟩
theorem dig_inj {i j : Int} (h : 0 ≤ i ∧ i ≤ 99) (g : 0 ≤ j ∧ j ≤ 99) (e : dig i = dig j) : i = j := by
  have ei : i = (((⟨i.toNat, by omega⟩ : Fin 100) : Nat) : Int) := by show i = (i.toNat : Int); omega
  have ej : j = (((⟨j.toNat, by omega⟩ : Fin 100) : Nat) : Int) := by show j = (j.toNat : Int); omega
  have := (dig_all ⟨i.toNat, by omega⟩).2.2 ⟨j.toNat, by omega⟩ (by rw [← ei, ← ej, e])
  have := congrArg (fun z : Fin 100 => z.val) this
  simp only at this
  omega
/-- a sign of its own between two numbers -/
structure Sg (g : Str) (s : Nat) : Prop where
  one : tl g = [s]
  low : g.cps.all (· < 256) = true
  is : s = 45 ∨ s = 62
theorem sg_edge : Sg "-" 45 := ⟨by decide +kernel, by decide +kernel, .inl rfl⟩
theorem sg_slide : Sg ">" 62 := ⟨by decide +kernel, by decide +kernel, .inr rfl⟩
section
variable {g : Str} {s : Nat}
theorem wrd_join (g : Str) (p : Int × Int) : wrd g p = Txt.join g [dig p.1, dig p.2] := by
  rw [join_eq]
  rfl
theorem wrd_split (G : Sg g s) {p : Int × Int} (h : sm12 p) : Txt.split (wrd g p) g = [dig p.1, dig p.2] := by
  rw [wrd_join]
  refine split_join (s := s) (S := []) G.one G.low (by simp) fun z hz => ?_
  have key : ∀ i : Int, 0 ≤ i ∧ i ≤ 99 → s ∉ tl (dig i) := fun i hi z => by
    have := (dig_ok hi).1 s z
    have := G.is
    omega
  rcases List.mem_cons.mp hz with rfl | hz
  · exact key _ h.1
  · rw [List.mem_singleton.mp hz]
    exact key _ h.2
theorem wrd_inj (G : Sg g s) {p q : Int × Int} (h : sm12 p) (k : sm12 q) (e : wrd g p = wrd g q) : p = q := by
  have h1 := wrd_split G h
  rw [e, wrd_split G k] at h1
  injection h1 with e1 e2
  injection e2 with e2 _
  exact Prod.ext (dig_inj h.1 k.1 e1.symm) (dig_inj h.2 k.2 e2.symm)
theorem wrd_mem (G : Sg g s) {p : Int × Int} (h : sm12 p) : s ∈ tl (wrd g p) ∧ (32 ∉ tl (wrd g p)) ∧ (wrd g p).length ≤ 5 := by
  unfold wrd
  rw [tl_append, tl_append, G.one]
  refine ⟨by simp, fun z => ?_, ?_⟩
  · rcases List.mem_append.mp z with z | z
    · rcases List.mem_append.mp z with z | z
      · have := (dig_ok h.1).1 _ z
        omega
      · have := List.mem_singleton.mp z
        have := G.is
        omega
    · have := (dig_ok h.2).1 _ z
      omega
  · rw [Str.length_append, Str.length_append]
    have h1 := (dig_ok h.1).2
    have h2 := (dig_ok h.2).2
    have h3 : g.length = 1 := by rw [len_tl, G.one]; rfl
    omega
theorem wds_ok (G : Sg g s) {ps : List (Int × Int)} (h : ∀ p ∈ ps, sm12 p) : wds g ps ≠ [] ∧ (∀ w ∈ wds g ps, 32 ∉ tl w ∧ w.length ≤ 5) ∧ (wds g ps).length ≤ ps.length + 1 := by
  unfold wds
  split
  · refine ⟨by simp, fun w hw => ?_, by simp⟩
    rw [List.mem_singleton.mp hw]
    exact ⟨by decide +kernel, by decide +kernel⟩
  · rename_i hn
    refine ⟨fun z => hn (List.map_eq_nil_iff.mp z), fun w hw => ?_, by rw [List.length_map]; omega⟩
    obtain ⟨p, hp, rfl⟩ := List.mem_map.mp hw
    exact ⟨(wrd_mem G (h p hp)).2.1, (wrd_mem G (h p hp)).2.2⟩
theorem txt_inj (G : Sg g s) {ps qs : List (Int × Int)} (h : ∀ p ∈ ps, sm12 p) (k : ∀ p ∈ qs, sm12 p) (e : txt g ps = txt g qs) : ps = qs := by
  have sp : ∀ {ps : List (Int × Int)}, (∀ p ∈ ps, sm12 p) → Txt.split (txt g ps) " " = wds g ps := fun {ps} h => by
    obtain ⟨h1, h2, _⟩ := wds_ok G h
    exact split_join (s := 32) (S := []) (by decide +kernel) (by decide +kernel) h1 fun w hw => (h2 w hw).1
  have e2 : wds g ps = wds g qs := by rw [← sp h, e, sp k]
  have no : ∀ {qs : List (Int × Int)}, (∀ p ∈ qs, sm12 p) → ("none" : Str) ∉ qs.map (wrd g) := fun {qs} k z => by
    obtain ⟨q, hq, eq⟩ := List.mem_map.mp z
    have := (wrd_mem G (k q hq)).1
    rw [eq] at this
    have n1 : tl ("none" : Str) = [110, 111, 110, 101] := by decide +kernel
    rw [n1] at this
    have := G.is
    simp at *
    omega
  unfold wds at e2
  split at e2
  · split at e2
    · rename_i h1 h2
      rw [h1, h2]
    · exact absurd (by rw [← e2]; exact List.mem_singleton.mpr rfl) (no k)
  · split at e2
    · exact absurd (by rw [e2]; exact List.mem_singleton.mpr rfl) (no h)
    · rename_i h1 h2
      clear h1 h2 e
      induction ps generalizing qs with
      | nil =>
        cases qs with
        | nil => rfl
        | cons _ _ => cases e2
      | cons p ps ih =>
        cases qs with
        | nil => cases e2
        | cons q qs =>
          rw [List.map_cons, List.map_cons] at e2
          injection e2 with e3 e4
          rw [wrd_inj G (h p List.mem_cons_self) (k q List.mem_cons_self) e3, ih (fun p hp => h p (List.mem_cons_of_mem _ hp)) (fun p hp => k p (List.mem_cons_of_mem _ hp)) e4]
theorem joinL_len (S : List Nat) : ∀ parts : List (List Nat), (joinL S parts).length ≤ (parts.map List.length).sum + parts.length * S.length
  | [] => Nat.zero_le _
  | [p] => by
    show p.length ≤ _
    rw [List.map_cons, List.sum_cons]
    omega
  | p :: q :: r => by
    have ih := joinL_len S (q :: r)
    show (p ++ (S ++ joinL S (q :: r))).length ≤ _
    rw [List.length_append, List.length_append, List.map_cons, List.sum_cons, List.length_cons (a := p), Nat.add_mul]
    omega
theorem sum_le {ws : List Str} {n : Nat} (h : ∀ w ∈ ws, w.length ≤ n) : (ws.map (·.length)).sum ≤ n * ws.length := by
  induction ws with
  | nil => exact Nat.zero_le _
  | cons w ws ih =>
    have h1 := h w List.mem_cons_self
    have h2 := ih fun w hw => h w (List.mem_cons_of_mem _ hw)
    rw [List.map_cons, List.sum_cons, List.length_cons, Nat.mul_add]
    omega
theorem txt_len (G : Sg g s) {ps : List (Int × Int)} (h : ∀ p ∈ ps, sm12 p) : (txt g ps).length ≤ 6 * (ps.length + 1) := by
  obtain ⟨h1, h2, h3⟩ := wds_ok G h
  unfold txt
  rw [len_tl, join_eq, tl_join]
  have e : (((wds g ps).map tl).map List.length).sum = ((wds g ps).map (·.length)).sum := by
    rw [List.map_map]
    congr 1
  have h4 := joinL_len (tl (" " : Str)) ((wds g ps).map tl)
  rw [e, List.length_map, show (tl (" " : Str)).length = 1 by decide +kernel] at h4
  have h5 := sum_le fun w hw => (h2 w hw).2
  omega
end
/-! ### texts of forests -/
def ftx (n : Int) (es : List (Int × Int)) : Str := dig n ++ ": " ++ txt "-" es
theorem ftx_inj {n k : Int} {es fs : List (Int × Int)} (hn : 0 ≤ n ∧ n ≤ 99) (hk : 0 ≤ k ∧ k ≤ 99) (h : ∀ p ∈ es, sm12 p) (g : ∀ p ∈ fs, sm12 p) (e : ftx n es = ftx k fs) : n = k ∧ es = fs := by
  have key : ∀ {n : Int} {es : List (Int × Int)}, (0 ≤ n ∧ n ≤ 99) → Txt.partition (ftx n es) (": " : Str) = (dig n, (": " : Str), txt "-" es) := fun {n es} hn =>
    partition_app (y := (": " : Str)) (s := 58) (S := [32]) (by decide +kernel) fun z => by
      have := (dig_ok hn).1 _ z
      omega
  have e1 := key (es := es) hn
  rw [e, key hk] at e1
  injection e1 with e2 e3
  injection e3 with _ e4
  exact ⟨dig_inj hn hk e2.symm, txt_inj sg_edge h g e4.symm⟩
end TL
namespace TL
open PySem PySem.Spec PyProof.Rows L2
/-! ### numbers of one or two digits, read and written -/
def DgL (l : List Nat) : Prop := l ≠ [] ∧ l.length ≤ 2 ∧ (∀ c ∈ l, 48 ≤ c ∧ c ≤ 57) ∧ ¬ (l.length = 2 ∧ l[0]? = some 48)
theorem tl_dig (n : Nat) : tl (dig ((n : Nat) : Int)) = numL n := tl_num n
theorem numL_two {n : Nat} (h : 10 ≤ n) (h2 : n < 100) : numL n = [48 + n / 10, 48 + n % 10] := by
  rw [numL_step h, numL_lt (by omega)]
  rfl
theorem dg_dig {n : Int} (h : 0 ≤ n ∧ n ≤ 99) : DgL (tl (dig n)) := by
  obtain ⟨k, rfl⟩ : ∃ k : Nat, n = (k : Int) := ⟨n.toNat, by omega⟩
  rw [tl_dig]
  by_cases h1 : k < 10
  · rw [numL_lt h1]
    refine ⟨by simp, by simp, fun c hc => ?_, fun z => by simp at z⟩
    rw [List.mem_singleton.mp hc]
    omega
  · rw [numL_two (by omega) (by omega)]
    refine ⟨by simp, by simp, fun c hc => ?_, fun z => ?_⟩
    · simp only [List.mem_cons, List.not_mem_nil, or_false] at hc
      omega
    · have := z.2
      simp only [List.getElem?_cons_zero, Option.some.injEq] at this
      omega
theorem dig_of {z : Str} (h : DgL (tl z)) : ∃ n : Int, (0 ≤ n ∧ n ≤ 99) ∧ z = dig n := by
  obtain ⟨h1, h2, h3, h4⟩ := h
  cases e : tl z with
  | nil => exact absurd e h1
  | cons c r =>
    cases r with
    | nil =>
      have hc := h3 c (by rw [e]; exact List.mem_singleton.mpr rfl)
      refine ⟨((c - 48 : Nat) : Int), by omega, ext_tl ?_⟩
      rw [tl_dig, numL_lt (by omega), e]
      congr 1
      omega
    | cons d r =>
      cases r with
      | nil =>
        have hc := h3 c (by rw [e]; simp)
        have hd := h3 d (by rw [e]; simp)
        have h0 : c ≠ 48 := fun z => h4 (by rw [e, z]; exact ⟨rfl, rfl⟩)
        refine ⟨(((c - 48) * 10 + (d - 48) : Nat) : Int), by omega, ext_tl ?_⟩
        rw [tl_dig, numL_two (by omega) (by omega), e]
        congr 1
        · omega
        · congr 1
          omega
      | cons _ _ => rw [e] at h2; simp at h2
noncomputable def numO (z : Str) : Option Int := @dite _ (∃ n : Int, (0 ≤ n ∧ n ≤ 99) ∧ z = dig n) (Classical.propDecidable _) (fun h => some h.choose) (fun _ => none)
theorem numO_some {z : Str} {n : Int} : numO z = some n ↔ (0 ≤ n ∧ n ≤ 99) ∧ z = dig n := by
  unfold numO
  constructor
  · intro h
    by_cases e : ∃ n : Int, (0 ≤ n ∧ n ≤ 99) ∧ z = dig n
    · rw [dif_pos e] at h
      rw [← Option.some.inj h]
      exact e.choose_spec
    · rw [dif_neg e] at h
      cases h
  · intro h
    have e : ∃ n : Int, (0 ≤ n ∧ n ≤ 99) ∧ z = dig n := ⟨n, h⟩
    rw [dif_pos e]
    have k := e.choose_spec
    exact congrArg some (dig_inj k.1 h.1 (k.2.symm.trans h.2))
theorem numO_none {z : Str} : numO z = none ↔ ¬ DgL (tl z) := by
  constructor
  · intro h hd
    obtain ⟨n, k⟩ := dig_of hd
    rw [numO_some.mpr k] at h
    cases h
  · intro h
    cases e : numO z with
    | none => rfl
    | some n =>
      obtain ⟨k1, k2⟩ := numO_some.mp e
      rw [k2] at h
      exact absurd (dg_dig k1) h
theorem numO_dig {n : Int} (h : 0 ≤ n ∧ n ≤ 99) : numO (dig n) = some n := numO_some.mpr ⟨h, rfl⟩
theorem numO_empty : numO Str.empty = none := numO_none.mpr fun h => h.1 rfl
theorem dg_int {z : Str} (h : DgL (tl z)) : ∃ n : Int, numO z = some n ∧ intText? z = some n := by
  obtain ⟨n, k1, rfl⟩ := dig_of h
  obtain ⟨k, rfl⟩ : ∃ k : Nat, n = (k : Int) := ⟨n.toNat, by omega⟩
  refine ⟨_, numO_dig k1, int_num ?_⟩
  have := h.2.1
  rw [tl_dig] at this
  omega
theorem digit_all : ∀ c : Fin 128, Unicode.isDigit c = decide (48 ≤ c.val ∧ c.val ≤ 57) := by decide +kernel
theorem all_tl {z : Str} {p : Nat → Bool} : z.cps.all p = true ↔ ∀ c ∈ tl z, p c = true := by
  rw [Array.all_eq_true_iff_forall_mem]
  exact ⟨fun h c hc => h c (Array.mem_toList_iff.mp hc), fun h c hc => h c (Array.mem_toList_iff.mpr hc)⟩
theorem asc_dig {z : Str} : Txt.isascii z = true ∧ Txt.isdigit z = true ↔ tl z ≠ [] ∧ ∀ c ∈ tl z, 48 ≤ c ∧ c ≤ 57 := by
  have e1 : Txt.isascii z = true ↔ ∀ c ∈ tl z, c < 128 := by
    unfold Txt.isascii
    rw [all_tl]
    simp only [decide_eq_true_eq]
  have e2 : Txt.isdigit z = true ↔ tl z ≠ [] ∧ ∀ c ∈ tl z, Unicode.isDigit c = true := by
    unfold Txt.isdigit
    rw [Bool.and_eq_true, all_tl, decide_eq_true_iff, len_tl]
    refine and_congr ⟨fun h e => ?_, fun h => ?_⟩ Iff.rfl
    · rw [e] at h
      exact absurd h (by decide)
    · exact List.length_pos_iff.mpr h
  rw [e1, e2]
  constructor
  · rintro ⟨h1, h2, h3⟩
    refine ⟨h2, fun c hc => ?_⟩
    have := h3 c hc
    have k := digit_all ⟨c, h1 c hc⟩
    rw [show Unicode.isDigit ((⟨c, h1 c hc⟩ : Fin 128) : Nat) = Unicode.isDigit c from rfl, this] at k
    exact of_decide_eq_true k.symm
  · rintro ⟨h1, h2⟩
    refine ⟨fun c hc => by have := h2 c hc; omega, h1, fun c hc => ?_⟩
    have k := digit_all ⟨c, by have := h2 c hc; omega⟩
    rw [decide_eq_true (h2 c hc)] at k
    exact k
theorem starts0 {z : Str} : Txt.startswith z "0" = true ↔ (tl z)[0]? = some 48 := by
  have e0 : tl ("0" : Str) = [48] := by decide +kernel
  have el : ("0" : Str).length = 1 := by decide +kernel
  unfold Txt.startswith
  rw [Bool.and_eq_true, decide_eq_true_iff, PySem.StrLaws.subAt_eq, el, len_tl]
  rw [show ("0" : Str).cps.toList = [48] from e0, show z.cps.toList = tl z from rfl]
  cases e : tl z with
  | nil => simp
  | cons c r => simp
/-! ### cut and joined again -/
theorem pre1 (c : Nat) (r : List Nat) : pre [c] (c :: r) = true := pre_self [c] r
theorem joinL_spl1 (s : Nat) : ∀ (l acc : List Nat), joinL [s] (spl [s] 0 acc l) = acc ++ l
  | [], acc => by
    rw [spl_nil, List.append_nil]
    rfl
  | c :: r, acc => by
    by_cases h : c = s
    · subst h
      rw [spl_hit (pre1 c r)]
      show joinL [c] (acc :: spl [c] 0 [] r) = _
      have ne : spl [c] 0 [] r ≠ [] := by
        cases r with
        | nil => rw [spl_nil]; simp
        | cons d r =>
          by_cases hd : d = c
          · subst hd
            rw [spl_hit (pre1 d r)]
            simp
          · have key : ∀ (l acc : List Nat), spl [c] 0 acc l ≠ [] := fun l => by
              induction l with
              | nil => intro acc; rw [spl_nil]; simp
              | cons d l ih =>
                intro acc
                by_cases hd : d = c
                · subst hd
                  rw [spl_hit (pre1 d l)]
                  simp
                · rw [spl_miss (pre_of_head [] l hd)]
                  exact ih _
            exact key _ _
      have ih := joinL_spl1 c r []
      cases e : spl [c] 0 [] r with
      | nil => exact absurd e ne
      | cons x y =>
        rw [e] at ih
        show acc ++ ([c] ++ joinL [c] (x :: y)) = _
        rw [ih]
        rfl
    · rw [spl_miss (pre_of_head [] r h), joinL_spl1 s r (acc ++ [c]), List.append_assoc]
      rfl
section
variable {g : Str} {s : Nat}
theorem join_split {z : Str} (e : tl g = [s]) (low : g.cps.all (· < 256) = true) : Txt.join g (Txt.split z g) = z := by
  refine ext_tl ?_
  rw [join_eq, tl_join, split_spl z g (by rw [e]; simp) (kind_ok low), e, joinL_spl1, List.nil_append]
theorem split_free {z : Str} (e : tl g = [s]) (low : g.cps.all (· < 256) = true) : ∀ w ∈ Txt.split z g, s ∉ tl w := by
  have key : ∀ (l acc : List Nat), s ∉ acc → ∀ w ∈ spl [s] 0 acc l, s ∉ w := fun l => by
    induction l with
    | nil =>
      intro acc h w hw
      rw [spl_nil] at hw
      rw [List.mem_singleton.mp hw]
      exact h
    | cons c r ih =>
      intro acc h w hw
      by_cases hc : c = s
      · subst hc
        rw [spl_hit (pre1 c r)] at hw
        rcases List.mem_cons.mp hw with rfl | hw
        · exact h
        · exact ih [] (by simp) w hw
      · rw [spl_miss (pre_of_head [] r hc)] at hw
        refine ih (acc ++ [c]) (fun z => ?_) w hw
        rcases List.mem_append.mp z with z | z
        · exact h z
        · exact hc (List.mem_singleton.mp z).symm
  intro w hw
  have := split_spl z g (by rw [e]; simp) (kind_ok (x := z) low)
  rw [e] at this
  exact key _ _ (by simp) _ (this ▸ List.mem_map.mpr ⟨w, hw, rfl⟩)
theorem split_ne {z : Str} (e : tl g = [s]) (low : g.cps.all (· < 256) = true) : Txt.split z g ≠ [] := fun h => by
  have := split_spl z g (by rw [e]; simp) (kind_ok (x := z) low)
  rw [h, e] at this
  have key : ∀ (l acc : List Nat), spl [s] 0 acc l ≠ [] := fun l => by
    induction l with
    | nil => intro acc; rw [spl_nil]; simp
    | cons d l ih =>
      intro acc
      by_cases hd : d = s
      · subst hd
        rw [spl_hit (pre1 d l)]
        simp
      · rw [spl_miss (pre_of_head [] l hd)]
        exact ih _
  exact key _ _ this.symm
theorem split_len {z : Str} (e : tl g = [s]) (low : g.cps.all (· < 256) = true) : (Txt.split z g).length ≤ z.length + 1 := by
  have key : ∀ (l acc : List Nat), (spl [s] 0 acc l).length ≤ l.length + 1 := fun l => by
    induction l with
    | nil => intro acc; rw [spl_nil]; simp
    | cons d l ih =>
      intro acc
      by_cases hd : d = s
      · subst hd
        rw [spl_hit (pre1 d l)]
        have := ih []
        show (spl [d] 0 [] l).length + 1 ≤ l.length + 1 + 1
        omega
      · rw [spl_miss (pre_of_head [] l hd)]
        have := ih (acc ++ [d])
        simp only [List.length_cons]
        omega
  have := split_spl z g (by rw [e]; simp) (kind_ok (x := z) low)
  have h := congrArg List.length this
  rw [List.length_map, e] at h
  rw [h, len_tl]
  exact key _ _
/-! ### pairs -/
/-- the pair that a word tells -/
noncomputable def pO (g z : Str) : Option (Int × Int) := match numO (Txt.partition z g).1, numO (Txt.partition z g).2.2 with
  | some a, some b => some (a, b)
  | _, _ => none
theorem dig_free (G : Sg g s) {i : Int} (h : 0 ≤ i ∧ i ≤ 99) : s ∉ tl (dig i) := fun z => by
  have := (dig_ok h).1 s z
  have := G.is
  omega
theorem pO_wrd (G : Sg g s) {p : Int × Int} (h : sm12 p) : pO g (wrd g p) = some p := by
  unfold pO
  rw [show wrd g p = dig p.1 ++ g ++ dig p.2 from rfl, partition_app (y := g) (s := s) (S := []) G.one (dig_free G h.1)]
  show (match numO (dig p.1), numO (dig p.2) with | some a, some b => some (a, b) | _, _ => none) = _
  rw [numO_dig h.1, numO_dig h.2]
theorem cut_at (s : Nat) : ∀ l : List Nat, s ∉ l ∨ ∃ p r, l = p ++ s :: r ∧ s ∉ p
  | [] => .inl (by simp)
  | c :: l => by
    by_cases h : c = s
    · exact .inr ⟨[], l, by rw [h]; rfl, by simp⟩
    · rcases cut_at s l with h1 | ⟨p, r, e, h1⟩
      · exact .inl (by simp [Ne.symm h, h1])
      · exact .inr ⟨c :: p, r, by rw [e]; rfl, by simp [Ne.symm h, h1]⟩
theorem part_cases (G : Sg g s) (z : Str) : Txt.partition z g = (z, Str.empty, Str.empty) ∨ ∃ a b, z = a ++ g ++ b ∧ Txt.partition z g = (a, g, b) := by
  rcases cut_at s (tl z) with h | ⟨p, r, e, h⟩
  · exact .inl (partition_none (y := g) (s := s) (S := []) G.one h)
  · have ez : z = (⟨p.toArray⟩ : Str) ++ g ++ ⟨r.toArray⟩ := ext_tl (by
      rw [e, tl_append, tl_append, G.one, List.append_assoc]
      rfl)
    refine .inr ⟨_, _, ez, ?_⟩
    conv => lhs; rw [ez]
    exact partition_app (y := g) (s := s) (S := []) G.one (by rw [tl_mk]; exact h)
theorem pO_some (G : Sg g s) {z : Str} {p : Int × Int} : pO g z = some p ↔ sm12 p ∧ z = wrd g p := by
  constructor
  · intro h
    unfold pO at h
    rcases part_cases G z with e | ⟨a, b, e1, e⟩
    · rw [e] at h
      simp only [numO_empty] at h
      split at h
      · rename_i h2; cases h2
      · cases h
    · rw [e] at h
      simp only at h
      split at h
      · rename_i x y hx hy
        cases h
        obtain ⟨x1, x2⟩ := numO_some.mp hx
        obtain ⟨y1, y2⟩ := numO_some.mp hy
        exact ⟨⟨x1, y1⟩, by rw [e1, x2, y2]; rfl⟩
      · cases h
  · rintro ⟨h, rfl⟩
    exact pO_wrd G h
/-- cut at each sign, a word is a pair if it has two parts, both numbers -/
theorem split_two (G : Sg g s) {z a b : Str} (h : Txt.split z g = [a, b]) : pO g z = match numO a, numO b with | some x, some y => some (x, y) | _, _ => none := by
  have ez : z = a ++ g ++ b := by
    rw [← join_split (z := z) G.one G.low, h, join_eq]
    rfl
  have fa : s ∉ tl a := split_free (z := z) G.one G.low a (by rw [h]; simp)
  unfold pO
  rw [ez, partition_app (y := g) (s := s) (S := []) G.one fa]
theorem split_other (G : Sg g s) {z : Str} (h : (Txt.split z g).length ≠ 2) : pO g z = none := by
  cases e : pO g z with
  | none => rfl
  | some p =>
    obtain ⟨h1, h2⟩ := (pO_some G).mp e
    rw [h2, wrd_split G h1] at h
    exact absurd rfl h
end
end TL
namespace TL
open PySem PySem.Spec PyProof.Rows L2
/-! ### a text taken once or not at all; lists backward; the place of a value in a list -/
def rMulS : R2 := fun x y H Q => ∃ (z : Str) (n : Int), x = .str z ∧ y = .int n ∧ (n = 0 ∨ n = 1) ∧ Q (.str (if n = 1 then z else Str.empty)) H
theorem op_mulS {X : Cx} : OpR X (binaryOp .Mult) rMulS := by
  intro pins s σ H x y v u Q I rx ry h
  obtain ⟨z, n, rfl, rfl, hn, q⟩ := h
  obtain ⟨t, rfl⟩ := rx
  obtain ⟨t', rfl⟩ := ry
  rcases hn with rfl | rfl
  · exact P.mul_str_none (by decide) (by decide) ⟨.str Str.empty, H, I.tok _, ⟨_, rfl⟩, by rw [if_neg (by decide)] at q; exact q⟩
  · refine P.mul_str (by decide) (fun _ h => by simp at h) (fun _ h => by simp at h) ?_
    rw [if_neg (by decide), if_pos (by simp)]
    exact ⟨.str z, H, I, ⟨_, rfl⟩, by rw [if_pos rfl] at q; exact q⟩
section
variable {X : Cx}
theorem revLK (K : PySem.W.Frag) {e : Expr} {te : TE} {k : Nat} {p1 p2 p3 pos : Pos} (he : PE X e te) (h : X.K = K := by rfl) :
    PE X (.Subscript e (.Slice none none (some (.UnaryOp .USub (.Constant (.int 1) k p1) p2)) p3) pos) (tRevL K te) := h ▸ pe_revL he
theorem indexDK (K : PySem.W.Frag) (hu : X.A.units + 65 < cLine) (h : X.K = K := by rfl) : MtR X "list.index" (rIndexD K) := h ▸ mt_indexD hu
theorem room65 {k : Nat} {A : Around} (r : Room k A) : A.units + 65 < cLine := by have := r.un; omega
end
end TL
namespace TL
open PySem PySem.Spec PyProof.Rows L2
/-- a def of the text that may raise, by its name -/
structure OwnX (P : Program) (w : World) (K : PySem.W.Frag) (mg : Str → Option Value) (base : Heap)
    (x : Str) (k : Nat) (ps : List Str) (sp : Sp) : Prop where
  ex : ∃ (f : Addr) (fd : FuncData), FnOk P w K mg base (L2.CX P w) k f fd ps sp ∧ mg x = some (.ref f) ∧
    PySem.W.keepIn K (.ref f) = true ∧ Binds K fd ps []
section
variable {X : Cx} {k : Nat} {ps : List Str} {sp : Sp} {x : Str} {p pos : Pos} {e : Expr} {es : List Expr} {t : TA} {W : WX}
theorem pe_ownX (O : OwnX X.prog X.w X.K X.mg X.base x k ps sp) (hr : Room k X.A) (tk : Takes X W) (hg : Gl X x) (ha : PA X (e :: es) t)
    (hdb : (x == ("__debug__" : Str)) = false := by decide)
    (he : starEach (e :: es) X.env = (false, eval e X.env) :: starEach es X.env := by rfl)
    (hpl : (backTo pos (starEach es X.env)).any (·.1) = false := by rfl) :
    PE X (.Call (.Name x p) (e :: es) [] pos) (tCallS sp (WE W) t) := by
  obtain ⟨f, fd, F, hm, hk, hb⟩ := O.ex
  exact pe_callS F hr hg hm hk hb (fun σ => passAt tk σ) ha hdb he hpl
end
/-! ### an error class of the text with one field -/
/-- self.f = value -/
def spInit (C : Addr) (f : Str) : Sp := fun vs H Q _ => ∃ (a : Addr) (y : V), vs = [.ref a, y] ∧ H a = some (exo a C none) ∧
  ∀ dx, H dx = none → dx ≠ a → Q .non (upd (upd H dx (exd dx [(f, y)])) a (exo a C (some dx)))
/-- what is said of such a class -/
structure ErrC (P : Program) (w : World) (K : PySem.W.Frag) (mg : Str → Option Value) (base : Heap) (x f : Str) (C : Addr) : Prop where
  oex : OexC K C
  xf : XfC K C
  exc : ExcC K C
  cls : (PySem.W.clsIn K C).isSome = true
  nof : PySem.W.findIn K (.ref C) f = some none
  glo : mg x = some (.ref C)
  ini : ∃ (fI : Addr) (fd : FuncData) (ps : List Str), PySem.W.findIn K (.ref C) "__init__" = some (some (.ref fI)) ∧ PySem.W.typeIn K (.ref fI) = some (.type "function") ∧
    FnOk P w K mg base CX0 1 fI fd ps (spInit C f) ∧ Binds K fd ps []
section
variable {X : Cx} {x f : Str} {C : Addr} {e : Expr} {p pos pos' : Pos} {ta : TA} {W : WX}
/-- raise x(e) -/
theorem ps_err (T : ErrC X.prog X.w X.K X.mg X.base x f C) (hr : Room 2 X.A) (tk : Takes X W) (hg : Gl X x) (ha : PA X [e] ta) (hc : X.calm = true := by rfl)
    (hdb : (x == ("__debug__" : Str)) = false := by decide)
    (he : starEach [e] X.env = (false, eval e X.env) :: starEach [] X.env := by rfl)
    (hpl : (backTo pos (starEach [] X.env)).any (·.1) = false := by rfl) :
    PS X (.Raise (some (.Call (.Name x p) [e] [] pos)) none pos') (fun _ σ H => tMkO C (spInit C f) [] ta σ H fun cls d H' => W cls d σ H') := by
  obtain ⟨fI, fd, ps, iC, tI, F, hb⟩ := T.ini
  exact ps_raise hc tk (pmk_oex (dvs := []) (ds := []) T.oex iC tI F hr hb .nil pass0 hg T.glo ha hdb he hpl)
/-- the reading of it -/
theorem errI {y : V} {H1 : Hp} {Q : XK} (q : ∀ (H' : Hp) (d : Addr), Same H1 H' → H' d = some (.xd [(f, y)]) → Q (.ref C) (some d) H') :
    [y].length ≤ 1000 ∧ ∀ a, H1 a = none → spInit C f (.ref a :: ([y] ++ [])) (upd H1 a (exo a C none))
      (fun v H2 => v = .non ∧ ∃ (d : Addr) (fs : List (Str × V)), H2 a = some (exo a C (some d)) ∧ H2 d = some (exd d fs) ∧ H1 d = none ∧ Q (.ref C) (some d) (upd (del H2 a) d (.xd fs))) (fun _ _ _ => False) := by
  refine ⟨by show 1 ≤ 1000; decide, fun a na => ⟨a, y, rfl, upd_same, fun dx nd ne => ?_⟩⟩
  rw [upd_ne ne] at nd
  refine ⟨rfl, dx, [(f, y)], upd_same, (upd_ne ne).trans upd_same, nd, q _ _ (fun b o e => ?_) upd_same⟩
  have hb : b ≠ a := fun z => by rw [z, na] at e; cases e
  have hd : b ≠ dx := fun z => by rw [z, nd] at e; cases e
  rw [upd_ne hd, del_ne hb, upd_ne hb, upd_ne hd, upd_ne hb]
  exact e
end
/-! ### isinstance of the error that a suite holds -/
def rIsX (K : PySem.W.Frag) (cls : Value) (d : Option Addr) (D a : Addr) : List V → Hp → VK → Prop := fun xs H Q => ∃ (c : V) (b : Bool), xs = [.ref a, c] ∧ cls = .ref D ∧ (∃ (dd : Addr) (fs : List (Str × V)), d = some dd ∧ H dd = some (.xd fs)) ∧
  ((∃ cv, (∀ u, RelV c u → u = cv) ∧ PySem.W.kitOne K (.ref D) cv = some b) ∨ ∃ (tp : Addr) (cs : List Addr), c = .ref tp ∧ H tp = some (.tup (cs.map V.ref)) ∧ PySem.W.kitAny K (.ref D) (cs.map Value.ref) = some b) ∧ Q (.bl b) H
theorem vals_refs : ∀ {cs : List Addr} {its : List Value}, Vals (cs.map V.ref) its → its = cs.map Value.ref
  | [], _, h => by cases h; rfl
  | c :: cs, _, h => by
    cases h with
    | cons r1 r2 =>
      cases r1
      rw [vals_refs r2]
      rfl
theorem isX {X : Cx} {a D : Addr} {oe : Obj} {cls : Value} {d : Option Addr} {pn : List (Addr × Obj)} (C : ExcC X.K D) (hcl : (PySem.W.clsIn X.K D).isSome = true) (hz : Zc cls d oe) (hf : ∃ vs, oe.data = .fields vs) :
    CallR (X.suite a ((a, oe) :: pn)) (.builtin "isinstance") (rIsX X.K cls d D a) := by
  intro pins s σ H xs us Q I r h
  obtain ⟨c, b, rfl, ec, ⟨dd, fs, ed, ex⟩, hk, q⟩ := h
  subst ec ed
  cases r with
  | cons rx rr =>
    cases rr with
    | cons rt rr =>
      cases rr
      cases rx
      obtain ⟨hget, _⟩ := I.pin (a, oe) (List.mem_append.mpr (.inl List.mem_cons_self))
      obtain ⟨vs, hv⟩ := hf
      have hx : ObjOk X.prog X.w H s.heap dd (.xd fs) := I.hok dd _ ex
      obtain ⟨mA, hns, hr⟩ := hx
      obtain ⟨od, ho, hl⟩ := lookIn_ns hns
      have J : PySem.W.InstAt s.heap a oe D (some od) := ⟨hget, hz.1, by unfold PySem.W.notCls; rw [hv] <;> rfl, by rw [hz.2]; exact ho⟩
      have Z := PySem.W.kitx_exc (x := a) (ox := oe) (od := some od) hcl C.hg C.hk C.hs C.ha C.hn C.ht C.hm
      rcases hk with ⟨cv, hcv, e⟩ | ⟨tp, cs, e1, e2, e⟩
      · have ec := hcv _ rt
        subst ec
        exact PySem.W.kia_one Z I.kIn J e (fun z => nomatch z) fun tk => ⟨.bl b, H, I.kept (t' := tk) fun _ _ z => z, rfl, q⟩
      · subst e1
        cases rt
        obtain ⟨_, its, r, o, h1, h2, n, h3⟩ := (show ObjOk X.prog X.w H s.heap tp (.tup (cs.map V.ref)) from I.hok tp _ e2)
        have ei : its = cs.map Value.ref := vals_refs r
        subst ei
        obtain ⟨oc, od2, oda, osl⟩ := o
        dsimp only at h2 h3
        subst h2 h3
        exact PySem.W.kia_tup Z I.kIn J h1 e (fun z => nomatch z) fun tk => ⟨.bl b, H, I.kept (t' := tk) fun _ _ z => z, rfl, q⟩
/-! ### in short, within a suite -/
theorem isXK (K : PySem.W.Frag) {X : Cx} {P : Program} {w : World} {mg : Str → Option Value} {base : Heap} {x f : Str} {a D : Addr} {oe : Obj} {cls : Value} {d : Option Addr} {pn : List (Addr × Obj)} (T : ErrC P w K mg base x f D) (hz : Zc cls d oe) (hf : ∃ vs, oe.data = .fields vs) (h : X.K = K := by rfl) :
    CallR (X.suite a ((a, oe) :: pn)) (.builtin "isinstance") (rIsX K cls d D a) := by
  subst h
  exact isX T.exc T.cls hz hf
theorem xfK (K : PySem.W.Frag) {X : Cx} {P : Program} {w : World} {mg : Str → Option Value} {base : Heap} {x n : Str} {a C : Addr} {oe : Obj} {cls : Value} {d : Option Addr} {pn : List (Addr × Obj)} {e : Expr} {te : TE} {pos : Pos} (T : ErrC P w K mg base x n C)
    (hz : Zc cls d oe) (hf : ∃ vs, oe.data = .fields vs) (he : PE (X.suite a ((a, oe) :: pn)) e te) (h : X.K = K := by rfl) (hb : attributeBase e n X.env (eval e X.env) = eval e X.env := by rfl) :
    PE (X.suite a ((a, oe) :: pn)) (.Attribute e n pos) (tXf a cls d C n te) := by
  subst h
  exact pe_xf T.xf T.nof hz hf he hb
/-! ### what the written part says of classes -/
section
variable {K : PySem.W.Frag} {C D : Addr}
theorem cls_of (h : PySem.W.hasDictIn K C = true) : (PySem.W.clsIn K C).isSome = true := by
  obtain ⟨cd, hc, _⟩ := PySem.W.any_some h
  rw [hc]
  rfl
theorem kit_own {b : Bool} (hd : PySem.W.hasDictIn K D = true) (ht : PySem.W.typeIn K (.ref D) = some (.type "type")) (hs : PySem.W.subIn K (.ref C) (.ref D) = some b) (self : PySem.W.subIn K (.ref C) (.ref C) = some true) : PySem.W.kitOne K (.ref C) (.ref D) = some b := by
  unfold PySem.W.kitOne
  by_cases e : (Value.ref C == Value.ref D) = true
  · rw [if_pos e]
    have e2 := beq_iff_eq.mp e
    rw [← e2, self] at hs
    exact hs
  · rw [if_neg e]
    unfold PySem.W.kitCls
    have e2 : ((PySem.W.clsIn K D).isSome && PySem.W.typeIn K (.ref D) == some (.type "type")) = true := by
      rw [cls_of hd, ht]
      rfl
    show (if ((PySem.W.clsIn K D).isSome && PySem.W.typeIn K (.ref D) == some (.type "type")) = true then _ else _) = _
    rw [if_pos e2]
    exact hs
theorem kit_ve {T : String} (hm : PySem.W.kitMeta T = true) (hs : PySem.W.subIn K (.ref C) (.type T) = some true) : PySem.W.kitOne K (.ref C) (.type T) = some true := by
  unfold PySem.W.kitOne
  rw [if_neg (by intro z; cases beq_iff_eq.mp z)]
  unfold PySem.W.kitCls
  show (if PySem.W.kitMeta T = true then _ else _) = _
  rw [if_pos hm]
  exact hs
theorem exm_own {b : Bool} (h1 : PySem.W.subIn K (.ref D) (.type "BaseException") = some true) (hd : PySem.W.hasDictIn K D = true) (ht : PySem.W.typeIn K (.ref D) = some (.type "type")) (h4 : PySem.W.subIn K (.ref C) (.ref D) = some b) : PySem.W.exmOne K (.ref C) (.ref D) = some b := PySem.W.exm_ref h1 hd ht h4
theorem kitAny_no : ∀ {cs : List Addr}, (∀ c ∈ cs, PySem.W.kitOne K (.ref C) (.ref c) = some false) → PySem.W.kitAny K (.ref C) (cs.map Value.ref) = some false
  | [], _ => rfl
  | c :: cs, h => by
    show (match PySem.W.kitOne K (.ref C) (.ref c) with | some true => some true | some false => PySem.W.kitAny K (.ref C) (cs.map Value.ref) | none => none) = _
    rw [h c List.mem_cons_self]
    exact kitAny_no fun c hc => h c (List.mem_cons_of_mem _ hc)
end
/-- the own __init__ of such a class -/
structure IniC (K : PySem.W.Frag) (C : Addr) (f : Str) : Prop where
  oex : OexC K C
  nof : PySem.W.findIn K (.ref C) f = some none
end TL
namespace TL
open PySem PySem.Spec PyProof.Rows L2
/-! ### data with dicts in it -/
def kD : Key → PyData
  | .inl i => .int i
  | .inr x => .str x
mutual
inductive Dq (K : PySem.W.Frag) (H : Hp) : V → PyData → Prop
  | non : Dq K H .non .none
  | bl (b : Bool) : Dq K H (.bl b) (.bool b)
  | int (i : Int) : Dq K H (.int i) (.int i)
  | str (x : Str) : Dq K H (.str x) (.str x)
  | lst {a : Addr} {xs : List V} {ds : List PyData} : a ≠ sysModules → H a = some (.lst xs) → DqAll K H xs ds → Dq K H (.ref a) (.list ds)
  | tup {a : Addr} {xs : List V} {ds : List PyData} : SqT K H a xs → DqAll K H xs ds → Dq K H (.ref a) (.tuple ds)
  | dct {a : Addr} {kvs : List (Key × V)} {ps : List (PyData × PyData)} : H a = some (.dK kvs) → ps.map (·.1) = kvs.map (fun p => kD p.1) → DqAll K H (kvs.map (·.2)) (ps.map (·.2)) → Dq K H (.ref a) (.dict ps)
inductive DqAll (K : PySem.W.Frag) (H : Hp) : List V → List PyData → Prop
  | nil : DqAll K H [] []
  | cons {v : V} {vs : List V} {d : PyData} {ds : List PyData} : Dq K H v d → DqAll K H vs ds → DqAll K H (v :: vs) (d :: ds)
end
section
variable {X : Cx} {pins : List (Addr × Obj)} {σ : L2.St} {H : Hp} {s : Shared}
theorem keys_reads : ∀ {es : List DictEntry} {vs : List (Key × Value)} {kvs : List (Key × V)}, Pairs (mixKind X.prog X.w) es vs → KV kvs vs → ReadsAll s.heap (es.map (·.key)) (kvs.map fun p => kD p.1) [] ∧ Vals (kvs.map (·.2)) (es.map (·.val))
  | _, _, _, .nil, .nil => ⟨.nil, .nil⟩
  | e :: es, _, p :: kvs, .cons h1 h2 t, .cons r q => by
    obtain ⟨a, b⟩ := keys_reads t q
    refine ⟨?_, .cons ?_ b⟩
    · obtain ⟨k, v⟩ := p
      have h1 : keyIs _ e.key = true := h1
      rw [← r.1] at h1
      show ReadsAll s.heap (e.key :: es.map (·.key)) (kD k :: kvs.map fun p => kD p.1) []
      rcases keyIs_shape h1 with ⟨i, t, hk, hv⟩ | ⟨x, t, hk, hv⟩
      · have hk : k = .inl i := hk
        rw [hk, hv]
        exact .cons (as := []) (bs := []) (.int i t) a
      · have hk : k = .inr x := hk
        rw [hk, hv]
        exact .cons (as := []) (bs := []) (.str x t) a
    · show RelV p.2 e.val
      rw [h2]
      exact r.2
mutual
theorem Dq.reads (I : Inv X pins σ H s) : ∀ {v : V} {d : PyData} {u : Value}, Dq X.K H v d → RelV v u → ∃ as, Reads s.heap u d as ∧ sysModules ∉ as
  | _, _, _, .non, r => by cases r; exact ⟨_, Reads.none, by simp⟩
  | _, _, _, .bl b, r => by cases r; exact ⟨_, Reads.bool b, by simp⟩
  | _, _, _, .int i, r => by obtain ⟨t, rfl⟩ := r; exact ⟨_, Reads.int i t, by simp⟩
  | _, _, _, .str x, r => by obtain ⟨t, rfl⟩ := r; exact ⟨_, Reads.str x t, by simp⟩
  | _, _, _, .lst hs e ha, r => by
    cases r
    obtain ⟨its, rv, ⟨o, n, ho, hc, _, hd⟩, _⟩ := I.list (SqL.of e)
    obtain ⟨as, hr, hn⟩ := Dq.readsAll I ha rv
    refine ⟨_, Reads.list ho hc hd hr, fun z => ?_⟩
    rcases List.mem_cons.mp z with z | z
    · exact hs z.symm
    · exact hn z
  | _, _, _, .tup e ha, r => by
    cases r
    obtain ⟨its, rv, ⟨o, ho, hc, n, hd⟩, _⟩ := I.tuple e
    obtain ⟨as, hr, hn⟩ := Dq.readsAll I ha rv
    exact ⟨_, Reads.tuple ho hc hd hr, hn⟩
  | _, _, _, .dct e ek ha, r => by
    cases r
    obtain ⟨_, hsm, vs, rel, o, es, ep, ho, hx, hd, _, hp, _⟩ := dk_of I.hok e
    obtain ⟨rk, rv⟩ := keys_reads (s := s) hp rel
    obtain ⟨bs, hr, hn⟩ := Dq.readsAll I ha rv
    rw [← ek] at rk
    refine ⟨_, Reads.dict ho hx.1 hd rk hr, fun z => ?_⟩
    rcases List.mem_cons.mp z with z | z
    · rw [← z] at hsm
      cases hsm
    · exact hn z
theorem Dq.readsAll (I : Inv X pins σ H s) : ∀ {vs : List V} {ds : List PyData} {us : List Value}, DqAll X.K H vs ds → Vals vs us → ∃ as, ReadsAll s.heap us ds as ∧ sysModules ∉ as
  | _, _, _, .nil, r => by cases r; exact ⟨_, ReadsAll.nil, by simp⟩
  | _, _, _, .cons h1 h2, r => by
    cases r with
    | cons r1 r2 =>
      obtain ⟨as, q1, n1⟩ := Dq.reads I h1 r1
      obtain ⟨bs, q2, n2⟩ := Dq.readsAll I h2 r2
      exact ⟨_, ReadsAll.cons q1 q2, fun z => (List.mem_append.mp z).elim n1 n2⟩
end
end
structure ShowsQ (d : PyData) : Prop where
  can : d.showable = true
  deep : d.depth ≤ 60
  fits : d.shown.length ≤ sizeLine
def rReprQ (K : PySem.W.Frag) : List V → Hp → VK → Prop := fun xs H Q =>
  ∃ (y : V) (d : PyData), xs = [y] ∧ Dq K H y d ∧ ShowsQ d ∧ Q (.str d.shown) H
section
variable {X : Cx}
theorem call_reprQ (gd : X.A.guards = some []) (hu : X.A.units + 64 < cLine) :
    CallR X (.builtin "repr") (rReprQ X.K) := by
  intro pins s σ H xs us Q I r h
  obtain ⟨y, d, rfl, hd, sh, q⟩ := h
  cases r with
  | cons r1 r2 =>
    rename_i u us'
    cases r2
    obtain ⟨as, rd, hn⟩ := Dq.reads I hd r1
    have big : ∀ a, u = Value.ref a → wpAny (model X.prog X.w) X.A (call (.builtin "repr") [u]) (EP X pins σ Q) X.xe s := by
      intro a e
      subst e
      exact repr_of_reads' rd sh.can (fun z => hn) gd (by have := sh.deep; omega) (fun _ _ e => e) (fun h' u tk hk => ⟨.str d.shown, H, I.kept (t' := tk) hk, ⟨u, rfl⟩, q⟩) sh.fits
    cases hd with
    | non =>
      obtain rfl : u = Value.none := r1
      rw [PyData.shown_none] at q
      exact PySem.P.repr_of_none ⟨.str _, H, I.tok _, ⟨_, rfl⟩, q⟩
    | bl b =>
      obtain rfl : u = Value.bool b := r1
      rw [PyData.shown_bool] at q
      exact PySem.P.repr_of_bool ⟨.str _, H, I.tok _, ⟨_, rfl⟩, q⟩
    | int i =>
      obtain ⟨t, rfl⟩ := r1
      rw [PyData.shown_int] at q
      exact PySem.P.repr_of_int (by have := sh.can; simpa [PyData.showable] using this) ⟨.str _, H, I.tok _, ⟨_, rfl⟩, q⟩
    | str x =>
      obtain ⟨t, rfl⟩ := r1
      have z := sh.fits
      rw [PyData.shown_str] at q z
      exact PySem.P.repr_of_str ⟨.str _, H, I.tok _, ⟨_, rfl⟩, q⟩ z
    | lst hs he ha => exact big _ r1
    | tup hs ha => exact big _ r1
    | dct hs ek ha => exact big _ r1
end
/-! ### repr of either kind of data -/
def rReprO (K : PySem.W.Frag) : List V → Hp → VK → Prop := fun xs H Q =>
  ∃ (y : V) (d : PyData), xs = [y] ∧ ((Dp K H y d ∧ Shows d) ∨ (Dq K H y d ∧ ShowsQ d)) ∧ Q (.str d.shown) H
theorem reprO (K : PySem.W.Frag) {X : Cx} (gd : X.A.guards = some []) (hu : X.A.units + 64 < cLine) (h : X.K = K := by rfl) : CallR X (.builtin "repr") (rReprO K) := by
  subst h
  intro pins s σ H xs us Q I r h
  obtain ⟨y, d, ex, h | h, q⟩ := h
  · exact call_reprD gd hu pins s σ H xs us Q I r ⟨y, d, ex, h.1, h.2, q⟩
  · exact call_reprQ gd hu pins s σ H xs us Q I r ⟨y, d, ex, h.1, h.2, q⟩
/-! ### a held error of any class -/
def rIsA (K : PySem.W.Frag) (cls : Value) (d : Option Addr) (a : Addr) : List V → Hp → VK → Prop := fun xs H Q =>
  ∃ D : Addr, ExcC K D ∧ (PySem.W.clsIn K D).isSome = true ∧ rIsX K cls d D a xs H Q
theorem isAK (K : PySem.W.Frag) {X : Cx} {a : Addr} {oe : Obj} {cls : Value} {d : Option Addr} {pn : List (Addr × Obj)} (hz : Zc cls d oe) (hf : ∃ vs, oe.data = .fields vs) (h : X.K = K := by rfl) :
    CallR (X.suite a ((a, oe) :: pn)) (.builtin "isinstance") (rIsA K cls d a) := by
  subst h
  intro pins s σ H xs us Q I r h
  obtain ⟨D, hc, hcl, h⟩ := h
  exact isX hc hcl hz hf pins s σ H xs us Q I r h
def tXfA (K : PySem.W.Frag) (a : Addr) (cls : Value) (d : Option Addr) (n : Str) (te : TE) : TE := fun σ H Q =>
  ∃ C : Addr, XfC K C ∧ PySem.W.findIn K (.ref C) n = some none ∧ tXf a cls d C n te σ H Q
theorem xfA (K : PySem.W.Frag) {X : Cx} {n : Str} {a : Addr} {oe : Obj} {cls : Value} {d : Option Addr} {pn : List (Addr × Obj)} {e : Expr} {te : TE} {pos : Pos}
    (hz : Zc cls d oe) (hf : ∃ vs, oe.data = .fields vs) (he : PE (X.suite a ((a, oe) :: pn)) e te) (h : X.K = K := by rfl) (hb : attributeBase e n X.env (eval e X.env) = eval e X.env := by rfl) :
    PE (X.suite a ((a, oe) :: pn)) (.Attribute e n pos) (tXfA K a cls d n te) := by
  subst h
  refine ⟨fun pins s σ H Q I h => ?_⟩
  obtain ⟨C, T, hno, h⟩ := h
  exact (pe_xf T hno hz hf he hb).run pins s σ H Q I h
/-! ### count of bools -/
def eqb (k : Bool) (v : Value) : Bool := match v with
  | .bool n => n == k
  | _ => false
theorem bools_of : ∀ {bs : List Bool} {us : List Value}, Vals (bs.map V.bl) us → us = bs.map Value.bool
  | [], _, h => by cases h; rfl
  | b :: bs, _, h => by
    cases h with
    | cons r1 r2 =>
      cases r1
      rw [bools_of r2]
      rfl
theorem eqb_count (k : Bool) : ∀ bs : List Bool, (bs.map Value.bool).countP (eqb k) = bs.count k
  | [] => rfl
  | b :: bs => by
    rw [List.map_cons, List.countP_cons, List.count_cons, eqb_count k bs]
    rfl
def rCntB (K : PySem.W.Frag) : V → List V → Hp → VK → Prop := fun x xs H Q => ∃ (p : Addr) (bs : List Bool) (k : Bool), x = .ref p ∧ xs = [.bl k] ∧ SqL K H p (bs.map V.bl) ∧ Q (.int (bs.count k : Nat)) H
theorem mt_lcountB {X : Cx} (hu : X.A.units + 64 < cLine) : MtR X "list.count" (rCntB X.K) := by
  intro pins s σ H x xs v us Q I rx rxs h
  obtain ⟨p, bs, k, rfl, rfl, hs, q⟩ := h
  cases rx
  obtain ⟨u, rfl, ru⟩ := rxs.one
  cases ru
  obtain ⟨its, rv, ⟨⟨cls, dd, data, sl⟩, n, ho, hc, hdn, hd⟩, hlen⟩ := I.list hs
  simp only at hc hd
  subst hc hd
  have hi := bools_of rv
  subst hi
  refine call_meets PySem.F.slot_list_count ⟨_, ho, rfl⟩ PySem.F.entry_list_count (PySem.F.args_list_count_2 _ _)
    (SeqAt.list_countAt p _ n dd sl (.bool k) (eqb k)) ⟨ho, fun y hy => ?_, ?_⟩
  · obtain ⟨b, hb, rfl⟩ := List.mem_map.mp (List.mem_toArray.mp hy)
    have h := SeqAt.eqAt_reads (.bool b) (.bool k) X.A.in1 s _ _ _ _ (Reads.bool b) (Reads.bool k) rfl rfl (by
      show X.A.units + 1 + min (PyData.depth (.bool b)) (PyData.depth (.bool k)) < cLine
      simp only [PyData.depth]
      omega)
    have e : PyData.eqv (.bool b) (.bool k) = eqb k (.bool b) := by
      cases b <;> cases k <;> simp [PyData.eqv, eqb]
    rw [← e]
    exact h
  have ec : ((bs.map Value.bool).toArray).toList.countP (eqb k) = bs.count k := eqb_count k bs
  refine ⟨.int (bs.count k : Nat), H, I.tok _, ⟨s.toks, ?_⟩, q⟩
  show Value.int ((((bs.map Value.bool).toArray).toList.countP (eqb k) : Nat) : Int) s.toks = Value.int ((bs.count k : Nat) : Int) s.toks
  rw [ec]
end TL
namespace TL
open PySem PySem.Spec PyProof.Rows L2
/-- [..]: the new list does not stand where sys.modules stands -/
def tLstS (t : TA) : TE := fun σ H Q => t σ H fun xs H1 => xs.length ≤ sizeLine ∧ ∀ p, H1 p = none → p ≠ sysModules → Q (.ref p) (upd H1 p (.lst xs))
theorem pe_lstS {X : Cx} {es : List Expr} {t : TA} {pos : Pos} (h : PA X es t) : PE X (.List es pos) (tLstS t) := by
  refine ⟨fun pins s σ H Q I hq => ?_⟩
  refine wpAny_List_spliced (thn (h.run pos pins s σ H _ I hq) fun us s1 ⟨xs, H1, I1, r, z, q⟩ => ⟨by rw [← r.length]; exact z, ?_⟩)
  have hf : H1 s1.heap.objs.size = none := I1.hok.fresh (Nat.le_refl _)
  refine ⟨.ref s1.heap.objs.size, upd H1 s1.heap.objs.size (.lst xs), I1.laid (t' := s1.toks) (fun b u e => Heap.get?_push_of_some _ e) (Nat.le_refl _) ?_, rfl, q _ hf (Nat.ne_of_gt I1.big)⟩
  exact ⟨z, us, 0, r, Heap.get?_push_size _ rfl⟩
end TL
namespace TL
open PySem PySem.Spec PyProof.Rows L2
/-! ### data whose leaves have up to forty signs -/
mutual
theorem lv_mono {B C : Nat} (h : B ≤ C) : ∀ d : PyData, d.leavesShort B = true → d.leavesShort C = true
  | .none, _ => by simp [PyData.leavesShort]
  | .bool _, _ => by simp [PyData.leavesShort]
  | .int i, q => by
    simp only [PyData.leavesShort] at q ⊢
    exact decide_eq_true (Nat.le_trans (of_decide_eq_true q) h)
  | .str x, q => by
    simp only [PyData.leavesShort] at q ⊢
    exact q
  | .list xs, q => by
    simp only [PyData.leavesShort] at q ⊢
    exact lv_monoAll h xs q
  | .tuple xs, q => by
    simp only [PyData.leavesShort] at q ⊢
    exact lv_monoAll h xs q
  | .dict kvs, q => by
    simp only [PyData.leavesShort] at q ⊢
    exact lv_monoKv h kvs q
theorem lv_monoAll {B C : Nat} (h : B ≤ C) : ∀ ds : List PyData, PyData.leavesShortAll B ds = true → PyData.leavesShortAll C ds = true
  | [], _ => rfl
  | d :: ds, q => by
    simp only [PyData.leavesShortAll, Bool.and_eq_true] at q ⊢
    exact ⟨lv_mono h d q.1, lv_monoAll h ds q.2⟩
theorem lv_monoKv {B C : Nat} (h : B ≤ C) : ∀ ds : List (PyData × PyData), PyData.leavesShortKv B ds = true → PyData.leavesShortKv C ds = true
  | [], _ => rfl
  | (k, v) :: ds, q => by
    simp only [PyData.leavesShortKv, Bool.and_eq_true] at q ⊢
    exact ⟨⟨lv_mono h k q.1.1, lv_mono h v q.1.2⟩, lv_monoKv h ds q.2⟩
end
structure Sw (d : PyData) (n k : Nat) : Prop where
  can : d.showable = true
  deep : d.depth ≤ k
  short : d.leavesShort 40 = true
  light : d.weight ≤ n
theorem Sm.sw {d : PyData} {n k : Nat} (h : Sm d n k) : Sw d n k := ⟨h.can, h.deep, lv_mono (by decide) d h.short, h.light⟩
theorem Sw.le {d : PyData} {n k m j : Nat} (h : Sw d n k) (hn : n ≤ m) (hk : k ≤ j) : Sw d m j := ⟨h.can, Nat.le_trans h.deep hk, h.short, Nat.le_trans h.light hn⟩
theorem Sw.fits {d : PyData} {n k : Nat} (h : Sw d n k) (hn : n ≤ 100000) : d.shown.length ≤ sizeLine := by
  have h1 := PyData.shown_le 40 (by decide) d h.short
  have h2 : (40 + 2) * d.weight ≤ 42 * 100000 := Nat.mul_le_mul (by decide) (Nat.le_trans h.light hn)
  exact Nat.le_trans h1 (Nat.le_trans (Nat.add_le_add_right h2 40) (by decide))
theorem Sw.showsQ {d : PyData} {n k : Nat} (h : Sw d n k) (hn : n ≤ 100000) (hk : k ≤ 60) : ShowsQ d := ⟨h.can, Nat.le_trans h.deep hk, h.fits hn⟩
theorem Sw.shows {d : PyData} {n k : Nat} (h : Sw d n k) (nod : d.hasDict = false) (hn : n ≤ 100000) (hk : k ≤ 60) : Shows d := ⟨h.can, nod, Nat.le_trans h.deep hk, h.fits hn⟩
structure SwA (ds : List PyData) (n k : Nat) : Prop where
  can : PyData.showableAll ds = true
  deep : PyData.depthAll ds ≤ k
  short : PyData.leavesShortAll 40 ds = true
  light : PyData.weightAll ds ≤ ds.length * (n + 1)
theorem SwA.of {n k : Nat} : ∀ {ds : List PyData}, (∀ d ∈ ds, Sw d n k) → SwA ds n k
  | [], _ => ⟨rfl, by simp [PyData.depthAll], rfl, by simp [PyData.weightAll]⟩
  | d :: ds, h => by
    have h1 := h d List.mem_cons_self
    have h2 := SwA.of (n := n) (k := k) fun e he => h e (List.mem_cons_of_mem _ he)
    refine ⟨?_, ?_, ?_, ?_⟩
    · simp only [PyData.showableAll, h1.can, h2.can, Bool.and_self]
    · simp only [PyData.depthAll]
      exact Nat.max_le.mpr ⟨h1.deep, h2.deep⟩
    · simp only [PyData.leavesShortAll, h1.short, h2.short, Bool.and_self]
    · have a := h1.light
      have b := h2.light
      simp only [PyData.weightAll, List.length_cons, Nat.add_mul, Nat.one_mul]
      omega
theorem Sw.tup {n k m : Nat} {ds : List PyData} (h : ∀ d ∈ ds, Sw d n k) (hm : ds.length ≤ m) : Sw (.tuple ds) (m * (n + 1)) (k + 1) := by
  have q := SwA.of h
  have z : ds.length * (n + 1) ≤ m * (n + 1) := Nat.mul_le_mul_right _ hm
  refine ⟨?_, ?_, ?_, ?_⟩
  · simp only [PyData.showable]; exact q.can
  · simp only [PyData.depth]; have := q.deep; omega
  · simp only [PyData.leavesShort]; exact q.short
  · simp only [PyData.weight]; exact Nat.le_trans q.light z
theorem Sw.lst {n k m : Nat} {ds : List PyData} (h : ∀ d ∈ ds, Sw d n k) (hm : ds.length ≤ m) : Sw (.list ds) (m * (n + 1)) (k + 1) := by
  have q := SwA.of h
  have z : ds.length * (n + 1) ≤ m * (n + 1) := Nat.mul_le_mul_right _ hm
  refine ⟨?_, ?_, ?_, ?_⟩
  · simp only [PyData.showable]; exact q.can
  · simp only [PyData.depth]; have := q.deep; omega
  · simp only [PyData.leavesShort]; exact q.short
  · simp only [PyData.weight]; exact Nat.le_trans q.light z
theorem sw_big {i : Int} (h : i.natAbs ≤ 10 ^ 29) : Sw (.int i) 200 0 := by
  have h2 : i.natAbs < 10 ^ 30 := Nat.lt_of_le_of_lt h (by decide)
  have e := PySem.int_text_length_le10 (k := 30) (by decide) h2
  have lg : i.natAbs.log2 < 110 := PySem.Flt.log2_lt_of (by decide) (Nat.lt_of_lt_of_le h2 (by decide))
  refine ⟨?_, by simp [PyData.depth], ?_, ?_⟩
  · simp only [PyData.showable]
    exact decide_eq_true (by omega)
  · simp only [PyData.leavesShort]
    refine decide_eq_true ?_
    show (Str.ofString (toString i)).length ≤ 40
    rw [PySem.ofString_length]
    exact Nat.le_trans e (by decide)
  · simp only [PyData.weight]
    split <;> omega
/-! ### data without lists and dicts has no dict -/
mutual
theorem nod_of_only : ∀ d : PyData, only d = true → d.hasDict = false
  | .none, _ => by simp [PyData.hasDict]
  | .bool _, _ => by simp [PyData.hasDict]
  | .int i, q => by simp [PyData.hasDict]
  | .str x, q => by simp [PyData.hasDict]
  | .list xs, q => by simp [only] at q
  | .tuple xs, q => by
    simp only [only] at q
    simp only [PyData.hasDict]
    exact nod_of_onlyAll xs q
  | .dict kvs, q => by simp [only] at q
theorem nod_of_onlyAll : ∀ ds : List PyData, onlyAll ds = true → PyData.hasDictAll ds = false
  | [], _ => rfl
  | d :: ds, q => by
    simp only [onlyAll, Bool.and_eq_true] at q
    simp only [PyData.hasDictAll, nod_of_only d q.1, nod_of_onlyAll ds q.2, Bool.or_self]
end
mutual
theorem Dp.toq {K : PySem.W.Frag} {H : Hp} : ∀ {v : V} {d : PyData}, Dp K H v d → only d = true → Dq K H v d
  | _, _, .non, _ => .non
  | _, _, .bl b, _ => .bl b
  | _, _, .int i, _ => .int i
  | _, _, .str x, _ => .str x
  | _, _, .lst h a, o => by simp [only] at o
  | _, _, .tup h a, o => .tup h (Dp.toqAll a (by simpa [only] using o))
theorem Dp.toqAll {K : PySem.W.Frag} {H : Hp} : ∀ {vs : List V} {ds : List PyData}, DpAll K H vs ds → onlyAll ds = true → DqAll K H vs ds
  | _, _, .nil, _ => .nil
  | _, _, .cons h a, o => by
    simp only [onlyAll, Bool.and_eq_true] at o
    exact .cons (Dp.toq h o.1) (Dp.toqAll a o.2)
end
end TL
namespace TL
open PySem PySem.Spec PyProof.Rows L2
/-! ### t >= u of two pairs of ints -/
def rGeP (K : PySem.W.Frag) : R2 := fun x y H Q => ∃ (a b : Addr) (p q : Int × Int), x = .ref a ∧ y = .ref b ∧ SqT K H a [V.int p.1, V.int p.2] ∧ SqT K H b [V.int q.1, V.int q.2] ∧ Q (.bl (decide (q.1 < p.1 ∨ (q.1 = p.1 ∧ q.2 ≤ p.2)))) H
theorem beqd (a b : Int) : (a == b) = decide (a = b) := by
  by_cases h : a = b
  · rw [decide_eq_true h]; exact beq_iff_eq.mpr h
  · rw [decide_eq_false h]; exact beq_eq_false_iff_ne.mpr h
theorem gePK (K : PySem.W.Frag) {X : Cx} (hu : X.A.units + 64 < cLine) (h : X.K = K := by rfl) : OpR X (compareOp .GtE) (rGeP K) := by
  subst h
  have room : X.A.units < cLine := by omega
  intro pins s σ H x y v u Q I rx ry ⟨a, b, p, q, ex, ey, ta, tb, g⟩
  subst ex
  subst ey
  cases rx
  cases ry
  obtain ⟨its, r1, p1, _⟩ := I.tuple ta
  obtain ⟨its2, r2, p2, _⟩ := I.tuple tb
  cases r1 with
  | cons h1 r1 => cases r1 with
  | cons h2 r1 =>
  cases r1
  cases r2 with
  | cons h3 r2 => cases r2 with
  | cons h4 r2 =>
  cases r2
  obtain ⟨t1, rfl⟩ := h1
  obtain ⟨t2, rfl⟩ := h2
  obtain ⟨t3, rfl⟩ := h3
  obtain ⟨t4, rfl⟩ := h4
  have R := Ob.RcOp.tuples_ge (A := X.A) (s := s) (e := fun j => if j = 0 then (p.1 == q.1) else (p.2 == q.2)) (r := fun j => if j = 0 then decide (q.1 ≤ p.1) else decide (q.2 ≤ p.2)) p1 p2 room (fun j j1 j2 => by
    match j, j1, j2 with
    | 0, _, _ => exact SeqAt.EqAt.int_int _ _ _ _
    | 1, _, _ => exact SeqAt.EqAt.int_int _ _ _ _) (fun j j1 j2 _ => by
    match j, j1, j2 with
    | 0, _, _ => exact Ob.RcOp.ge_int _ _ _ _
    | 1, _, _ => exact Ob.RcOp.ge_int _ _ _ _)
  refine R X.prog X.w X.xe (EP X pins σ Q) ⟨.bl _, H, I, ?_, g⟩
  show Value.bool _ = Value.bool _
  congr 1
  show (if (p.1 == q.1) = true then (if (p.2 == q.2) = true then _ else decide (q.2 ≤ p.2)) else decide (q.1 ≤ p.1)) = _
  rw [beqd, beqd]
  by_cases c1 : p.1 = q.1
  · rw [decide_eq_true c1, if_pos rfl]
    by_cases c2 : p.2 = q.2
    · rw [decide_eq_true c2, if_pos rfl]
      show true = _
      rw [decide_eq_true (by omega)]
    · rw [decide_eq_false c2, if_neg Bool.false_ne_true]
      exact decide_eq_decide.mpr (by omega)
  · rw [decide_eq_false c1, if_neg Bool.false_ne_true]
    exact decide_eq_decide.mpr (by omega)
theorem le2TK (K : PySem.W.Frag) {X : Cx} (hu : X.A.units + 64 < cLine) (h : X.K = K := by rfl) : OpR X (compareOp .LtE) (rLeT K) := h ▸ op_leT (by omega)
end TL
namespace TL
open PySem PySem.Spec PyProof.Rows L2
/-! ### what is read from words -/
/-- the first word that tells no pair -/
def FirstBad (g : Str) (ws : List Str) (i : Nat) : Prop := (∃ w, ws[i]? = some w ∧ pO g w = none) ∧ ∀ j w, j < i → ws[j]? = some w → ∃ p, pO g w = some p
def AllGood (g : Str) (ws : List Str) (ps : List (Int × Int)) : Prop := ws.map (pO g) = ps.map some
theorem FirstBad.succ {g w : Str} {ws : List Str} {i : Nat} {p : Int × Int} (hw : pO g w = some p) (h : FirstBad g ws i) : FirstBad g (w :: ws) (i + 1) := by
  refine ⟨h.1, fun j v hj e => ?_⟩
  cases j with
  | zero =>
    rw [List.getElem?_cons_zero] at e
    cases e
    exact ⟨p, hw⟩
  | succ j => exact h.2 j v (by omega) e
theorem good_or_bad (g : Str) : ∀ ws : List Str, (∃ ps, AllGood g ws ps) ∨ ∃ i, FirstBad g ws i
  | [] => .inl ⟨[], rfl⟩
  | w :: ws => by
    cases e : pO g w with
    | none => exact .inr ⟨0, ⟨w, rfl, e⟩, fun j _ hj => absurd hj (by omega)⟩
    | some p =>
      rcases good_or_bad g ws with ⟨ps, h⟩ | ⟨i, h⟩
      · exact .inl ⟨p :: ps, by unfold AllGood at h ⊢; rw [List.map_cons, List.map_cons, e, h]⟩
      · exact .inr ⟨i + 1, h.succ e⟩
theorem AllGood.uniq {g : Str} {ws : List Str} {ps qs : List (Int × Int)} (h : AllGood g ws ps) (k : AllGood g ws qs) : ps = qs := by
  have e : ps.map some = qs.map some := h.symm.trans k
  exact List.map_inj_right (fun _ _ => Option.some.inj) |>.mp e
theorem AllGood.no {g : Str} {ws : List Str} {ps : List (Int × Int)} {i : Nat} (h : AllGood g ws ps) (k : FirstBad g ws i) : False := by
  obtain ⟨⟨w, hw, e⟩, _⟩ := k
  have := congrArg (fun l => l[i]?) h
  simp only [List.getElem?_map, hw, Option.map_some, e] at this
  cases hp : ps[i]? with
  | none => rw [hp] at this; cases this
  | some p => rw [hp] at this; cases this
theorem FirstBad.uniq {g : Str} {ws : List Str} {i j : Nat} (h : FirstBad g ws i) (k : FirstBad g ws j) : i = j := by
  obtain ⟨⟨w, hw, e⟩, a⟩ := h
  obtain ⟨⟨v, hv, f⟩, b⟩ := k
  rcases Nat.lt_trichotomy i j with h | h | h
  · obtain ⟨p, hp⟩ := b i w h hw
    rw [e] at hp
    cases hp
  · exact h
  · obtain ⟨p, hp⟩ := a j v h hv
    rw [f] at hp
    cases hp
theorem AllGood.len {g : Str} {ws : List Str} {ps : List (Int × Int)} (h : AllGood g ws ps) : ps.length = ws.length := by
  have := congrArg List.length h
  rw [List.length_map, List.length_map] at this
  exact this.symm
theorem AllGood.get {g : Str} {ws : List Str} {ps : List (Int × Int)} (h : AllGood g ws ps) {i : Nat} {w : Str} (hw : ws[i]? = some w) : ∃ p, ps[i]? = some p ∧ pO g w = some p := by
  have := congrArg (fun l => l[i]?) h
  simp only [List.getElem?_map, hw, Option.map_some] at this
  cases hp : ps[i]? with
  | none => rw [hp] at this; cases this
  | some p => rw [hp] at this; exact ⟨p, rfl, Option.some.inj this⟩
/-- a pair or None -/
def opD : Option (Int × Int) → PyData
  | some p => prD p
  | none => .none
theorem only_op (o : Option (Int × Int)) : only (opD o) = true := by
  cases o with
  | none => simp [only, opD]
  | some p => exact only_pr p
theorem eqv_strs : ∀ (ws vs : List Str), PyData.eqv (.list (ws.map .str)) (.list (vs.map .str)) = decide (ws = vs) := by
  have key : ∀ ws vs : List Str, PyData.eqvAll (ws.map .str) (vs.map .str) = decide (ws = vs) := by
    intro ws
    induction ws with
    | nil => intro vs; cases vs <;> simp [PyData.eqvAll]
    | cons w ws ih =>
      intro vs
      cases vs with
      | nil => simp [PyData.eqvAll]
      | cons v vs =>
        rw [List.map_cons, List.map_cons]
        simp only [PyData.eqvAll, ih]
        by_cases h1 : w = v
        · by_cases h2 : ws = vs
          · subst h1 h2; simp [PyData.eqv]
          · simp [h1, h2]
        · simp [PyData.eqv, h1]
  intro ws vs
  simp only [PyData.eqv, key]
theorem eqv_op_none (o : Option (Int × Int)) : PyData.eqv (opD o) .none = o.isNone := by
  cases o with
  | none => simp [opD, PyData.eqv]
  | some p => simp [opD, prD, PyData.eqv]
/-- a text of plain signs -/
def Pl (z : Str) : Prop := ∀ c ∈ tl z, c < 128
theorem Pl.ok {z : Str} (h : Pl z) : PyData.strOk z = true := by
  unfold PyData.strOk
  rw [all_tl]
  exact fun c hc => decide_eq_true (by have := h c hc; omega)
theorem lay_strs : ∀ ws : List Str, (∀ w ∈ ws, Pl w) → PyData.canLayAll0 (ws.map .str) = true
  | [], _ => by simp [PyData.canLayAll0]
  | w :: ws, h => by simp [PyData.canLayAll0, PyData.canLay0, (h w List.mem_cons_self).ok, lay_strs ws fun v hv => h v (List.mem_cons_of_mem _ hv)]
theorem dep_strs : ∀ ws : List Str, PyData.depthAll (ws.map .str) = 0
  | [] => by simp [PyData.depthAll]
  | w :: ws => by simp [PyData.depthAll, PyData.depth, dep_strs ws]
theorem shaped_strs (ws : List Str) (h : ∀ w ∈ ws, Pl w) : SeqAt.shaped (.list (ws.map .str)) = true := by
  unfold SeqAt.shaped
  simp only [PyData.canLay0, PyData.depth, lay_strs ws h, dep_strs]
  decide
theorem lay_op (o : Option (Int × Int)) : (opD o).canLay0 = true := by
  cases o with
  | none => simp [opD, PyData.canLay0]
  | some p => exact lay_pr p
theorem lay_ops : ∀ os : List (Option (Int × Int)), PyData.canLayAll0 (os.map opD) = true
  | [] => by simp [PyData.canLayAll0]
  | o :: os => by simp [PyData.canLayAll0, lay_op o, lay_ops os]
theorem dep_op (o : Option (Int × Int)) : (opD o).depth ≤ 3 := by
  cases o <;> simp [opD, prD, PyData.depth, PyData.depthAll]
theorem dep_ops : ∀ os : List (Option (Int × Int)), PyData.depthAll (os.map opD) ≤ 3
  | [] => by simp [PyData.depthAll]
  | o :: os => by
    simp only [List.map_cons, PyData.depthAll]
    exact Nat.max_le.mpr ⟨dep_op o, dep_ops os⟩
theorem shaped_ops (os : List (Option (Int × Int))) : SeqAt.shaped (.list (os.map opD)) = true := by
  have := dep_ops os
  unfold SeqAt.shaped
  simp only [PyData.canLay0, PyData.depth, lay_ops, Bool.true_and, decide_eq_true_eq]
  exact decide_eq_true (by omega)
section
variable {g : Str} {s : Nat}
theorem split_sub {z : Str} (e : tl g = [s]) (low : g.cps.all (· < 256) = true) : ∀ w ∈ Txt.split z g, ∀ c ∈ tl w, c ∈ tl z := by
  have key : ∀ (l acc : List Nat), ∀ w ∈ spl [s] 0 acc l, ∀ c ∈ w, c ∈ acc ∨ c ∈ l := fun l => by
    induction l with
    | nil =>
      intro acc w hw c hc
      rw [spl_nil] at hw
      rw [List.mem_singleton.mp hw] at hc
      exact .inl hc
    | cons d r ih =>
      intro acc w hw c hc
      by_cases hd : d = s
      · subst hd
        rw [spl_hit (pre1 d r)] at hw
        rcases List.mem_cons.mp hw with rfl | hw
        · exact .inl hc
        · rcases ih [] w hw c hc with h | h
          · cases h
          · exact .inr (List.mem_cons_of_mem _ h)
      · rw [spl_miss (pre_of_head [] r hd)] at hw
        rcases ih (acc ++ [d]) w hw c hc with h | h
        · rcases List.mem_append.mp h with h | h
          · exact .inl h
          · rw [List.mem_singleton.mp h]
            exact .inr List.mem_cons_self
        · exact .inr (List.mem_cons_of_mem _ h)
  intro w hw c hc
  have := split_spl z g (by rw [e]; simp) (kind_ok (x := z) low)
  rw [e] at this
  rcases key _ _ _ (this ▸ List.mem_map.mpr ⟨w, hw, rfl⟩) c hc with h | h
  · cases h
  · exact h
theorem Pl.split {z : Str} (h : Pl z) (e : tl g = [s]) (low : g.cps.all (· < 256) = true) : ∀ w ∈ Txt.split z g, Pl w := fun w hw c hc => h c (split_sub e low w hw c hc)
theorem split_short {z : Str} (e : tl g = [s]) (low : g.cps.all (· < 256) = true) : ∀ w ∈ Txt.split z g, w.length ≤ z.length := by
  have key : ∀ (l acc : List Nat), ∀ w ∈ spl [s] 0 acc l, w.length ≤ acc.length + l.length := fun l => by
    induction l with
    | nil =>
      intro acc w hw
      rw [spl_nil] at hw
      rw [List.mem_singleton.mp hw]
      omega
    | cons d r ih =>
      intro acc w hw
      rw [List.length_cons]
      by_cases hd : d = s
      · subst hd
        rw [spl_hit (pre1 d r)] at hw
        rcases List.mem_cons.mp hw with rfl | hw
        · omega
        · have h : w.length ≤ 0 + r.length := ih [] w hw
          omega
      · rw [spl_miss (pre_of_head [] r hd)] at hw
        have := ih (acc ++ [d]) w hw
        rw [List.length_append, List.length_singleton] at this
        omega
  intro w hw
  have := split_spl z g (by rw [e]; simp) (kind_ok (x := z) low)
  rw [e] at this
  have h : (tl w).length ≤ 0 + (tl z).length := key _ _ _ (this ▸ List.mem_map.mpr ⟨w, hw, rfl⟩)
  rw [len_tl, len_tl]
  omega
end
theorem sp_one : tl (" " : Str) = [32] := by decide +kernel
theorem sp_low : (" " : Str).cps.all (· < 256) = true := by decide +kernel
theorem split_none {z : Str} : Txt.split z " " = [("none" : Str)] ↔ z = "none" := by
  constructor
  · intro h
    rw [← join_split (z := z) sp_one sp_low, h]
    decide +kernel
  · rintro rfl
    decide +kernel
end TL
namespace TL
open PySem PySem.Spec PyProof.Rows L2
/-! ### words taken out of words; how long what is joined of them is -/
def cutW (ws : List Str) (lo hi : Option Int) : List Str := (ws.drop (HT.sIx ws.length 0 lo)).take (HT.sIx ws.length ws.length hi - HT.sIx ws.length 0 lo)
theorem cutV_str (ws : List Str) (lo hi : Option Int) : cutV (ws.map V.str) lo hi = (cutW ws lo hi).map V.str := by
  unfold cutV cutW
  rw [List.length_map, ← List.map_drop, ← List.map_take]
theorem cutW_sub (ws : List Str) (lo hi : Option Int) : (cutW ws lo hi).Sublist ws := (List.take_sublist _ _).trans (List.drop_sublist _ _)
def wSum (ws : List Str) : Nat := (ws.map (·.length)).sum + ws.length
theorem wSum_app (a b : List Str) : wSum (a ++ b) = wSum a + wSum b := by
  unfold wSum
  rw [List.map_append, List.sum_append, List.length_append]
  omega
theorem wSum_sub {a b : List Str} (h : a.Sublist b) : wSum a ≤ wSum b := by
  induction h with
  | slnil => exact Nat.le_refl _
  | cons x _ ih => 
    unfold wSum at ih ⊢
    rw [List.map_cons, List.sum_cons, List.length_cons]
    omega
  | cons_cons x _ ih =>
    unfold wSum at ih ⊢
    rw [List.map_cons, List.sum_cons, List.length_cons, List.map_cons, List.sum_cons, List.length_cons]
    omega
theorem wSum_rev (a : List Str) : wSum a.reverse = wSum a := by
  induction a with
  | nil => rfl
  | cons x a ih =>
    rw [List.reverse_cons, wSum_app, ih]
    unfold wSum
    rw [List.map_cons, List.sum_cons, List.length_cons]
    simp
    omega
theorem joinL_len1 (s : Nat) : ∀ parts : List (List Nat), parts ≠ [] → (joinL [s] parts).length + 1 = (parts.map List.length).sum + parts.length
  | [p], _ => by simp [joinL]
  | p :: q :: r, _ => by
    have ih := joinL_len1 s (q :: r) (by simp)
    show (p ++ ([s] ++ joinL [s] (q :: r))).length + 1 = _
    rw [List.length_append, List.length_append, List.map_cons, List.sum_cons, List.length_cons (a := p), show ([s] : List Nat).length = 1 from rfl]
    omega
theorem wSum_tl (ws : List Str) : wSum ws = ((ws.map tl).map List.length).sum + (ws.map tl).length := by
  unfold wSum
  rw [List.map_map, List.length_map]
  congr 2
theorem wSum_split (z : Str) : wSum (Txt.split z " ") = z.length + 1 := by
  have h := joinL_len1 32 ((Txt.split z " ").map tl) (by simpa using split_ne (z := z) sp_one sp_low)
  rw [wSum_tl, ← h]
  have := congrArg (fun y => (tl y).length) (join_split (z := z) sp_one sp_low)
  simp only [join_eq, tl_join, sp_one] at this
  rw [this, len_tl]
theorem join_len (ws : List Str) : (Txt.join " " ws).length ≤ wSum ws := by
  rw [len_tl, join_eq, tl_join, sp_one, wSum_tl]
  by_cases e : ws = []
  · rw [e]
    simp [joinL]
  · have := joinL_len1 32 (ws.map tl) (by simpa using e)
    omega
theorem joinL_mem {S : List Nat} {c : Nat} : ∀ {parts : List (List Nat)}, c ∈ joinL S parts → c ∈ S ∨ ∃ p ∈ parts, c ∈ p
  | [], h => nomatch h
  | [p], h => .inr ⟨p, List.mem_singleton.mpr rfl, h⟩
  | p :: q :: r, h => by
    have h : c ∈ p ++ (S ++ joinL S (q :: r)) := h
    rcases List.mem_append.mp h with h | h
    · exact .inr ⟨p, List.mem_cons_self, h⟩
    · rcases List.mem_append.mp h with h | h
      · exact .inl h
      · rcases joinL_mem h with h | ⟨x, hx, h⟩
        · exact .inl h
        · exact .inr ⟨x, List.mem_cons_of_mem _ hx, h⟩
theorem Pl.join {ws : List Str} (h : ∀ w ∈ ws, Pl w) : Pl (Txt.join " " ws) := fun c hc => by
  rw [join_eq, tl_join, sp_one] at hc
  rcases joinL_mem hc with hc | ⟨p, hp, hc⟩
  · rw [List.mem_singleton.mp hc]
    decide
  · obtain ⟨w, hw, rfl⟩ := List.mem_map.mp hp
    exact h w hw c hc
theorem Pl.app {a b : Str} (h : Pl a) (g : Pl b) : Pl (a ++ b) := fun c hc => by
  rw [tl_append] at hc
  exact (List.mem_append.mp hc).elim (h c) (g c)
theorem Pl.cut {z : Str} (h : Pl z) (lo hi : Option Int) : Pl (cutS z lo hi) := fun c hc => h c (List.drop_subset _ _ (List.take_subset _ _ hc))
theorem cutS_len (z : Str) (lo hi : Option Int) : (cutS z lo hi).length ≤ z.length := by
  rw [len_tl, len_tl]
  exact ((List.take_sublist _ _).trans (List.drop_sublist _ _)).length_le
theorem pl_empty : Pl Str.empty := fun c hc => nomatch hc
theorem sum_one (ws : List Str) (n : Nat) (h : ∀ w ∈ ws, w.length ≤ n) (l : ws.length ≤ 1) : wSum ws ≤ n + 1 := by
  unfold wSum
  match ws, l with
  | [], _ => simp
  | [w], _ =>
    have := h w (List.mem_singleton.mpr rfl)
    simp
    omega
theorem sIx_in {n d : Nat} {x : Int} (h0 : 0 ≤ x) (h1 : x ≤ n) : HT.sIx n d (some x) = x.toNat := by
  obtain ⟨k, rfl⟩ : ∃ k : Nat, x = (k : Int) := ⟨x.toNat, by omega⟩
  rw [HT.sIx_nat, Int.toNat_natCast]
  omega
theorem cutW_to {ws : List Str} {x : Int} (h0 : 0 ≤ x) (h1 : x ≤ ws.length) : cutW ws none (some x) = ws.take x.toNat := by
  unfold cutW
  rw [sIx_in h0 h1]
  rfl
theorem cutW_from {ws : List Str} {x : Int} (h0 : 0 ≤ x) (h1 : x ≤ ws.length) : cutW ws (some x) none = ws.drop x.toNat := by
  unfold cutW
  rw [sIx_in h0 h1]
  exact List.take_of_length_le (by rw [List.length_drop]; exact Nat.le_refl _)
theorem cutW_one {ws : List Str} {x : Int} (h0 : 0 ≤ x) (h1 : x < ws.length) : (cutW ws (some x) (some (x + 1))).length ≤ 1 := by
  unfold cutW
  rw [sIx_in h0 (by omega), sIx_in (by omega) (by omega), List.length_take]
  omega
theorem small5k {n : Nat} (h : n ≤ 5000) : n ≤ sizeLine := by rw [sizeLine_eq]; omega
def sgs : List Str := ["0", "1", "2", "-", " ", ":", ">", "x", "\n", "none", "3"]
theorem sgs_ok : ∀ g ∈ sgs, g.length ≤ 4 ∧ ∀ c ∈ tl g, c < 128 := by decide +kernel
end TL
namespace TL
open PySem PySem.Spec PyProof.Rows L2
/-! ### the first word of the text of a forest -/
theorem co_one : tl (":" : Str) = [58] := by decide +kernel
theorem sub_last {z : Str} {c : Nat} {y : Str} (hy : tl y = [c]) : (y.length ≤ z.length ∧ Builtin.Str.subAt z y (z.length - y.length) = true) ↔ ∃ b : Str, z = b ++ y := by
  have ly : y.length = 1 := by rw [len_tl, hy]; rfl
  rw [PySem.StrLaws.subAt_eq, ly, len_tl, show y.cps.toList = [c] from hy, show z.cps.toList = tl z from rfl]
  constructor
  · rintro ⟨h1, h2⟩
    have h2 : ((tl z).drop ((tl z).length - 1)).take 1 = [c] := by simpa using h2
    have e : tl z = (tl z).take ((tl z).length - 1) ++ [c] := by
      conv => lhs; rw [← List.take_append_drop ((tl z).length - 1) (tl z)]
      congr 1
      rw [← h2]
      exact (List.take_of_length_le (by rw [List.length_drop]; omega)).symm
    exact ⟨⟨((tl z).take ((tl z).length - 1)).toArray⟩, ext_tl (by rw [tl_append, hy]; exact e)⟩
  · rintro ⟨b, rfl⟩
    rw [tl_append, hy, List.length_append, List.length_singleton, Nat.add_sub_cancel]
    refine ⟨by omega, ?_⟩
    rw [List.drop_left]
    simp
theorem ends_colon {z : Str} : Txt.endswith z ":" = true ↔ ∃ b : Str, z = b ++ (":" : Str) := by
  rw [← sub_last co_one]
  unfold Txt.endswith
  rw [Bool.and_eq_true, decide_eq_true_iff, Nat.zero_add]
theorem rem_colon (b : Str) : Txt.removesuffix (b ++ (":" : Str)) ":" = b := by
  have h := (sub_last (z := b ++ (":" : Str)) co_one).mpr ⟨b, rfl⟩
  unfold Txt.removesuffix
  rw [if_pos (by rw [Bool.and_eq_true, decide_eq_true_iff]; exact h)]
  have l1 : (":" : Str).length = 1 := by rw [len_tl, co_one]; rfl
  have l2 : (b ++ (":" : Str)).length = b.length + 1 := by rw [Str.length_append, l1]
  refine ext_tl ?_
  rw [l1, l2, Nat.add_sub_cancel]
  unfold Txt.affix
  simp only
  rw [if_neg (by rw [beq_iff_eq]; omega), tl_strSub, tl_append, List.drop_zero, Nat.sub_zero, len_tl]
  exact List.take_left
theorem rem_other {z : Str} (h : ¬ ∃ b : Str, z = b ++ (":" : Str)) : Txt.removesuffix z ":" = z := by
  unfold Txt.removesuffix
  rw [if_neg (by rw [Bool.and_eq_true, decide_eq_true_iff]; exact fun k => h ((sub_last co_one).mp k))]
  rfl
theorem sIx_neg (n d : Nat) : HT.sIx n d (some (-1)) = n - 1 := by
  unfold HT.sIx
  simp only
  rw [if_pos (by decide)]
  omega
theorem cut_front (z : Str) : tl (cutS z none (some (-1))) = (tl z).dropLast := by
  unfold cutS
  rw [sIx_neg, HT.sIx_none, List.drop_zero, List.dropLast_eq_take, Nat.sub_zero, len_tl]
theorem cut_last (z : Str) : tl (cutS z (some (-1)) none) = (tl z).drop ((tl z).length - 1) := by
  unfold cutS
  rw [sIx_neg, HT.sIx_none, len_tl]
  exact List.take_of_length_le (by rw [List.length_drop]; exact Nat.le_refl _)
/-- the size that a first word tells -/
def Sz (w : Str) (n : Nat) : Prop := n ≤ 12 ∧ w = dig ((n : Nat) : Int) ++ (":" : Str)
theorem Sz.uniq {w : Str} {n k : Nat} (h : Sz w n) (g : Sz w k) : n = k := by
  have e := congrArg tl (h.2.symm.trans g.2)
  rw [tl_append, tl_append, co_one] at e
  have := List.append_inj_left' e rfl
  have h1 := h.1
  have h2 := g.1
  have := dig_inj (i := (n : Int)) (j := (k : Int)) (by omega) (by omega) (ext_tl this)
  omega
theorem size_of {b : Str} {i : Int} (h : numO b = some i) (l : i ≤ 12) : ∃ n : Nat, Sz (b ++ (":" : Str)) n ∧ i = (n : Int) := by
  obtain ⟨h1, h2⟩ := numO_some.mp h
  refine ⟨i.toNat, ⟨by omega, ?_⟩, by omega⟩
  rw [h2]
  congr 2
  omega
theorem size_num {b : Str} {n : Nat} (h : Sz (b ++ (":" : Str)) n) : numO b = some (n : Int) := by
  have e := congrArg tl h.2
  rw [tl_append, tl_append, co_one] at e
  have := List.append_inj_left' e rfl
  have h1 := h.1
  exact numO_some.mpr ⟨by omega, ext_tl this⟩
theorem size_colon {w : Str} {n : Nat} (h : Sz w n) : ∃ b : Str, w = b ++ (":" : Str) := ⟨_, h.2⟩
theorem last_colon {z : Str} : cutS z (some (-1)) none = ":" ↔ ∃ b : Str, z = b ++ (":" : Str) := by
  constructor
  · intro h
    have e := congrArg tl h
    rw [cut_last, co_one] at e
    refine ⟨⟨((tl z).take ((tl z).length - 1)).toArray⟩, ext_tl ?_⟩
    rw [tl_append, co_one, ← e]
    exact (List.take_append_drop _ _).symm
  · rintro ⟨b, rfl⟩
    refine ext_tl ?_
    rw [cut_last, tl_append, co_one, List.length_append, List.length_singleton, Nat.add_sub_cancel, List.drop_left]
theorem front_colon (b : Str) : cutS (b ++ (":" : Str)) none (some (-1)) = b := by
  refine ext_tl ?_
  rw [cut_front, tl_append, co_one, List.dropLast_concat]
end TL
namespace TL
open PySem PySem.Spec PyProof.Rows L2
/-! ### isinstance of a held error, with a tuple of classes of any kind (own ones and built-in ones) -/
def rIsT (K : PySem.W.Frag) (cls : Value) (d : Option Addr) (a : Addr) : List V → Hp → VK → Prop := fun xs H Q =>
  ∃ (D : Addr) (tp : Addr) (cs : List V) (ws : List Value) (b : Bool), ExcC K D ∧ (PySem.W.clsIn K D).isSome = true ∧ xs = [.ref a, .ref tp] ∧ cls = .ref D ∧ (∃ (dd : Addr) (fs : List (Str × V)), d = some dd ∧ H dd = some (.xd fs)) ∧
  H tp = some (.tup cs) ∧ (∀ its, Vals cs its → its = ws) ∧ PySem.W.kitAny K (.ref D) ws = some b ∧ Q (.bl b) H
theorem isTK (K : PySem.W.Frag) {X : Cx} {a : Addr} {oe : Obj} {cls : Value} {d : Option Addr} {pn : List (Addr × Obj)} (hz : Zc cls d oe) (hf : ∃ vs, oe.data = .fields vs) (h : X.K = K := by rfl) :
    CallR (X.suite a ((a, oe) :: pn)) (.builtin "isinstance") (rIsT K cls d a) := by
  subst h
  intro pins s σ H xs us Q I r h
  obtain ⟨D, tp, cs, ws, b, C, hcl, rfl, ec, ⟨dd, fs, ed, ex⟩, e1, e2, e, q⟩ := h
  subst ec ed
  cases r with
  | cons rx rr =>
    cases rr with
    | cons rt rr =>
      cases rr
      cases rx
      obtain ⟨hget, _⟩ := I.pin (a, oe) (List.mem_append.mpr (.inl List.mem_cons_self))
      obtain ⟨vs, hv⟩ := hf
      have hx : ObjOk X.prog X.w H s.heap dd (.xd fs) := I.hok dd _ ex
      obtain ⟨mA, hns, hr⟩ := hx
      obtain ⟨od, ho, hl⟩ := lookIn_ns hns
      have J : PySem.W.InstAt s.heap a oe D (some od) := ⟨hget, hz.1, by unfold PySem.W.notCls; rw [hv] <;> rfl, by rw [hz.2]; exact ho⟩
      have Z := PySem.W.kitx_exc (x := a) (ox := oe) (od := some od) hcl C.hg C.hk C.hs C.ha C.hn C.ht C.hm
      cases rt
      obtain ⟨_, its, r, o, h1, h2, n, h3⟩ := (show ObjOk X.prog X.w H s.heap tp (.tup cs) from I.hok tp _ e1)
      have ei : its = ws := e2 _ r
      subst ei
      obtain ⟨oc, od2, oda, osl⟩ := o
      dsimp only at h2 h3
      subst h2 h3
      exact PySem.W.kia_tup Z I.kIn J h1 e (fun z => nomatch z) fun tk => ⟨.bl b, H, I.kept (t' := tk) fun _ _ z => z, rfl, q⟩
/-- what one class in such a tuple is -/
theorem vals_ref {c : Addr} {cs : List V} {ws : List Value} (h : ∀ its, Vals cs its → its = ws) : ∀ its, Vals (.ref c :: cs) its → its = .ref c :: ws := fun its r => by
  cases r with
  | cons r1 r2 =>
    cases r1
    rw [h _ r2]
theorem vals_ty {T : String} {cs : List V} {ws : List Value} (h : ∀ its, Vals cs its → its = ws) : ∀ its, Vals (.ty T :: cs) its → its = .type T :: ws := fun its r => by
  cases r with
  | cons r1 r2 =>
    cases r1
    rw [h _ r2]
theorem vals_nil : ∀ its, Vals [] its → its = [] := fun its r => by cases r; rfl
theorem kitAny_no_cons {K : PySem.W.Frag} {D : Addr} {c : Value} {cs : List Value} (h : PySem.W.kitOne K (.ref D) c = some false) (t : PySem.W.kitAny K (.ref D) cs = some false) : PySem.W.kitAny K (.ref D) (c :: cs) = some false := by
  show (match PySem.W.kitOne K (.ref D) c with | some true => some true | some false => PySem.W.kitAny K (.ref D) cs | none => none) = _
  rw [h]
  exact t
end TL
namespace TL
open PySem PySem.Spec PyProof.Rows L2
/-! ### methods of a tuple: the tuple is laid with its very object, so that it is known to have no dict -/
def rTupF (K : PySem.W.Frag) : List V → Hp → VK → Prop := fun xs H Q => ∃ p ys, xs = [.ref p] ∧ SqL K H p ys ∧
  ∀ l ob, H l = none → ob.dict = none → Q (.ref l) (upd H l (.frz ob (.tup ys)))
/-- the value is a tuple laid so -/
def FrzT (x : V) (H : Hp) : Prop := ∃ p ob xs, x = .ref p ∧ H p = some (.frz ob (.tup xs)) ∧ ob.dict = none
def tBMF (r : V → List V → Hp → VK → Prop) (to : TE) (t : TA) : TE := fun σ H Q => to σ H fun x G => FrzT x G ∧ t σ G fun ys G2 => r x ys G2 Q
section
variable {X : Cx}
theorem call_tupF : CallR X (.type "tuple") (rTupF X.K) := by
  intro pins s σ H xs us Q I rr ⟨p, ys, ex, hq, q⟩
  subst ex
  obtain ⟨u, eu, rx⟩ := vals1 rr
  subst eu
  cases rx
  obtain ⟨its, rv, pl, hz⟩ := I.list hq
  have ln := rv.length
  refine call_tuple_list pl.isList (fun G kp => ?_) (by rw [List.size_toArray]; omega)
  have J : Inv X pins σ H { s with heap := G } := I.kept (t' := s.toks) kp
  let ob : Obj := { cls := .type "tuple", data := .seq its.toArray }
  have at0 : (G.push ob).get? G.objs.size = some ob := Heap.get?_push_size _ rfl
  have new : ObjOk X.prog X.w (upd H G.objs.size (.frz ob (.tup ys))) (G.push ob) G.objs.size (.frz ob (.tup ys)) := ⟨at0, hz, its, rv, ob, at0, rfl, _, rfl⟩
  have J2 := J.laid (t' := s.toks) (h' := G.push ob) (fun b o e => Heap.get?_push_of_some _ e) (Nat.le_refl _) new
  exact ⟨.ref G.objs.size, _, J2, rfl, q _ ob (J.hok.fresh (Nat.le_refl _)) rfl⟩
theorem frz_is {pins : List (Addr × Obj)} {σ : L2.St} {H : Hp} {s : Shared} {x : V} {v : Value} (I : Inv X pins σ H s) (rx : RelV x v) (f : FrzT x H) :
    s.TypeIs v "tuple" ∧ ∀ a, v = .ref a → ∃ o, s.heap.get? a = some o ∧ o.dict = none := by
  obtain ⟨p, ob, xs, ex, hp, nd⟩ := f
  subst ex
  cases rx
  obtain ⟨g, _, its, _, o, ho, hc, _⟩ := I.hok p _ hp
  exact ⟨⟨o, ho, hc⟩, fun a e => by cases e; exact ⟨ob, g, nd⟩⟩
theorem pe_bmF {o e : Expr} {es : List Expr} {to : TE} {t : TA} {name : Str} {apos cpos : Pos} {id : String} {r : V → List V → Hp → VK → Prop}
    (slot : Slot "tuple" name id) (hty : typeOf (.builtin id) = pure (.type "method_descriptor")) (hm : MtR X id r) (ho : PE X o to) (ha : PA X (e :: es) t)
    (hbase : attributeBase o name X.env (eval o X.env) = eval o X.env := by rfl)
    (few : ((backTo cpos (starEach (e :: es) X.env)).all (fun z => !z.1) && (backToKw cpos (keywordEach [] X.env)).all (fun z => z.1.isSome)
      && decide ((e :: es).length + ([] : List Keyword).length + (if ([] : List Keyword).isEmpty then 0 else 1) < 30)) = true := by rfl)
    (hline : (apos.endLine == cpos.line) = true := by rfl) (hst : starEach (e :: es) X.env = (false, eval e X.env) :: starEach es X.env := by rfl)
    (hpl : (backTo cpos (starEach es X.env)).any (·.1) = false := by rfl) :
    PE X (.Call (.Attribute o name apos) (e :: es) [] cpos) (tBMF r to t) := by
  constructor
  intro pins s σ H Q I h
  refine wpAny_Call_method_late hbase few hline rfl (thn (ho.run pins s σ H _ I h) fun v s1 got => ?_)
  obtain ⟨x, H1, J, rx, fz, rest⟩ := got
  have ty := frz_is J rx fz
  refine ⟨"tuple", id, PySem.F.plainAttrs_tuple, slot, hty, ty.1, ty.2, ?_⟩
  have args := ha.run cpos pins s1 σ H1 _ J rest
  rw [hst] at args ⊢
  have noStar : ((false, eval e X.env) :: backTo cpos (starEach es X.env)).any (·.1) = false := by
    rw [List.any_cons, hpl]
    rfl
  refine Calls.callWith_builtin (by exact noStar) (Calls.evalArgs_plain (thn args fun us s2 got2 => ?_))
  obtain ⟨vs, H2, J2, r2, q2⟩ := got2
  exact hm pins s2 σ H2 x vs v us Q J2 rx r2 q2
theorem tupFK (K : PySem.W.Frag) (h : X.K = K := by rfl) : CallR X (.type "tuple") (rTupF K) := h ▸ call_tupF
end
theorem lay_forD (m : Nat) (es : List (Int × Int)) : (forD m es).canLay0 = true := by
  simp only [forD, prsD, PyData.canLay0, PyData.canLayAll0, lay_prs, Bool.and_self, Bool.and_true]
theorem frz_T {K : PySem.W.Frag} {H : Hp} {p : Addr} {ob : Obj} {xs : List V} (h : H p = some (.frz ob (.tup xs))) : SqT K H p xs := .inl (.inr ⟨ob, h⟩)
end TL
namespace TL
open PySem PySem.Spec PyProof.Rows L2
/-! ### an edge taken away, and put back -/
theorem IsFor.filt {m : Nat} {es : List (Int × Int)} (f : IsFor m es) (c : Int × Int → Bool) : IsFor m (es.filter c) := by
  obtain ⟨nm, ks, g, pm⟩ := f.grow
  refine ⟨f.asc.filter _, fun p hp => f.rng p (List.mem_filter.mp hp).1, nm, ks.filter (fun q => c (edgeOf nm q)), ⟨g.names, g.up.filter _, fun q hq => g.down q (List.mem_filter.mp hq).1⟩, ?_⟩
  have := pm.filter c
  rw [List.filter_map] at this
  exact this
def cutE (es : List (Int × Int)) (a b : Int) : List (Int × Int) := es.filter fun q => !decide (q = ordP a b)
theorem IsFor.ord_lt {m : Nat} {es : List (Int × Int)} (f : IsFor m es) {a b : Int} (h : (a, b) ∈ es) : ordP a b = (a, b) := by
  have := f.rng _ h
  unfold ordP
  rw [if_pos (by omega)]
theorem IsFor.cut {m : Nat} {es : List (Int × Int)} {a b : Int} (f : IsFor m es) (he : ordP a b ∈ es) (p : List Int) : ¬ Pth (cutE es a b) a b p := fun h => by
  have mem : ∀ q ∈ cutE es a b, q ∈ es ∧ q ≠ ordP a b := fun q hq => by
    obtain ⟨h1, h2⟩ := List.mem_filter.mp hq
    exact ⟨h1, fun z => by rw [decide_eq_true z] at h2; cases h2⟩
  have h1 : Pth es a b p := h.mono fun q hq => (mem q hq).1
  have ad : Adj es a b := f.mem_ord.mp he
  have ne : a ≠ b := fun z => by
    subst z
    exact f.loop _ he
  have h2 : Pth es a b [a, b] := (Pth.one a).snoc ad fun z => ne (List.mem_singleton.mp z).symm
  have e := f.uniq _ _ _ _ h1 h2
  subst e
  cases h with
  | cons ad' h' n =>
    cases h' with
    | one =>
      rcases ad' with z | z
      · exact (mem _ z).2 (f.ord_lt (mem _ z).1).symm
      · exact (mem _ z).2 (by rw [ordP_comm, f.ord_lt (mem _ z).1])
    | cons _ h'' _ => cases h''
theorem AscP.nodup' {es : List (Int × Int)} (h : AscP es) : es.Nodup := h.imp fun {p q} hl e => by
  subst e
  unfold LtP at hl
  omega
theorem IsFor.back {m : Nat} {es : List (Int × Int)} {a b : Int} (f : IsFor m es) (he : ordP a b ∈ es) : srtP (cutE es a b ++ [ordP a b]) = es := by
  have nd := AscP.nodup' f.asc
  have nd2 : (cutE es a b ++ [ordP a b]).Nodup := by
    refine List.nodup_append.mpr ⟨nd.filter _, List.pairwise_singleton _ _, fun x hx y hy e => ?_⟩
    rw [List.mem_singleton.mp hy] at e
    have := (List.mem_filter.mp hx).2
    rw [decide_eq_true e] at this
    cases this
  have pm : (cutE es a b ++ [ordP a b]).Perm es := (List.perm_ext_iff_of_nodup nd2 nd).mpr fun x => by
    rw [List.mem_append, List.mem_singleton]
    unfold cutE
    rw [List.mem_filter]
    constructor
    · rintro (h | h)
      · exact h.1
      · rw [h]; exact he
    · intro h
      by_cases e : x = ordP a b
      · exact .inr e
      · exact .inl ⟨h, by rw [decide_eq_false e]; rfl⟩
  rw [srtP_congr pm, srtP_of_asc f.asc]
theorem cutE_comm (es : List (Int × Int)) (a b : Int) : cutE es a b = cutE es b a := by
  unfold cutE
  rw [ordP_comm]
end TL
namespace TL
open PySem PySem.Spec PyProof.Rows L2
/-! ### an edge between two trees -/
/-- what the program looks at -/
structure Fr (m : Nat) (es : List (Int × Int)) : Prop where
  asc : AscP es
  rng : ∀ p ∈ es, 0 ≤ p.1 ∧ p.1 < p.2 ∧ p.2 < m
  opn : ∀ A p B, es = A ++ p :: B → ¬ Conn A p.1 p.2
theorem Fr.open {m : Nat} {A B : List (Int × Int)} {p : Int × Int} (f : Fr m (A ++ p :: B)) : ¬ Conn A p.1 p.2 := f.opn A p B rfl
theorem IsFor.fr {m : Nat} {es : List (Int × Int)} (f : IsFor m es) : Fr m es := ⟨f.asc, f.rng, fun A p B e => by subst e; exact f.open⟩
theorem Conn.edge {F A : List (Int × Int)} {u v : Int} (s : ∀ q ∈ F, q ∈ A ∨ q = ordP u v) {x y : Int} (h : Conn F x y) : Conn A x y ∨ (Conn A x u ∧ Conn A v y) ∨ (Conn A x v ∧ Conn A u y) := by
  induction h with
  | refl => exact .inl (.refl _)
  | @step b c h e ih =>
    have key : ((b, c) ∈ A ∨ (c, b) ∈ A) ∨ (b = u ∧ c = v) ∨ (b = v ∧ c = u) := by
      have two : ∀ p q : Int, (p, q) = ordP u v → (p = u ∧ q = v) ∨ (p = v ∧ q = u) := fun p q z => by
        unfold ordP at z
        split at z
        · exact .inl ⟨(Prod.mk.inj z).1, (Prod.mk.inj z).2⟩
        · exact .inr ⟨(Prod.mk.inj z).1, (Prod.mk.inj z).2⟩
      rcases e with e | e
      · rcases s _ e with z | z
        · exact .inl (.inl z)
        · exact .inr (two _ _ z)
      · rcases s _ e with z | z
        · exact .inl (.inr z)
        · rcases two _ _ z with ⟨z1, z2⟩ | ⟨z1, z2⟩
          · exact .inr (.inr ⟨z2, z1⟩)
          · exact .inr (.inl ⟨z2, z1⟩)
    rcases key with ad | ⟨rfl, rfl⟩ | ⟨rfl, rfl⟩
    · rcases ih with i | ⟨i, j⟩ | ⟨i, j⟩
      · exact .inl (.step i ad)
      · exact .inr (.inl ⟨i, .step j ad⟩)
      · exact .inr (.inr ⟨i, .step j ad⟩)
    · rcases ih with i | ⟨i, j⟩ | ⟨i, j⟩
      · exact .inr (.inl ⟨i, .refl _⟩)
      · exact .inr (.inl ⟨i, .refl _⟩)
      · exact .inl i
    · rcases ih with i | ⟨i, j⟩ | ⟨i, j⟩
      · exact .inr (.inr ⟨i, .refl _⟩)
      · exact .inl i
      · exact .inr (.inr ⟨i, .refl _⟩)
theorem Conn.adj {es : List (Int × Int)} {p : Int × Int} (h : p ∈ es) : Conn es p.1 p.2 := .step (.refl _) (.inl h)
theorem ord_conn {es : List (Int × Int)} {u v : Int} (h : Conn es (ordP u v).1 (ordP u v).2) : Conn es u v := by
  unfold ordP at h
  split at h
  · exact h
  · exact h.symm
theorem IsFor.joined {m : Nat} {es : List (Int × Int)} {u v : Int} (f : IsFor m es) (hu : 0 ≤ u ∧ u < m) (hv : 0 ≤ v ∧ v < m) (np : ∀ p, ¬ Pth es u v p) : Fr m (srtP (es ++ [ordP u v])) := by
  have nc : ¬ Conn es u v := fun h => by
    obtain ⟨p, hp⟩ := h.pth
    exact np p hp
  have ne : u ≠ v := fun z => by
    subst z
    exact nc (.refl _)
  have nm : ordP u v ∉ es := fun z => nc (ord_conn (Conn.adj z))
  have nd : (es ++ [ordP u v]).Nodup := List.nodup_append.mpr ⟨AscP.nodup' f.asc, List.pairwise_singleton _ _, fun x hx y hy e => nm (by rw [← List.mem_singleton.mp hy, ← e]; exact hx)⟩
  have ro : 0 ≤ (ordP u v).1 ∧ (ordP u v).1 < (ordP u v).2 ∧ (ordP u v).2 < m := by
    unfold ordP
    split
    · exact ⟨hu.1, by show u < v; omega, hv.2⟩
    · exact ⟨hv.1, by show v < u; omega, hu.2⟩
  refine ⟨srtP_asc nd, fun p hp => ?_, fun A p B e h => ?_⟩
  · rcases List.mem_append.mp (mem_srtP.mp hp) with z | z
    · exact f.rng p z
    · rw [List.mem_singleton.mp z]
      exact ro
  · have ndA : (A ++ p :: B).Nodup := by
      rw [← e]
      exact AscP.nodup' (srtP_asc nd)
    have pA : p ∉ A := fun z => (List.nodup_append.mp ndA).2.2 p z p List.mem_cons_self rfl
    have mem : ∀ q ∈ A ++ p :: B, q ∈ es ∨ q = ordP u v := fun q hq => by
      rw [← e] at hq
      rcases List.mem_append.mp (mem_srtP.mp hq) with z | z
      · exact .inl z
      · exact .inr (List.mem_singleton.mp z)
    by_cases ep : p = ordP u v
    · have sub : ∀ q ∈ A, q ∈ es := fun q hq => by
        rcases mem q (List.mem_append_left _ hq) with z | z
        · exact z
        · exact absurd (by rw [ep, ← z]; exact hq) pA
      have h2 := h.mono sub
      rw [ep] at h2
      exact nc (ord_conn h2)
    · have pe : p ∈ es := (mem p (List.mem_append_right _ List.mem_cons_self)).resolve_right ep
      have op : ordP p.1 p.2 = p := f.ord_lt (a := p.1) (b := p.2) pe
      have sub : ∀ q ∈ A, q ∈ cutE es p.1 p.2 ∨ q = ordP u v := fun q hq => by
        rcases mem q (List.mem_append_left _ hq) with z | z
        · refine .inl (List.mem_filter.mpr ⟨z, ?_⟩)
          rw [op, decide_eq_false fun y => pA (by rw [← y]; exact hq)]
          rfl
        · exact .inr z
      have cs : ∀ {x y : Int}, Conn (cutE es p.1 p.2) x y → Conn es x y := fun h => h.mono fun q hq => (List.mem_filter.mp hq).1
      have pq : Conn es p.1 p.2 := Conn.adj pe
      rcases h.edge sub with c | ⟨c1, c2⟩ | ⟨c1, c2⟩
      · obtain ⟨q, hq⟩ := c.pth
        exact f.cut (by rw [op]; exact pe) q hq
      · exact nc (((cs c1).symm.trans pq).trans (cs c2).symm)
      · exact nc ((((cs c2).trans pq.symm)).trans (cs c1))
theorem Fr.shows {m : Nat} {es : List (Int × Int)} (h : Fr m es) (hm : m ≤ 12) (hl : es.length ≤ 13) : Sm (forD m es) 700 3 := by
  have h1 : Sm (prsD es) (13 * 23) 2 := Sm.prs (fun p hp => by have := h.rng p hp; unfold smP sm; omega) hl
  have h2 : Sm (.int (m : Int)) (13 * 23) 2 := (Sm.int (by unfold sm; omega)).le (by decide) (by decide)
  refine (Sm.tup (n := 13 * 23) (k := 2) (m := 2) (fun d hd => ?_) (Nat.le_refl _)).le (by decide) (by decide)
  rcases List.mem_cons.mp hd with rfl | hd
  · exact h2
  · obtain rfl := List.mem_singleton.mp hd
    exact h1
/-! ### paths, level by level -/
def ends (p : List Int) : Int := p.getLastD 0
def lev (m : Nat) (es : List (Int × Int)) (a : Int) : Nat → List (List Int)
  | 0 => [[a]]
  | k + 1 => (lev m es a k).flatMap fun p => ((nearL m es (ends p)).filter fun o => !decide (o ∈ p)).map fun o => p ++ [o]
theorem ends_snoc (p : List Int) (o : Int) : ends (p ++ [o]) = o := by
  unfold ends
  simp
theorem Pth.ends {es : List (Int × Int)} {a b : Int} {p : List Int} (h : Pth es a b p) : TL.ends p = b := by
  induction h with
  | one => rfl
  | @cons a b c p ad hp n ih =>
    unfold TL.ends at ih ⊢
    cases p with
    | nil => cases hp
    | cons x xs =>
      rw [← ih]
      rfl
section
variable {m : Nat} {es : List (Int × Int)} {a : Int}
theorem lev_pth (f : IsFor m es) : ∀ {k : Nat} {p : List Int}, p ∈ lev m es a k → Pth es a (ends p) p ∧ p.length = k + 1
  | 0, p, h => by
    rw [List.mem_singleton.mp h]
    exact ⟨.one a, rfl⟩
  | k + 1, p, h => by
    obtain ⟨q, hq, hp⟩ := List.mem_flatMap.mp h
    obtain ⟨o, ho, rfl⟩ := List.mem_map.mp hp
    obtain ⟨h1, h2⟩ := List.mem_filter.mp ho
    obtain ⟨pq, lq⟩ := lev_pth f hq
    have no : o ∉ q := fun z => by rw [decide_eq_true z] at h2; cases h2
    rw [ends_snoc]
    refine ⟨pq.snoc ((f.mem_ord.mp (mem_nearL.mp h1).2).symm) no, ?_⟩
    rw [List.length_append, lq]
    rfl
theorem Pth.unsnoc {b : Int} {p : List Int} (h : Pth es a b p) (hl : 2 ≤ p.length) : ∃ q c, p = q ++ [b] ∧ Pth es a c q ∧ Adj es c b ∧ b ∉ q := by
  have r := h.rev
  cases hp : p.reverse with
  | nil =>
    have := congrArg List.length hp
    rw [List.length_reverse] at this
    rw [this] at hl
    exact absurd hl (by decide)
  | cons x xs =>
    rw [hp] at r
    have ep : p = xs.reverse ++ [x] := by
      rw [← List.reverse_reverse p, hp, List.reverse_cons]
    cases r with
    | one =>
      rw [ep] at hl
      simp at hl
    | @cons _ c _ _ ad h' n =>
      exact ⟨xs.reverse, c, ep, h'.rev, ad.symm, fun z => n (List.mem_reverse.mp z)⟩
theorem lev_all (f : IsFor m es) : ∀ {k : Nat} {b : Int} {p : List Int}, Pth es a b p → p.length = k + 1 → p ∈ lev m es a k
  | 0, b, p, h, hl => by
    cases h with
    | one => exact List.mem_singleton.mpr rfl
    | cons ad h' n =>
      cases h' <;> simp at hl
  | k + 1, b, p, h, hl => by
    obtain ⟨q, c, rfl, hq, ad, n⟩ := h.unsnoc (by omega)
    rw [List.length_append, List.length_singleton] at hl
    have ih := lev_all f hq (by omega : q.length = k + 1)
    refine List.mem_flatMap.mpr ⟨q, ih, List.mem_map.mpr ⟨b, List.mem_filter.mpr ⟨?_, by rw [decide_eq_false n]; rfl⟩, rfl⟩⟩
    rw [hq.ends]
    have rb : 0 ≤ b ∧ b < m := by
      rcases ad with z | z
      · have := f.rng _ z; simp only at this; omega
      · have := f.rng _ z; simp only at this; omega
    exact mem_nearL.mpr ⟨rb, f.mem_ord.mpr ad.symm⟩
theorem IsFor.on_rng (f : IsFor m es) {b : Int} {p : List Int} (h : Pth es a b p) (ha : 0 ≤ a ∧ a < m) : ∀ x ∈ p, 0 ≤ x ∧ x < (m : Int) := by
  induction h with
  | one => intro x hx; rw [List.mem_singleton.mp hx]; exact ha
  | cons ad _ _ ih =>
    intro x hx
    rcases List.mem_cons.mp hx with rfl | hx
    · exact ha
    · refine ih ?_ x hx
      rcases ad with z | z
      · have := f.rng _ z; simp only at this; omega
      · have := f.rng _ z; simp only at this; omega
theorem lev_nodup (f : IsFor m es) : ∀ k : Nat, (lev m es a k).Nodup
  | 0 => List.pairwise_singleton _ _
  | k + 1 => by
    refine List.pairwise_flatMap.mpr ⟨fun p hp => ?_, ?_⟩
    · refine List.pairwise_map.mpr (((nearL_asc m es _).nodup.filter _).imp fun {x y} h e => h ?_)
      have := List.append_cancel_left e
      exact (List.cons.inj this).1
    · refine (lev_nodup f k).imp fun {p q} h x hx y hy e => h ?_
      obtain ⟨o, _, rfl⟩ := List.mem_map.mp hx
      obtain ⟨o', _, rfl⟩ := List.mem_map.mp hy
      exact (List.append_inj' e rfl).1
theorem lev_len (f : IsFor m es) (ha : 0 ≤ a ∧ a < m) (k : Nat) : (lev m es a k).length ≤ m := by
  have nd : ((lev m es a k).map ends).Nodup := by
    refine List.pairwise_map.mpr ((List.Pairwise.and_mem.mp (lev_nodup f k)).imp ?_)
    rintro p q ⟨hp, hq, h⟩ e
    have h1 := (lev_pth f hp).1
    have h2 := (lev_pth f hq).1
    rw [← e] at h2
    exact h (f.uniq _ _ _ _ h1 h2)
  have rg : ∀ x ∈ (lev m es a k).map ends, 0 ≤ x ∧ x < (m : Int) := fun x hx => by
    obtain ⟨p, hp, rfl⟩ := List.mem_map.mp hx
    have h1 := (lev_pth f hp).1
    have : ∀ {b c : Int} {q : List Int}, Pth es b c q → (0 ≤ b ∧ b < (m : Int)) → 0 ≤ c ∧ c < (m : Int) := by
      intro b c q h
      induction h with
      | one => exact id
      | cons ad _ _ ih =>
        intro hb
        refine ih ?_
        rcases ad with z | z
        · have := f.rng _ z; simp only at this; omega
        · have := f.rng _ z; simp only at this; omega
    exact this h1 ha
  have := (IsSet.mk (es := []) (m := m) (srtI_asc nd) (fun v hv => rg v (mem_srtI.mp hv)) (fun _ _ _ _ z => nomatch z)).len
  rw [srtI_length, List.length_map] at this
  exact this
end
end TL
namespace TL
/-! ### edges that stay open: neighbours, one path at most, the paths in a row -/
theorem Fr.mem_ord {m : Nat} {es : List (Int × Int)} (f : Fr m es) {o v : Int} : ordP o v ∈ es ↔ (o, v) ∈ es ∨ (v, o) ∈ es := by
  unfold ordP
  by_cases h : o ≤ v
  · rw [if_pos h]
    refine ⟨.inl, fun q => q.elim id fun q => ?_⟩
    have := f.rng _ q
    simp only at this
    omega
  · rw [if_neg h]
    refine ⟨.inr, fun q => q.elim (fun q => ?_) id⟩
    have := f.rng _ q
    simp only at this
    omega
theorem Fr.nb {m : Nat} {es : List (Int × Int)} (f : Fr m es) (v : Int) : nbL es v = nearL m es v := by
  refine asc_ext ?_ (nearL_asc m es v) fun o => ?_
  · unfold nbL
    refine List.pairwise_append.mpr ⟨?_, ?_, ?_⟩
    · rw [List.pairwise_map]
      refine (List.Pairwise.and_mem.mp (f.asc.filter fun p => decide (p.2 = v))).imp ?_
      rintro a b ⟨ha, hb, hab⟩
      have h1 : a.2 = v := of_decide_eq_true (List.mem_filter.mp ha).2
      have h2 : b.2 = v := of_decide_eq_true (List.mem_filter.mp hb).2
      rcases hab with h | h <;> omega
    · rw [List.pairwise_map]
      refine (List.Pairwise.and_mem.mp (f.asc.filter fun p => decide (p.1 = v))).imp ?_
      rintro a b ⟨ha, hb, hab⟩
      have h1 : a.1 = v := of_decide_eq_true (List.mem_filter.mp ha).2
      have h2 : b.1 = v := of_decide_eq_true (List.mem_filter.mp hb).2
      rcases hab with h | h <;> omega
    · intro x hx y hy
      obtain ⟨a, ha, rfl⟩ := List.mem_map.mp hx
      obtain ⟨b, hb, rfl⟩ := List.mem_map.mp hy
      have a1 := f.rng _ (List.mem_filter.mp ha).1
      have b1 := f.rng _ (List.mem_filter.mp hb).1
      have h1 : a.2 = v := of_decide_eq_true (List.mem_filter.mp ha).2
      have h2 : b.1 = v := of_decide_eq_true (List.mem_filter.mp hb).2
      omega
  · rw [mem_nbL, mem_nearL, f.mem_ord]
    refine ⟨fun h => ⟨?_, h⟩, fun h => h.2⟩
    rcases h with h | h
    · have := f.rng _ h
      simp only at this
      omega
    · have := f.rng _ h
      simp only at this
      omega
theorem Pth.conn {es : List (Int × Int)} {a b : Int} {p : List Int} (h : Pth es a b p) : Conn es a b := by
  induction h with
  | one => exact .refl _
  | cons ad _ _ ih => exact Conn.trans (.step (.refl _) ad) ih
section
variable {A : List (Int × Int)} {e : Int × Int}
theorem pth_edge {a b : Int} {p : List Int} (h : Pth (A ++ [e]) a b p) : Pth A a b p ∨ (∃ p1 p2, p = p1 ++ p2 ∧ Pth A a e.1 p1 ∧ Pth A e.2 b p2) ∨ ∃ p1 p2, p = p1 ++ p2 ∧ Pth A a e.2 p1 ∧ Pth A e.1 b p2 := by
  induction h with
  | one a => exact .inl (.one a)
  | @cons a c b p ad hp n ih =>
    have ad' : Adj A a c ∨ (a = e.1 ∧ c = e.2) ∨ (a = e.2 ∧ c = e.1) := by
      rcases ad with h | h
      · rcases List.mem_append.mp h with h | h
        · exact .inl (.inl h)
        · have h := List.mem_singleton.mp h
          exact .inr (.inl ⟨congrArg Prod.fst h, congrArg Prod.snd h⟩)
      · rcases List.mem_append.mp h with h | h
        · exact .inl (.inr h)
        · have h := List.mem_singleton.mp h
          exact .inr (.inr ⟨congrArg Prod.snd h, congrArg Prod.fst h⟩)
    rcases ih with h | ⟨p1, p2, rfl, h1, h2⟩ | ⟨p1, p2, rfl, h1, h2⟩
    · rcases ad' with ad | ⟨rfl, rfl⟩ | ⟨rfl, rfl⟩
      · exact .inl (.cons ad h n)
      · exact .inr (.inl ⟨[e.1], p, rfl, .one _, h⟩)
      · exact .inr (.inr ⟨[e.2], p, rfl, .one _, h⟩)
    · have n1 : a ∉ p1 := fun z => n (List.mem_append.mpr (.inl z))
      have n2 : a ∉ p2 := fun z => n (List.mem_append.mpr (.inr z))
      rcases ad' with ad | ⟨rfl, rfl⟩ | ⟨rfl, rfl⟩
      · exact .inr (.inl ⟨a :: p1, p2, rfl, .cons ad h1 n1, h2⟩)
      · exact absurd h1.last n1
      · exact absurd h2.first n2
    · have n1 : a ∉ p1 := fun z => n (List.mem_append.mpr (.inl z))
      have n2 : a ∉ p2 := fun z => n (List.mem_append.mpr (.inr z))
      rcases ad' with ad | ⟨rfl, rfl⟩ | ⟨rfl, rfl⟩
      · exact .inr (.inr ⟨a :: p1, p2, rfl, .cons ad h1 n1, h2⟩)
      · exact absurd h2.first n2
      · exact absurd h1.last n1
theorem uniq_edge (U : Uniq A) (n : ¬ Conn A e.1 e.2) : Uniq (A ++ [e]) := by
  intro a b p q hp hq
  rcases pth_edge hp with h | ⟨p1, p2, rfl, h1, h2⟩ | ⟨p1, p2, rfl, h1, h2⟩
  · rcases pth_edge hq with k | ⟨q1, q2, rfl, k1, k2⟩ | ⟨q1, q2, rfl, k1, k2⟩
    · exact U _ _ _ _ h k
    · exact absurd ((k1.conn.symm.trans h.conn).trans k2.conn.symm) n
    · exact absurd ((k2.conn.trans h.conn.symm).trans k1.conn) n
  · rcases pth_edge hq with k | ⟨q1, q2, rfl, k1, k2⟩ | ⟨q1, q2, rfl, k1, k2⟩
    · exact absurd ((h1.conn.symm.trans k.conn).trans h2.conn.symm) n
    · rw [U _ _ _ _ h1 k1, U _ _ _ _ h2 k2]
    · exact absurd (h1.conn.symm.trans k1.conn) n
  · rcases pth_edge hq with k | ⟨q1, q2, rfl, k1, k2⟩ | ⟨q1, q2, rfl, k1, k2⟩
    · exact absurd ((h2.conn.trans k.conn.symm).trans h1.conn) n
    · exact absurd (k1.conn.symm.trans h1.conn) n
    · rw [U _ _ _ _ h1 k1, U _ _ _ _ h2 k2]
end
theorem uniq_open : ∀ (n : Nat) {es : List (Int × Int)}, es.length = n → (∀ A p B, es = A ++ p :: B → ¬ Conn A p.1 p.2) → Uniq es
  | 0, es, h, _ => by
    rw [List.length_eq_zero_iff.mp h]
    exact uniq_nil
  | n + 1, es, h, o => by
    rcases List.eq_nil_or_concat es with e | ⟨A, p, e⟩
    · rw [e] at h
      cases h
    · rw [List.concat_eq_append] at e
      subst e
      rw [List.length_append, List.length_singleton] at h
      refine uniq_edge (uniq_open n (by omega) fun B q C hB => ?_) (o A p [] rfl)
      exact o B q (C ++ [p]) (by rw [hB, List.append_assoc]; rfl)
section
variable {m : Nat} {es : List (Int × Int)}
theorem Fr.uniq (f : Fr m es) : Uniq es := uniq_open _ rfl f.opn
theorem Fr.on_rng (f : Fr m es) {a b : Int} {p : List Int} (h : Pth es a b p) (ha : 0 ≤ a ∧ a < m) : ∀ x ∈ p, 0 ≤ x ∧ x < (m : Int) := by
  induction h with
  | one => intro x hx; rw [List.mem_singleton.mp hx]; exact ha
  | cons ad _ _ ih =>
    intro x hx
    rcases List.mem_cons.mp hx with rfl | hx
    · exact ha
    · refine ih ?_ x hx
      rcases ad with z | z
      · have := f.rng _ z; simp only at this; omega
      · have := f.rng _ z; simp only at this; omega
def grwF (m : Nat) (es : List (Int × Int)) (p : List Int) : List (List Int) := ((nearL m es (ends p)).filter fun o => !decide (o ∈ p)).map fun o => p ++ [o]
theorem mem_grwF {p q : List Int} : q ∈ grwF m es p ↔ ∃ o, o ∈ nearL m es (ends p) ∧ o ∉ p ∧ q = p ++ [o] := by
  unfold grwF
  rw [List.mem_map]
  constructor
  · rintro ⟨o, ho, rfl⟩
    obtain ⟨h1, h2⟩ := List.mem_filter.mp ho
    exact ⟨o, h1, fun z => (by rw [decide_eq_true z] at h2; cases h2), rfl⟩
  · rintro ⟨o, h1, h2, rfl⟩
    exact ⟨o, List.mem_filter.mpr ⟨h1, by rw [decide_eq_false h2]; rfl⟩, rfl⟩
theorem grwF_nd (p : List Int) : (grwF m es p).Nodup := by
  refine List.pairwise_map.mpr (((nearL_asc m es _).nodup.filter _).imp fun {x y} h e => h ?_)
  have := List.append_cancel_left e
  exact (List.cons.inj this).1
theorem grwF_len (m : Nat) (es : List (Int × Int)) (p : List Int) : (grwF m es p).length ≤ m := by
  unfold grwF
  rw [List.length_map]
  refine Nat.le_trans (List.length_filter_le _ _) ?_
  have := List.length_filter_le (fun o => decide (ordP o (ends p) ∈ es)) (rng m)
  rw [rng_length] at this
  exact this
/-- the paths from u in a row; those before the i-th are passed -/
structure Qu (m : Nat) (es : List (Int × Int)) (u : Int) (Ps : List (List Int)) (i : Nat) : Prop where
  pth : ∀ p ∈ Ps, Pth es u (ends p) p
  nd : Ps.Nodup
  ex : ∀ p ∈ Ps.take i, ∀ q ∈ grwF m es p, q ∈ Ps
  back : ∀ p ∈ Ps, p = [u] ∨ p.dropLast ∈ Ps.take i
  start : [u] ∈ Ps
theorem Qu.init {u : Int} : Qu m es u [[u]] 0 := ⟨fun p hp => by rw [List.mem_singleton.mp hp]; exact .one u, List.pairwise_singleton _ _, (fun p hp => nomatch hp), fun p hp => .inl (List.mem_singleton.mp hp), List.mem_singleton.mpr rfl⟩
theorem Qu.next {u : Int} {Ps : List (List Int)} {i : Nat} {p : List Int} (f : Fr m es) (h : Qu m es u Ps i) (hp : Ps[i]? = some p) : Qu m es u (Ps ++ grwF m es p) (i + 1) := by
  have mp := List.mem_of_getElem? hp
  have hi := (List.getElem?_eq_some_iff.mp hp).1
  have tk : (Ps ++ grwF m es p).take (i + 1) = Ps.take i ++ [p] := by
    rw [List.take_append_of_le_length (by omega), List.take_add_one, hp]
    rfl
  refine ⟨fun q hq => ?_, List.nodup_append.mpr ⟨h.nd, grwF_nd p, fun x hx y hy e => ?_⟩, fun x hx q hq => ?_, fun q hq => ?_, List.mem_append.mpr (.inl h.start)⟩
  · rcases List.mem_append.mp hq with hq | hq
    · exact h.pth q hq
    · obtain ⟨o, h1, h2, rfl⟩ := mem_grwF.mp hq
      rw [ends_snoc]
      exact (h.pth p mp).snoc ((f.mem_ord.mp (mem_nearL.mp h1).2).symm) h2
  · subst e
    obtain ⟨o, h1, h2, rfl⟩ := mem_grwF.mp hy
    rcases h.back _ hx with e | e
    · have := congrArg List.length e
      rw [List.length_append, List.length_singleton, List.length_singleton] at this
      have l0 : p = [] := List.length_eq_zero_iff.mp (by omega)
      have := (h.pth p mp).first
      rw [l0] at this
      cases this
    · rw [List.dropLast_concat] at e
      obtain ⟨j, hj⟩ := List.mem_iff_getElem?.mp e
      have hj2 := (List.getElem?_eq_some_iff.mp hj).1
      rw [List.length_take] at hj2
      rw [List.getElem?_take, if_pos (by omega)] at hj
      have := (List.getElem?_inj hi h.nd).mp (hp.trans hj.symm)
      omega
  · rw [tk] at hx
    rcases List.mem_append.mp hx with hx | hx
    · exact List.mem_append.mpr (.inl (h.ex x hx q hq))
    · rw [List.mem_singleton.mp hx] at hq
      exact List.mem_append.mpr (.inr hq)
  · rw [tk]
    rcases List.mem_append.mp hq with hq | hq
    · rcases h.back q hq with e | e
      · exact .inl e
      · exact .inr (List.mem_append.mpr (.inl e))
    · obtain ⟨o, h1, h2, rfl⟩ := mem_grwF.mp hq
      rw [List.dropLast_concat]
      exact .inr (List.mem_append.mpr (.inr (List.mem_singleton.mpr rfl)))
theorem nd_len2 {m : Nat} {l : List Int} (nd : l.Nodup) (h : ∀ x ∈ l, 0 ≤ x ∧ x < (m : Int)) : l.length ≤ m := by
  have h1 : (srtI l).length = l.length := (srtI_perm l).length_eq
  have nds : (srtI l).Nodup := (srtI_perm l).nodup_iff.mpr nd
  have asc : Asc (srtI l) := by
    have le : (srtI l).Pairwise (· ≤ ·) := srtI_le l
    exact (List.Pairwise.and le nds).imp fun {a b} h => by have := h.1; have := h.2; omega
  have := asc_len (m := m) (lo := 0) asc fun x hx => h x ((srtI_perm l).mem_iff.mp hx)
  omega
theorem Qu.len {u : Int} {Ps : List (List Int)} {i : Nat} (f : Fr m es) (hu : 0 ≤ u ∧ u < m) (h : Qu m es u Ps i) : Ps.length ≤ m := by
  have nd : (Ps.map ends).Nodup := by
    refine List.pairwise_map.mpr (List.Pairwise.imp_of_mem (fun {p q} hp hq hne e => hne ?_) h.nd)
    have h1 := h.pth p hp
    rw [e] at h1
    exact f.uniq _ _ _ _ h1 (h.pth q hq)
  have := nd_len2 (m := m) nd fun x hx => by
    obtain ⟨p, hp, rfl⟩ := List.mem_map.mp hx
    exact f.on_rng (h.pth p hp) hu _ (h.pth p hp).last
  rw [List.length_map] at this
  exact this
theorem Qu.all {u : Int} {Ps : List (List Int)} (f : Fr m es) (h : Qu m es u Ps Ps.length) : ∀ (n : Nat) {v : Int} {p : List Int}, p.length = n → Pth es u v p → p ∈ Ps
  | n, v, p, hn, hp => by
    by_cases l2 : 2 ≤ p.length
    · obtain ⟨q, c, rfl, hq, ad, nb⟩ := hp.unsnoc l2
      have lq : q.length < n := by
        rw [← hn, List.length_append, List.length_singleton]
        omega
      have ih := Qu.all f h q.length rfl hq
      refine h.ex q (by rw [List.take_length]; exact ih) _ (mem_grwF.mpr ⟨v, ?_, nb, rfl⟩)
      rw [hq.ends]
      refine mem_nearL.mpr ⟨?_, f.mem_ord.mpr ad.symm⟩
      rcases ad with z | z
      · have := f.rng _ z; simp only at this; omega
      · have := f.rng _ z; simp only at this; omega
    · cases hp with
      | one => exact h.start
      | cons ad h' n' =>
        cases h' <;> simp at l2
termination_by n => n
theorem Qu.none {u v : Int} {Ps : List (List Int)} {i : Nat} (f : Fr m es) (h : Qu m es u Ps i) (hi : Ps.length ≤ i) (n : ∀ p ∈ Ps, ends p ≠ v) : ¬ Conn es u v := fun c => by
  have h' : Qu m es u Ps Ps.length := ⟨h.pth, h.nd, fun p hp => h.ex p (by rw [List.take_of_length_le hi]; exact List.mem_of_mem_take hp), fun p hp => (h.back p hp).imp id fun e => (by rw [List.take_length]; exact List.mem_of_mem_take e), h.start⟩
  obtain ⟨p, hp⟩ := c.pth
  exact n p (Qu.all f h' _ rfl hp) hp.ends
theorem Fr.grow (f : Fr m es) {p : Int × Int} (r : 0 ≤ p.1 ∧ p.1 < p.2 ∧ p.2 < (m : Int)) (b : ∀ q ∈ es, q.1 < p.1 ∨ q.1 = p.1 ∧ q.2 < p.2) (n : ¬ Conn es p.1 p.2) : Fr m (es ++ [p]) := by
  refine ⟨?_, fun q hq => ?_, fun A q B e => ?_⟩
  · refine List.pairwise_append.mpr ⟨f.asc, List.pairwise_singleton _ _, fun x hx y hy => ?_⟩
    rw [List.mem_singleton.mp hy]
    exact b x hx
  · rcases List.mem_append.mp hq with hq | hq
    · exact f.rng q hq
    · rw [List.mem_singleton.mp hq]
      exact r
  · rcases List.eq_nil_or_concat B with h | ⟨B', x, h⟩
    · subst h
      have := List.append_inj' e rfl
      rw [← this.1]
      have e2 := (List.cons.inj this.2).1
      rw [← e2]
      exact n
    · rw [List.concat_eq_append] at h
      subst h
      rw [← List.cons_append, ← List.append_assoc] at e
      have := List.append_inj' e rfl
      exact f.opn A q B' this.1
theorem Fr.nil : Fr m [] := ⟨.nil, (fun _ h => nomatch h), fun A p B e => by simp at e⟩
end
end TL
namespace TL
open PySem PySem.Spec PyProof.Rows L2
/-! ### for a, b, c in zip(t, u, v), three tuples -/
theorem sub6 {d z TI TO i1 i2 i3 : Addr} (w : d ∈ [z, TO, i1, i2, i3]) : d ∈ [z, TI, TO, i1, i2, i3] := by
  rcases List.mem_cons.mp w with e | w
  · rw [e]; exact List.mem_cons_self
  · exact List.mem_cons_of_mem _ (List.mem_cons_of_mem _ w)
def Itz3 (K : PySem.W.Frag) (a b c : Addr) : It :=
  ⟨fun i H => ∃ (xs ys us : List V) (x y u : V), SqT K H a xs ∧ SqT K H b ys ∧ SqT K H c us ∧ xs[i]? = some x ∧ ys[i]? = some y ∧ us[i]? = some u,
    fun i H v H' => ∃ T x y u, v = .ref T ∧ H T = none ∧ H' = upd H T (.tup [x, y, u]) ∧ (∀ xs, SqT K H a xs → xs[i]? = some x) ∧ (∀ ys, SqT K H b ys → ys[i]? = some y) ∧ ∀ us, SqT K H c us → us[i]? = some u,
    fun i H => ∃ xs ys us : List V, SqT K H a xs ∧ SqT K H b ys ∧ SqT K H c us ∧ xs.length = i ∧ ys.length = i ∧ us.length = i⟩
abbrev zip3St (z TI TO i1 i2 i3 a b c : Addr) (i : Nat) (h : Heap) : Prop := IsZip h z TI TO .none ∧ IsTupOf3 h TI (.ref i1) (.ref i2) (.ref i3) ∧ (∃ a1 a2 a3, IsTupOf3 h TO a1 a2 a3) ∧ h.IsTupleIter i1 a i ∧ h.IsTupleIter i2 b i ∧ h.IsTupleIter i3 c i
theorem turn_zip3 {P : Program} {w : World} {K : PySem.W.Frag} {elts : List Expr} {kk : Nat} {tpos : Pos} {a b c z TI TO i1 i2 i3 : Addr} (S : ZipSep3 z TI TO i1 i2 i3 [i1, a] [i2, b] [i3, c]) (n1 : a ≠ i1) (n2 : b ≠ i2) (n3 : c ≠ i3) :
    Turn P w K (.Tuple elts kk tpos) (Itz3 K a b c) [z, TI, TO, i1, i2, i3] z (zip3St z TI TO i1 i2 i3 a b c) where
  mem := by simp
  obj := fun i h st c' hc => by
    obtain ⟨hz, hTI, ⟨x, y, u, hTO⟩, ⟨o1, e1, _, d1⟩, ⟨o2, e2, _, d2⟩, ⟨o3, e3, _, d3⟩⟩ := st
    have e' : c' = z ∨ c' = TI ∨ c' = TO ∨ c' = i1 ∨ c' = i2 ∨ c' = i3 := by simpa using hc
    rcases e' with q | q | q | q | q | q
    · rw [q]; exact ⟨_, hz, fun v q => nomatch q⟩
    · rw [q]; exact ⟨_, hTI, fun v q => nomatch q⟩
    · rw [q]; exact ⟨_, hTO, fun v q => nomatch q⟩
    · rw [q]; exact ⟨o1, e1, fun v q => by rw [d1] at q; cases q⟩
    · rw [q]; exact ⟨o2, e2, fun v q => by rw [d2] at q; cases q⟩
    · rw [q]; exact ⟨o3, e3, fun v q => by rw [d3] at q; cases q⟩
  keep := fun i h h' st k => by
    obtain ⟨hz, hTI, ⟨x, y, u, hTO⟩, h1, h2, h3⟩ := st
    exact ⟨k z (by simp) _ hz, k TI (by simp) _ hTI, ⟨x, y, u, k TO (by simp) _ hTO⟩, h1.at fun o q => k i1 (by simp) o q, h2.at fun o q => k i2 (by simp) o q, h3.at fun o q => k i3 (by simp) o q⟩
  item := by
    intro X hP hw hK hc i pins s σ H E I hf st hg
    subst hP hw hK
    obtain ⟨xs, ys, us, x, y, u, hqx, hqy, hqu, hx, hy, hu⟩ := hg
    obtain ⟨its, rv, p, _⟩ := I.tuple hqx
    obtain ⟨its2, rv2, p2, _⟩ := I.tuple hqy
    obtain ⟨its3, rv3, p3, _⟩ := I.tuple hqu
    obtain ⟨v1, hv1, r1⟩ := rv.get hx
    obtain ⟨v2, hv2, r2⟩ := rv2.get hy
    obtain ⟨v3, hv3, r3⟩ := rv3.get hu
    have hh := I.ok.hd hc
    have hh1 : X.A.in1.handled = none := hh
    have W := WalksT.zipD3 (prog := X.prog) (w := X.w) (A := X.A) S (Draws.tuple hh1 i1 a n1 its.toArray) (Draws.tuple hh1 i2 b n2 its2.toArray) (Draws.tuple hh1 i3 c n3 its3.toArray)
    have hi1 : i < its.length := (List.getElem?_eq_some_iff.mp hv1).1
    have hi2 : i < its2.length := (List.getElem?_eq_some_iff.mp hv2).1
    have hi3 : i < its3.length := (List.getElem?_eq_some_iff.mp hv3).1
    have hlt : i < min (min its.toArray.size its2.toArray.size) its3.toArray.size := by simp only [List.size_toArray]; omega
    obtain ⟨hz, hTI, hTO, h1, h2, h3⟩ := id st
    refine W.item i s _ E hlt ⟨hz, hTI, hTO, ⟨h1, p⟩, ⟨h2, p2⟩, ⟨h3, p3⟩⟩ fun T vals h' tk hP hT hTu hM hk => ?_
    obtain ⟨w1, w2, w3, e1, e2, e3, rfl⟩ := hP
    refine ⟨_, rfl, W.go elts kk tpos i T _ _ _ hM fun h'' st'' hk2 => ?_⟩
    have nT := W.apart i T h' hM
    have hTu2 : h''.IsTuple T #[w1, w2, w3] := hTu.at fun o e => hk2 T o nT e
    have q1 : w1 = v1 := by
      have : its[i]? = some w1 := by simpa using e1
      rw [hv1] at this
      exact (Option.some.inj this).symm
    have q2 : w2 = v2 := by
      have : its2[i]? = some w2 := by simpa using e2
      rw [hv2] at this
      exact (Option.some.inj this).symm
    have q3 : w3 = v3 := by
      have : its3[i]? = some w3 := by simpa using e3
      rw [hv3] at this
      exact (Option.some.inj this).symm
    subst q1 q2 q3
    have new : ObjOk X.prog X.w (upd H T (.tup [x, y, u])) h'' T (.tup [x, y, u]) :=
      ⟨by show 3 ≤ sizeLine; decide, [w1, w2, w3], .cons r1 (.cons r2 (.cons r3 .nil)), hTu2⟩
    have I1 : Inv X pins σ (upd H T (.tup [x, y, u])) { s with heap := h'', toks := tk } :=
      I.turnedNew (t' := tk) (ch := [z, TI, TO, i1, i2, i3]) (fun d o hb q => hk2 d o (fun w => hb (sub6 w)) (hk d o (fun w => hb (sub6 w)) q)) hf hT new
    obtain ⟨g1, g2, g3, g4, g5, g6⟩ := st''
    refine ⟨.ref T, _, I1, rfl, ⟨_, x, y, u, rfl, I.hok.fresh hT, rfl, fun l hl => by rw [I.tuple_inj hl hqx]; exact hx, fun l hl => by rw [I.tuple_inj hl hqy]; exact hy, fun l hl => by rw [I.tuple_inj hl hqu]; exact hu⟩, ⟨g1, g2, g3, g4.1, g5.1, g6.1⟩, fun d hd => ?_⟩
    have nd : d ≠ T := fun e => by
      subst e
      have e' : d = z ∨ d = TI ∨ d = TO ∨ d = i1 ∨ d = i2 ∨ d = i3 := by simpa using hd
      have lt : d < s.heap.objs.size := by
        obtain ⟨_, _, _, hTO⟩ := hTO
        rcases e' with q | q | q | q | q | q
        · rw [q]; exact Heap.lt_size hz
        · rw [q]; exact Heap.lt_size hTI
        · rw [q]; exact Heap.lt_size hTO
        · rw [q]; obtain ⟨_, e1, _⟩ := h1; exact Heap.lt_size e1
        · rw [q]; obtain ⟨_, e2, _⟩ := h2; exact Heap.lt_size e2
        · rw [q]; obtain ⟨_, e3, _⟩ := h3; exact Heap.lt_size e3
      exact Nat.lt_irrefl _ (Nat.lt_of_lt_of_le lt hT)
    rw [upd_ne nd]
    exact (hf d hd).1
  done := by
    intro X hP hw hK hc i pins s σ H E I hf st hg
    subst hP hw hK
    obtain ⟨xs, ys, us, hqx, hqy, hqu, l1, l2, l3⟩ := hg
    obtain ⟨its, rv, p, _⟩ := I.tuple hqx
    obtain ⟨its2, rv2, p2, _⟩ := I.tuple hqy
    obtain ⟨its3, rv3, p3, _⟩ := I.tuple hqu
    have hh1 : X.A.in1.handled = none := I.ok.hd hc
    have W := WalksT.zipD3 (prog := X.prog) (w := X.w) (A := X.A) S (Draws.tuple hh1 i1 a n1 its.toArray) (Draws.tuple hh1 i2 b n2 its2.toArray) (Draws.tuple hh1 i3 c n3 its3.toArray)
    have m1 := rv.length
    have m2 := rv2.length
    have m3 := rv3.length
    have e : min (min its.toArray.size its2.toArray.size) its3.toArray.size = i := by simp only [List.size_toArray]; omega
    obtain ⟨hz, hTI, hTO, h1, h2, h3⟩ := st
    have d := W.done s (fun r s1 => r = none ∧ Inv X pins σ H s1) E
    rw [e] at d
    refine d ⟨hz, hTI, hTO, ⟨h1, p⟩, ⟨h2, p2⟩, ⟨h3, p3⟩⟩ fun h' tk hk => ⟨rfl, ?_⟩
    exact I.turnedL (t' := tk) (ch := [z, TI, TO, i1, i2, i3]) (fun d o hb q => hk d o (fun w => hb (sub6 w)) q) hf
  self := fun A i s Q E st h => wpAny_pyIter_zip st.1 h
def iZip3 (K : PySem.W.Frag) (ta : L2.TA) : TI := fun σ H R => ta σ H fun vs H1 => ∃ (a b c : Addr) (xs ys us : List V), vs = [.ref a, .ref b, .ref c] ∧ SqT K H1 a xs ∧ SqT K H1 b ys ∧ SqT K H1 c us ∧ R (Itz3 K a b c) H1
theorem pi_zip3 {X : Cx} {e e2 e3 : Expr} {ta : L2.TA} {p pos tpos : Pos} {elts : List Expr} {kk : Nat} (hg : Gl X "zip") (hm : X.mg "zip" = none) (ha : PA X [e, e2, e3] ta)
    (hs : starEach [e, e2, e3] X.env = (false, eval e X.env) :: starEach [e2, e3] X.env := by rfl) (hpl : (backTo pos (starEach [e2, e3] X.env)).any (·.1) = false := by rfl) :
    PI X (.Tuple elts kk tpos) (.Call (.Name "zip" p) [e, e2, e3] [] pos) (iZip3 X.K ta) := by
  refine ⟨fun pins s σ H R I h => ?_⟩
  refine Call_ (ld_blt I hg hm PyProof.Rows.boot_zip (PyProof.Rows.callWith_type1 (thn (ha.run pos pins s σ H _ I h) fun us s1 ⟨vs, H1, I1, r1, q1⟩ => ?_) hs hpl))
  obtain ⟨a, b, c, xs, ys, us, ex, hqx, hqy, hqu, q⟩ := q1
  subst ex
  cases r1 with
  | cons r rr =>
    cases rr with
    | cons r' rr =>
      cases rr with
      | cons r'' rr =>
        cases rr
        cases r
        cases r'
        cases r''
        obtain ⟨its, rv, p1, _⟩ := I1.tuple hqx
        obtain ⟨its2, rv2, p2, _⟩ := I1.tuple hqy
        obtain ⟨its3, rv3, p3, _⟩ := I1.tuple hqu
        obtain ⟨o1, ho1, _⟩ := id p1
        obtain ⟨o2, ho2, _⟩ := id p2
        obtain ⟨o3, ho3, _⟩ := id p3
        have la := Heap.lt_size ho1
        have lb := Heap.lt_size ho2
        have lc := Heap.lt_size ho3
        have fresh6 : ∀ d, d ∈ [s1.heap.objs.size + 5, s1.heap.objs.size + 3, s1.heap.objs.size + 4, s1.heap.objs.size, s1.heap.objs.size + 1, s1.heap.objs.size + 2] → FpOk X pins H1 d := fun d hd => by
          have hle : s1.heap.objs.size ≤ d := by
            simp only [List.mem_cons, List.not_mem_nil, or_false] at hd
            rcases hd with z | z | z | z | z | z
            · rw [z]; exact Nat.le_add_right _ _
            · rw [z]; exact Nat.le_add_right _ _
            · rw [z]; exact Nat.le_add_right _ _
            · rw [z]; exact Nat.le_refl _
            · rw [z]; exact Nat.le_add_right _ _
            · rw [z]; exact Nat.le_add_right _ _
          exact I1.fpOk hle (I1.hok.fresh hle)
        refine zip_begins3 (begins_tuple a its.toArray) (begins_tuple b its2.toArray) (begins_tuple c its3.toArray) p1 p2 p3 fun h' hz hTI hTO h1 h2 h3 hsz hk => wpAny_pyIter_zip hz ?_
        have I2 : Inv X pins σ H1 { s1 with heap := h' } := I1.kept (t' := s1.toks) hk
        have sep := zip_sep3 (N := s1.heap.objs.size) (fp1 := [a]) (fp2 := [b]) (fp3 := [c]) (fun d hd => by rw [List.mem_singleton.mp hd]; exact la) (fun d hd => by rw [List.mem_singleton.mp hd]; exact lb) (fun d hd => by rw [List.mem_singleton.mp hd]; exact lc)
        refine ⟨s1.heap.objs.size + 5, _, _, _, H1, rfl, I2, turn_zip3 sep (Nat.ne_of_lt la) (Nat.ne_of_lt (Nat.lt_succ_of_lt lb)) (Nat.ne_of_lt (Nat.lt_of_lt_of_le lc (Nat.le_add_right _ _))), ⟨hz, hTI, ⟨_, _, _, hTO⟩, ⟨_, h1, rfl, rfl⟩, ⟨_, h2, rfl, rfl⟩, ⟨_, h3, rfl, rfl⟩⟩, fresh6, q⟩
section
variable {K : PySem.W.Frag} {tt : TT} {te : TE} {vs : List Nat} {σ : L2.St} {H1 : Hp} {D : Addr} {Qd : Hp → Prop}
theorem lc_zip3 {a b c : Addr} {xs ys us : List V} {n i j k : Nat} (p : Nat → Bool) (d : Nat → PyData) (lx : xs.length = n) (ly : ys.length = n) (lu : us.length = n) (nD : H1 D = none) (hSa : SqT K H1 a xs) (hSb : SqT K H1 b ys) (hSc : SqT K H1 c us)
    (hw : ∀ v1 v2 v3, wipe ((((wipe σ vs).set i (some v1)).set j (some v2)).set k (some v3)) vs = wipe σ vs)
    (ht : ∀ t x y u, xs[t]? = some x → ys[t]? = some y → us[t]? = some u → ∀ H' (Q : Bool → Hp → Prop), Same H1 H' → (∀ H2, Same H' H2 → Q (p t) H2) → tt ((((wipe σ vs).set i (some x)).set j (some y)).set k (some u)) H' Q)
    (he : ∀ t x y u, xs[t]? = some x → ys[t]? = some y → us[t]? = some u → ∀ H' (Q : VK), Same H1 H' → (∀ H2 y, Same H' H2 → Dp K H2 y (d t) → Q y H2) → te ((((wipe σ vs).set i (some x)).set j (some y)).set k (some u)) H' Q)
    (ho : ∀ o, only (d o) = true) (hl : n ≤ 1000)
    (hd : ∀ H' zs, Same H1 H' → H' D = some (.lst zs) → DpAll K H' zs (((List.range n).filter p).map d) → Qd H') :
    LcGoal (Itz3 K a b c) (gTup K 3 (gCons (gName i) (gCons (gName j) (gCons (gName k) gNil)))) tt te vs σ H1 D Qd := by
  have oa : ∀ l : List Nat, onlyAll (l.map d) = true := fun l => onlyAll_map ho l
  refine lc_by n (fun t H' => ∃ zs, Same H1 H' ∧ H' D = some (.lst zs) ∧ DpAll K H' zs (((List.range t).filter p).map d) ∧ zs.length ≤ t) ?_ ?_ ?_ ?_ ?_
  · exact ⟨[], same_upd nD, upd_same, .nil, Nat.le_refl _⟩
  · rintro t H' ht' ⟨zs, s, _⟩
    exact ⟨_, _, _, _, _, _, Same.tup s hSa, Same.tup s hSb, Same.tup s hSc, List.getElem?_eq_getElem (by omega), List.getElem?_eq_getElem (by omega), List.getElem?_eq_getElem (by omega)⟩
  · rintro H' ⟨zs, s, _⟩
    exact ⟨_, _, _, Same.tup s hSa, Same.tup s hSb, Same.tup s hSc, lx, ly, lu⟩
  · rintro t v H' H'' ht' ⟨zs, s, eD, dA, ln⟩ yl
    obtain ⟨T, x, y, u, rfl, nT, rfl, h1, h2, h3⟩ := yl
    have h1 := h1 _ (Same.tup s hSa)
    have h2 := h2 _ (Same.tup s hSb)
    have h3 := h3 _ (Same.tup s hSc)
    have sT := same_upd (o := .tup [x, y, u]) nT
    have tk : List.range (t + 1) = List.range t ++ [t] := List.range_succ
    refine ⟨T, _, rfl, SqT.of upd_same, rfl, x, _, rfl, y, _, rfl, u, _, rfl, rfl, hw _ _ _, ht t x y u h1 h2 h3 _ _ (s.trans sT) fun H2 s2 => ?_⟩
    have sT2 := sT.trans s2
    by_cases hp : p t = true
    · rw [if_pos hp]
      refine he t x y u h1 h2 h3 _ _ (s.trans sT2) fun H3 z s3 dz => ?_
      have e3 := s3 _ _ (sT2 _ _ eD)
      have kt : KT K H3 (upd H3 D (.lst (zs ++ [z]))) := kt_lst e3
      refine ⟨zs, e3, small1000 (by omega), zs ++ [z], ?_, upd_same, ?_, ?_⟩
      · intro b o e
        rw [upd_ne (ne_of_none e nD)]
        exact s3 _ _ (sT2 _ _ (s _ _ e))
      · rw [tk, List.filter_append, List.map_append, List.filter_cons_of_pos hp]
        exact DpAll.append (DpAll.kt kt (DpAll.same (sT2.trans s3) dA) (oa _)) (.cons (Dp.kt kt dz (ho _)) .nil)
      · rw [List.length_append, List.length_singleton]
        omega
    · rw [if_neg hp]
      refine ⟨zs, s.trans sT2, sT2 _ _ eD, ?_, by omega⟩
      rw [tk, List.filter_append, List.filter_cons_of_neg hp, List.filter_nil, List.append_nil]
      exact DpAll.same sT2 dA
  · rintro H' ⟨zs, s, eD, dA, _⟩
    exact hd H' zs s eD dA
end
theorem range_filter {α : Type} (z : α) (f : α → Bool) (l : List α) : ((List.range l.length).filter fun t => f (l.getD t z)).map (fun t => l.getD t z) = l.filter f := by
  have e : (List.range l.length).map (fun t => l.getD t z) = l := by
    refine List.ext_getElem (by simp) fun n h1 h2 => ?_
    rw [List.length_map, List.length_range] at h1
    simp [List.getD_eq_getElem?_getD, h1]
  have h := List.filter_map (f := fun t => l.getD t z) (p := f) (l := List.range l.length)
  rw [e] at h
  rw [h]
  rfl
theorem zip3K (K : PySem.W.Frag) {X : Cx} {e e2 e3 : Expr} {ta : L2.TA} {p pos tpos : Pos} {elts : List Expr} {kk : Nat} (hg : Gl X "zip") (hm : X.mg "zip" = none) (ha : PA X [e, e2, e3] ta) (h : X.K = K := by rfl)
    (hs : starEach [e, e2, e3] X.env = (false, eval e X.env) :: starEach [e2, e3] X.env := by rfl) (hpl : (backTo pos (starEach [e2, e3] X.env)).any (·.1) = false := by rfl) :
    PI X (.Tuple elts kk tpos) (.Call (.Name "zip" p) [e, e2, e3] [] pos) (iZip3 K ta) := h ▸ pi_zip3 hg hm ha hs hpl
end TL
namespace TL
open PySem PySem.Spec PyProof.Rows L2
/-! ### comprehensions of up to 5000 elements -/
theorem small5000 {n : Nat} (h : n ≤ 5000) : n < sizeLine := Nat.lt_of_le_of_lt h (by decide)
theorem lc_genB {K : PySem.W.Frag} {J : It} {g : TG} {tt : TT} {te : TE} {vs : List Nat} {σ : L2.St} {H1 : Hp} {D : Addr} {Qd : Hp → Prop} {β : Type}
    (bs : List β) (σb : β → L2.St) (p : β → Bool) (d : β → PyData) (nD : H1 D = none)
    (hgo : ∀ j H', j < bs.length → Same H1 H' → J.go j H') (hst : ∀ H', Same H1 H' → J.stop bs.length H')
    (hg : ∀ j b x H' H'', bs[j]? = some b → Same H1 H' → J.yld j H' x H'' → H'' = H' ∧ ∀ Q : L2.St → Hp → Prop, Q (σb b) H' → g x (wipe σ vs) H' Q)
    (hw : ∀ b, wipe (σb b) vs = wipe σ vs)
    (ht : ∀ b ∈ bs, ∀ H' (Q : Bool → Hp → Prop), Same H1 H' → (∀ H2, Same H' H2 → Q (p b) H2) → tt (σb b) H' Q)
    (he : ∀ b ∈ bs, p b = true → ∀ H' (Q : VK), Same H1 H' → (∀ H2 y, Same H' H2 → Dp K H2 y (d b) → Q y H2) → te (σb b) H' Q)
    (ho : ∀ b, only (d b) = true) (hl : bs.length ≤ 5000)
    (hd : ∀ H' ys, Same H1 H' → H' D = some (.lst ys) → DpAll K H' ys ((bs.filter p).map d) → Qd H') : LcGoal J g tt te vs σ H1 D Qd := by
  have oa : ∀ l : List β, onlyAll (l.map d) = true := by
    intro l
    induction l with
    | nil => simp [onlyAll]
    | cons b l ih => simp [onlyAll, ho b, ih]
  refine lc_by bs.length (fun i H' => ∃ ys, Same H1 H' ∧ H' D = some (.lst ys) ∧ DpAll K H' ys (((bs.take i).filter p).map d) ∧ ys.length ≤ i) ?_ ?_ ?_ ?_ ?_
  · exact ⟨[], same_upd nD, upd_same, .nil, Nat.le_refl _⟩
  · rintro i H' hi ⟨ys, s, _⟩
    exact hgo i H' hi s
  · rintro H' ⟨ys, s, _⟩
    exact hst H' s
  · rintro i x H' H'' hi ⟨ys, s, eD, a, ln⟩ y
    obtain ⟨rfl, k⟩ := hg i bs[i] x H' H'' (List.getElem?_eq_getElem hi) s y
    have mb : bs[i] ∈ bs := List.getElem_mem hi
    have tk : bs.take (i + 1) = bs.take i ++ [bs[i]] := by rw [List.take_add_one, List.getElem?_eq_getElem hi]; rfl
    refine k _ ⟨hw _, ht _ mb _ _ s fun H2 s2 => ?_⟩
    by_cases hp : p bs[i] = true
    · rw [if_pos hp]
      refine he _ mb hp _ _ (s.trans s2) fun H3 z s3 dz => ?_
      have e3 := s3 _ _ (s2 _ _ eD)
      have kt : KT K H3 (upd H3 D (.lst (ys ++ [z]))) := kt_lst e3
      refine ⟨ys, e3, small5000 (by omega), ys ++ [z], ?_, upd_same, ?_, ?_⟩
      · intro b o e
        rw [upd_ne (ne_of_none e nD)]
        exact s3 _ _ (s2 _ _ (s _ _ e))
      · rw [tk, List.filter_append, List.map_append, List.filter_cons_of_pos hp]
        exact DpAll.append (DpAll.kt kt (DpAll.same (s2.trans s3) a) (oa _)) (.cons (Dp.kt kt dz (ho _)) .nil)
      · rw [List.length_append, List.length_singleton]
        omega
    · rw [if_neg hp]
      refine ⟨ys, s.trans s2, s2 _ _ eD, ?_, by omega⟩
      rw [tk, List.filter_append, List.filter_cons_of_neg hp, List.filter_nil, List.append_nil]
      exact DpAll.same s2 a
  · rintro H' ⟨ys, s, eD, a, _⟩
    rw [List.take_length] at a
    exact hd H' ys s eD a
section
variable {K : PySem.W.Frag} {tt : TT} {te : TE} {vs : List Nat} {σ : L2.St} {H1 : Hp} {D : Addr} {Qd : Hp → Prop}
theorem lc_listDB {a : Addr} {xs : List V} {β : Type} {bs : List β} {e : β → PyData} {i : Nat} (p : β → Bool) (d : β → PyData) (nD : H1 D = none) (hS : SqL K H1 a xs) (hA : DpAll K H1 xs (bs.map e))
    (hw : ∀ v, wipe ((wipe σ vs).set i (some v)) vs = wipe σ vs)
    (ht : ∀ x b, b ∈ bs → Dp K H1 x (e b) → ∀ H' (Q : Bool → Hp → Prop), Same H1 H' → (∀ H2, Same H' H2 → Q (p b) H2) → tt ((wipe σ vs).set i (some x)) H' Q)
    (he : ∀ x b, b ∈ bs → p b = true → Dp K H1 x (e b) → ∀ H' (Q : VK), Same H1 H' → (∀ H2 y, Same H' H2 → Dp K H2 y (d b) → Q y H2) → te ((wipe σ vs).set i (some x)) H' Q)
    (ho : ∀ o, only (d o) = true) (hl : bs.length ≤ 5000)
    (hd : ∀ H' ys, Same H1 H' → H' D = some (.lst ys) → DpAll K H' ys ((bs.filter p).map d) → Qd H') : LcGoal (Itl K a) (gName i) tt te vs σ H1 D Qd := by
  have xl : xs.length = bs.length := by rw [DpAll.length hA, List.length_map]
  have mem : ∀ q ∈ xs.zip bs, q.2 ∈ bs ∧ Dp K H1 q.1 (e q.2) := fun q hq => by
    obtain ⟨k, hk⟩ := List.getElem?_of_mem hq
    obtain ⟨h1, h2⟩ := List.getElem?_zip_eq_some.mp hk
    obtain ⟨z, hz, dz⟩ := DpAll.get hA h1
    rw [List.getElem?_map, h2] at hz
    cases hz
    exact ⟨List.mem_of_getElem? h2, dz⟩
  have zl : (xs.zip bs).length = xs.length := by rw [List.length_zip]; omega
  refine lc_genB (K := K) (xs.zip bs) (fun q => (wipe σ vs).set i (some q.1)) (fun q => p q.2) (fun q => d q.2) nD (fun j H' hj s => ⟨_, _, s.seq hS, List.getElem?_eq_getElem (by omega)⟩)
    (fun H' s => ⟨_, s.seq hS, by omega⟩) (fun j b x H' H'' hb s y => ?_) (fun b => hw _) (fun b hb H' Q s hQ => ht _ _ (mem b hb).1 (mem b hb).2 H' Q s hQ) (fun b hb hp H' Q s hQ => he _ _ (mem b hb).1 hp (mem b hb).2 H' Q s hQ) (fun o => ho _) (by omega)
    (fun H' ys s eD dy => hd H' ys s eD ?_)
  · obtain ⟨e1, hy⟩ := y
    have h1 := hy _ (s.seq hS)
    obtain ⟨h2, h3⟩ := List.getElem?_zip_eq_some.mp hb
    rw [h2] at h1
    cases h1
    exact ⟨e1, fun Q q => q⟩
  · rw [zip_filter xl] at dy
    exact dy
end
end TL
namespace TL
open PySem PySem.Spec PyProof.Rows L2
section
variable {X : Cx} {k : Nat} {ps : List Str} {sp : Sp} {x : Str} {p pos : Pos}
/-- a def of the text called with nothing -/
theorem pe_own0 (O : Own X.prog X.w X.K X.mg X.base x k ps sp) (hr : Room k X.A) (hg : Gl X x) (hdb : (x == ("__debug__" : Str)) = false := by decide) :
    PE X (.Call (.Name x p) [] [] pos) (tCall sp [] E0 tNil) := by
  obtain ⟨f, fd, F, hm, hk, hb⟩ := O.ex
  exact pe_call0 F hr hg hm hk hb .nil pass0 hdb
end
end TL
namespace TL
open PySem PySem.Spec PyProof.Rows L2
def topS (i : Nat) : Stmt := PySem.Challenge.pw_treelamps_k73_whole_texts_there_and_back.main.body.getD i (.Pass ⟨0, 0, 0, 0⟩)
def clsS : Stmt → Nat → Stmt
  | .ClassDef _ _ _ body _ _ _ _ _ _ _, j => body.getD j (.Pass ⟨0, 0, 0, 0⟩)
  | s, _ => s
abbrev sBadtextInit : Stmt := clsS (topS 8) 0
abbrev nBadtextInit : List Str := ["self", "index"]
theorem scBadtextInit : FnScope nBadtextInit ["self", "index"] (defScope sBadtextInit) :=
  ⟨rfl, rfl, rfl, by decide +kernel, rfl, by decide +kernel, by decide +kernel⟩
abbrev sIsNumber : Stmt := topS 10
abbrev nIsNumber : List Str := ["value"]
theorem scIsNumber : FnScope nIsNumber ["value"] (defScope sIsNumber) :=
  ⟨rfl, rfl, rfl, by decide +kernel, rfl, by decide +kernel, by decide +kernel⟩
abbrev sIsPair : Stmt := topS 11
abbrev nIsPair : List Str := ["value"]
theorem scIsPair : FnScope nIsPair ["value"] (defScope sIsPair) :=
  ⟨rfl, rfl, rfl, by decide +kernel, rfl, by decide +kernel, by decide +kernel⟩
abbrev sIsVertex : Stmt := topS 12
abbrev nIsVertex : List Str := ["n", "value"]
theorem scIsVertex : FnScope nIsVertex ["n", "value"] (defScope sIsVertex) :=
  ⟨rfl, rfl, rfl, by decide +kernel, rfl, by decide +kernel, by decide +kernel⟩
abbrev sIsEdge : Stmt := topS 13
abbrev nIsEdge : List Str := ["n", "value", "a", "b"]
theorem scIsEdge : FnScope nIsEdge ["n", "value"] (defScope sIsEdge) :=
  ⟨rfl, rfl, rfl, by decide +kernel, rfl, by decide +kernel, by decide +kernel⟩
abbrev sMerged : Stmt := topS 14
abbrev nMerged : List Str := ["labels", "a", "b", "old", "new", "vertex"]
theorem scMerged : FnScope nMerged ["labels", "a", "b"] (defScope sMerged) :=
  ⟨rfl, rfl, rfl, by decide +kernel, rfl, by decide +kernel, by decide +kernel⟩
abbrev sEdgesError : Stmt := topS 15
abbrev nEdgesError : List Str := ["n", "edges", "labels", "index", "edge", "a", "b", "vertex"]
theorem scEdgesError : FnScope nEdgesError ["n", "edges"] (defScope sEdgesError) :=
  ⟨rfl, rfl, rfl, by decide +kernel, rfl, by decide +kernel, by decide +kernel⟩
abbrev sNeighboursOf : Stmt := topS 16
abbrev nNeighboursOf : List Str := ["forest", "vertex", "n", "edges", "lower", "upper", "a", "b"]
theorem scNeighboursOf : FnScope nNeighboursOf ["forest", "vertex"] (defScope sNeighboursOf) :=
  ⟨rfl, rfl, rfl, by decide +kernel, rfl, by decide +kernel, by decide +kernel⟩
abbrev sListText : Stmt := topS 19
abbrev nListText : List Str := ["words"]
theorem scListText : FnScope nListText ["words"] (defScope sListText) :=
  ⟨rfl, rfl, rfl, by decide +kernel, rfl, by decide +kernel, by decide +kernel⟩
abbrev sSlidesText : Stmt := topS 20
abbrev nSlidesText : List Str := ["slides", "u", "v"]
theorem scSlidesText : FnScope nSlidesText ["slides"] (defScope sSlidesText) :=
  ⟨rfl, rfl, rfl, by decide +kernel, rfl, by decide +kernel, by decide +kernel⟩
abbrev sForestText : Stmt := topS 21
abbrev nForestText : List Str := ["forest", "n", "edges", "a", "b"]
theorem scForestText : FnScope nForestText ["forest"] (defScope sForestText) :=
  ⟨rfl, rfl, rfl, by decide +kernel, rfl, by decide +kernel, by decide +kernel⟩
abbrev sNumberIn : Stmt := topS 22
abbrev nNumberIn : List Str := ["word"]
theorem scNumberIn : FnScope nNumberIn ["word"] (defScope sNumberIn) :=
  ⟨rfl, rfl, rfl, by decide +kernel, rfl, by decide +kernel, by decide +kernel⟩
abbrev sPairIn : Stmt := topS 23
abbrev nPairIn : List Str := ["word", "sign", "first", "found", "second", "pair"]
theorem scPairIn : FnScope nPairIn ["word", "sign"] (defScope sPairIn) :=
  ⟨rfl, rfl, rfl, by decide +kernel, rfl, by decide +kernel, by decide +kernel⟩
abbrev sWordsOf : Stmt := topS 24
abbrev nWordsOf : List Str := ["text"]
theorem scWordsOf : FnScope nWordsOf ["text"] (defScope sWordsOf) :=
  ⟨rfl, rfl, rfl, by decide +kernel, rfl, by decide +kernel, by decide +kernel⟩
abbrev sSizeIn : Stmt := topS 25
abbrev nSizeIn : List Str := ["word", "n"]
theorem scSizeIn : FnScope nSizeIn ["word"] (defScope sSizeIn) :=
  ⟨rfl, rfl, rfl, by decide +kernel, rfl, by decide +kernel, by decide +kernel⟩
abbrev sParseForest : Stmt := topS 26
abbrev nParseForest : List Str := ["text", "words", "n", "edges", "error", "word"]
theorem scParseForest : FnScope nParseForest ["text"] (defScope sParseForest) :=
  ⟨rfl, rfl, rfl, by decide +kernel, rfl, by decide +kernel, by decide +kernel⟩
abbrev sParseSlides : Stmt := topS 27
abbrev nParseSlides : List Str := ["text", "words", "pairs", "word"]
theorem scParseSlides : FnScope nParseSlides ["text"] (defScope sParseSlides) :=
  ⟨rfl, rfl, rfl, by decide +kernel, rfl, by decide +kernel, by decide +kernel⟩
abbrev sSideBySide : Stmt := topS 29
abbrev nSideBySide : List Str := ["first", "second", "n", "edges", "more", "others", "a", "b"]
theorem scSideBySide : FnScope nSideBySide ["first", "second"] (defScope sSideBySide) :=
  ⟨rfl, rfl, rfl, by decide +kernel, rfl, by decide +kernel, by decide +kernel⟩
abbrev sBlockingLamps : Stmt := topS 31
abbrev nBlockingLamps : List Str := ["forest", "setting", "u", "v", "vertex"]
theorem scBlockingLamps : FnScope nBlockingLamps ["forest", "setting", "u", "v"] (defScope sBlockingLamps) :=
  ⟨rfl, rfl, rfl, by decide +kernel, rfl, by decide +kernel, by decide +kernel⟩
abbrev sCheckLamp : Stmt := topS 32
abbrev nCheckLamp : List Str := ["setting", "value"]
theorem scCheckLamp : FnScope nCheckLamp ["setting", "value"] (defScope sCheckLamp) :=
  ⟨rfl, rfl, rfl, by decide +kernel, rfl, by decide +kernel, by decide +kernel⟩
abbrev sSlideLamp : Stmt := topS 33
abbrev nSlideLamp : List Str := ["forest", "setting", "u", "v", "blocking", "lamp"]
theorem scSlideLamp : FnScope nSlideLamp ["forest", "setting", "u", "v"] (defScope sSlideLamp) :=
  ⟨rfl, rfl, rfl, by decide +kernel, rfl, by decide +kernel, by decide +kernel⟩
abbrev sPossibleSlides : Stmt := topS 34
abbrev nPossibleSlides : List Str := ["forest", "setting", "steps", "u", "v"]
theorem scPossibleSlides : FnScope nPossibleSlides ["forest", "setting"] (defScope sPossibleSlides) :=
  ⟨rfl, rfl, rfl, by decide +kernel, rfl, by decide +kernel, by decide +kernel⟩
abbrev sIsPossible : Stmt := topS 35
abbrev nIsPossible : List Str := ["forest", "setting", "value", "u", "v"]
theorem scIsPossible : FnScope nIsPossible ["forest", "setting", "value"] (defScope sIsPossible) :=
  ⟨rfl, rfl, rfl, by decide +kernel, rfl, by decide +kernel, by decide +kernel⟩
abbrev sFollow : Stmt := topS 36
abbrev nFollow : List Str := ["forest", "setting", "slides", "lamps", "index", "item", "u", "v"]
theorem scFollow : FnScope nFollow ["forest", "setting", "slides"] (defScope sFollow) :=
  ⟨rfl, rfl, rfl, by decide +kernel, rfl, by decide +kernel, by decide +kernel⟩
abbrev sBackward : Stmt := topS 37
abbrev nBackward : List Str := ["slides", "u", "v"]
theorem scBackward : FnScope nBackward ["slides"] (defScope sBackward) :=
  ⟨rfl, rfl, rfl, by decide +kernel, rfl, by decide +kernel, by decide +kernel⟩
abbrev sLDeck : Stmt := topS 39
abbrev nLDeck : List Str := ["_law_script", "_law_cell"]
theorem scLDeck : FnScope nLDeck ["_law_script"] (defScope sLDeck) :=
  ⟨rfl, rfl, rfl, by decide +kernel, rfl, by decide +kernel, by decide +kernel⟩
abbrev sLDraw : Stmt := topS 40
abbrev nLDraw : List Str := ["_law_deck_here", "_law_many", "_law_cell", "_law_place"]
theorem scLDraw : FnScope nLDraw ["_law_deck_here", "_law_many"] (defScope sLDraw) :=
  ⟨rfl, rfl, rfl, by decide +kernel, rfl, by decide +kernel, by decide +kernel⟩
abbrev sLSame : Stmt := topS 41
abbrev nLSame : List Str := ["_law_found", "_law_due", "_law_one", "_law_other"]
theorem scLSame : FnScope nLSame ["_law_found", "_law_due"] (defScope sLSame) :=
  ⟨rfl, rfl, rfl, by decide +kernel, rfl, by decide +kernel, by decide +kernel⟩
abbrev sLForest : Stmt := topS 42
abbrev nLForest : List Str := ["_law_deck_here", "_law_most", "_law_n", "_law_left", "_law_order", "_law_edges", "_law_lacks", "_law_way", "_law_k", "_law_other"]
theorem scLForest : FnScope nLForest ["_law_deck_here", "_law_most"] (defScope sLForest) :=
  ⟨rfl, rfl, rfl, by decide +kernel, rfl, by decide +kernel, by decide +kernel⟩
abbrev sLNear : Stmt := topS 43
abbrev nLNear : List Str := ["_law_forest_here", "_law_vertex", "_law_found", "_law_one", "_law_two"]
theorem scLNear : FnScope nLNear ["_law_forest_here", "_law_vertex"] (defScope sLNear) :=
  ⟨rfl, rfl, rfl, by decide +kernel, rfl, by decide +kernel, by decide +kernel⟩
abbrev sLSetting : Stmt := topS 44
abbrev nLSetting : List Str := ["_law_deck_here", "_law_forest_here", "_law_left", "_law_lamps", "_law_share", "_law_vertex", "_law_near_here", "_law_one"]
theorem scLSetting : FnScope nLSetting ["_law_deck_here", "_law_forest_here"] (defScope sLSetting) :=
  ⟨rfl, rfl, rfl, by decide +kernel, rfl, by decide +kernel, by decide +kernel⟩
abbrev sLSlides : Stmt := topS 45
abbrev nLSlides : List Str := ["_law_forest_here", "_law_lamps", "_law_found", "_law_u", "_law_v", "_law_one"]
theorem scLSlides : FnScope nLSlides ["_law_forest_here", "_law_lamps"] (defScope sLSlides) :=
  ⟨rfl, rfl, rfl, by decide +kernel, rfl, by decide +kernel, by decide +kernel⟩
abbrev sLMoved : Stmt := topS 46
abbrev nLMoved : List Str := ["_law_lamps", "_law_u", "_law_v", "_law_one"]
theorem scLMoved : FnScope nLMoved ["_law_lamps", "_law_u", "_law_v"] (defScope sLMoved) :=
  ⟨rfl, rfl, rfl, by decide +kernel, rfl, by decide +kernel, by decide +kernel⟩
abbrev sLBent : Stmt := topS 47
abbrev nLBent : List Str := ["_law_deck_here", "_law_text", "_law_words_here", "_law_at", "_law_way", "_law_place", "_law_sign"]
theorem scLBent : FnScope nLBent ["_law_deck_here", "_law_text"] (defScope sLBent) :=
  ⟨rfl, rfl, rfl, by decide +kernel, rfl, by decide +kernel, by decide +kernel⟩
abbrev sLSmall : Stmt := topS 48
abbrev nLSmall : List Str := ["_law_pairs", "_law_found", "_law_pair"]
theorem scLSmall : FnScope nLSmall [] (defScope sLSmall) :=
  ⟨rfl, rfl, rfl, by decide +kernel, rfl, by decide +kernel, by decide +kernel⟩
abbrev sLWords : Stmt := topS 49
abbrev nLWords : List Str := ["_law_text", "_law_word"]
theorem scLWords : FnScope nLWords ["_law_text"] (defScope sLWords) :=
  ⟨rfl, rfl, rfl, by decide +kernel, rfl, by decide +kernel, by decide +kernel⟩
abbrev sLBesideRight : Stmt := topS 50
abbrev nLBesideRight : List Str := ["_law_first", "_law_second", "_law_words_here", "_law_word", "_law_numbers", "_law_due", "_law_part"]
theorem scLBesideRight : FnScope nLBesideRight ["_law_first", "_law_second"] (defScope sLBesideRight) :=
  ⟨rfl, rfl, rfl, by decide +kernel, rfl, by decide +kernel, by decide +kernel⟩
abbrev sLSlidesRight : Stmt := topS 51
abbrev nLSlidesRight : List Str := ["_law_deck_here", "_law_forest_here", "_law_setting_here", "_law_walked", "_law_slides_here", "_law_turn", "_law_some", "_law_u", "_law_v", "_law_text", "_law_words_here", "_law_back", "_law_word"]
theorem scLSlidesRight : FnScope nLSlidesRight ["_law_deck_here", "_law_forest_here"] (defScope sLSlidesRight) :=
  ⟨rfl, rfl, rfl, by decide +kernel, rfl, by decide +kernel, by decide +kernel⟩
abbrev sLAcceptedRight : Stmt := topS 52
abbrev nLAcceptedRight : List Str := ["_law_text", "_law_told"]
theorem scLAcceptedRight : FnScope nLAcceptedRight ["_law_text"] (defScope sLAcceptedRight) :=
  ⟨rfl, rfl, rfl, by decide +kernel, rfl, by decide +kernel, by decide +kernel⟩
abbrev sLaw : Stmt := topS 53
abbrev nLaw : List Str := ["_law_script", "_law_deck_here", "_law_forests", "_law_forest_here", "_law_k", "_law_first", "_law_text", "_law_row", "_law_turn"]
theorem scLaw : FnScope nLaw ["_law_script"] (defScope sLaw) :=
  ⟨rfl, rfl, rfl, by decide +kernel, rfl, by decide +kernel, by decide +kernel⟩
section
variable {P : Program} {w : World} {K : PySem.W.Frag} {mg : Str → Option Value} {base : Heap}
/-! ### the deck and its draws -/
def spLDeck (K : PySem.W.Frag) : Sp := fun vs H Q _ => ∃ (a : Addr) (ns : List Int), vs = [.ref a] ∧
  SqL K H a (ns.map V.int) ∧ ns.length ≤ 63 ∧ ∀ H' d l, Same H H' → Deck H' d l 0 → Q (.ref d) H'
theorem ok_LDeck {f : Addr} {fd : FuncData} {k : Nat} (F : Fun K "_law_deck" "_law_deck" sLDeck f fd) (m_abs : mg "abs" = none) :
    FnOk P w K mg base CX0 (k + 1) f fd ["_law_script"] (spLDeck K) := by
  refine F.ok scLDeck (fun vs H Q E h => ?_) (fun cdv A outer s H vs Q E hr h => ?_)
  · obtain ⟨a, ns, rfl, _⟩ := h
    rfl
  · obtain ⟨a, ns, rfl, hS, hlen, q⟩ := h
    refine ⟨_, (pss_one (ps_ret (pe_lst (pa_cons (pe_lc (own := [("_law_cell", 1)]) (g := (gName 1)) (tt := tYes) rfl scLDeck.nd (piLK K (pe_slice (slLK K) (pv 0) po_none (po_some pe_int)))
      (blkOk_by (own := [("_law_cell", 1)]) (N := nLDeck) (sc := (defScope sLDeck)) (by decide +kernel))
      (fun _ _ _ _ _ => (pg_name (i := 1) scLDeck.nd rfl (Or.inl rfl))) (fun _ _ _ _ _ => pts_nil)
      (fun _ _ _ _ _ => (pe_callB call_abs (by rfl) m_abs (by decide +kernel) (pa_cons (pv 1) pa_nil)))) (pa_cons pe_int pa_nil))))), ?_⟩
    refine ⟨.ref a, rfl, 63, rfl, a, ns.map V.int, rfl, hS, fun c nc => ?_⟩
    rw [cut63 hlen]
    refine ⟨c, rfl, ⟨_, SqL.of upd_same⟩, fun D nD => ?_⟩
    have s1 : Same H (upd H c (.lst (ns.map V.int))) := same_upd nc
    have s2 : Same (upd H c (.lst (ns.map V.int))) (upd (upd H c (.lst (ns.map V.int))) D (.lst [])) := same_upd nD
    have ncD : c ≠ D := ne_of_none (upd_same) nD
    have nHD : H D = none := s1.free nD
    refine lc_list (K := K) (a := c) (xs := ns.map V.int) (fun i H' => Same H H' ∧ H' c = some (.lst (ns.map V.int)) ∧
      H' D = some (.lst (((ns.take i).map fun z => if z < 0 then -z else z).map V.int))) ?_ ?_ ?_ ?_
    · exact ⟨s1.trans s2, by rw [upd_ne ncD, upd_same], by rw [upd_same]; rfl⟩
    · exact fun i H' _ p => SqL.of p.2.1
    · rintro i x H' hx ⟨p1, p2, p3⟩
      rw [List.getElem?_map] at hx
      obtain ⟨z, hz, rfl⟩ := Option.map_eq_some_iff.mp hx
      obtain ⟨hi, _⟩ := List.getElem?_eq_some_iff.mp hz
      refine ⟨rfl, yesI (iteT ?_)⟩
      refine ⟨.int z, rfl, z, rfl, _, p3, ?_, ?_, ?_, ?_⟩
      · rw [List.length_map, List.length_map, List.length_take]
        exact small1000 (by omega)
      · exact fun b o e => by
          have nb : b ≠ D := ne_of_none e nHD
          rw [upd_ne nb]
          exact p1 b o e
      · rw [upd_ne ncD]
        exact p2
      · rw [upd_same, List.take_add_one, hz, List.map_append, List.map_append]
        rfl
    · rintro H' ⟨p1, p2, p3⟩
      rw [List.length_map, List.take_length] at p3
      refine ⟨by show 2 ≤ sizeLine; decide, fun d nd => ?_⟩
      have ndD : D ≠ d := ne_of_none p3 nd
      refine q _ d D (p1.trans (same_upd nd)) ⟨0, (ns.map fun z => if z < 0 then -z else z), Nat.le_refl _, ?_, ?_, ?_, ?_⟩
      · rw [upd_same]
        rfl
      · rw [upd_ne ndD]
        exact p3
      · intro z hz
        obtain ⟨y, _, rfl⟩ := List.mem_map.mp hz
        show 0 ≤ if y < 0 then -y else y
        split <;> omega
      · rw [List.length_map]
        exact hlen

def spLDraw : Sp := fun vs H Q _ => ∃ (d l : Addr) (n : Nat) (m : Int), vs = [.ref d, .int m] ∧ 0 < m ∧ m < 1000000 ∧ Deck H d l n ∧ n < 1000000 ∧
  ∀ H' r, 0 ≤ r → r < m → Fm d l H H' → Deck H' d l (n + 1) → Q (.int r) H'
theorem deck_put {H : Hp} {d l : Addr} {n c : Nat} {ns ns' : List Int} {H1 : Hp} (hc : c ≤ n) (h1 : H1 d = some (.lst [.ref l, .int (c : Int)])) (h2 : H1 l = some (.lst (ns'.map V.int)))
    (h3 : ∀ z ∈ ns', 0 ≤ z) (h4 : ns'.length ≤ 63) : Deck H1 d l n := ⟨c, ns', hc, h1, h2, h3, h4⟩
theorem mod_in {x m : Int} (h : 0 < m) : 0 ≤ x % m ∧ x % m < m := ⟨Int.emod_nonneg x (by omega), Int.emod_lt_of_pos x h⟩
theorem pow_in {x : Int} {c : Nat} (h : c < 1000001) : ((x % 2147483587 + 7919 * (c : Int) + 1)).natAbs < 2 ^ 64 := by
  have := mod_in (x := x) (m := 2147483587) (by decide)
  omega
theorem ok_LDraw {f : Addr} {fd : FuncData} {k : Nat} (F : Fun K "_law_draw" "_law_draw" sLDraw f fd) (m_len : mg "len" = none) :
    FnOk P w K mg base CX0 (k + 1) f fd ["_law_deck_here", "_law_many"] spLDraw := by
  refine F.ok scLDraw (fun vs H Q E h => ?_) (fun cdv A outer s H vs Q E hr h => ?_)
  · obtain ⟨d, l, n, m, rfl, _⟩ := h
    rfl
  · obtain ⟨d, l, n, m, rfl, m0, m1, hD, hn, q⟩ := h
    refine ⟨_, (pss_cons (ps_asg (pe_op op_add (pe_ix (ixLK K) (pv 0) pe_int (fun _ _ => rfl)) pe_int) (pg_sub (pv 0) pe_int set_list))
    (pss_cons (ps_set (i := 2) scLDraw.nd rfl (.inl rfl) pe_int)
    (pss_cons (ps_set (i := 3) scLDraw.nd rfl (.inl rfl) (pe_un un_neg pe_int))
    (pss_cons (ps_if (pt_cmpR op_gt (pe_callB (lenK K) (by rfl) m_len (by decide +kernel) (pa_cons (pe_ix (ixLK K) (pv 0) pe_int (fun _ _ => rfl)) pa_nil)) pe_int (nomark _)) (pss_cons (ps_set (i := 3) scLDraw.nd rfl (.inl rfl) (pe_op op_mod (pe_ix (ixLK K) (pv 0) pe_int (fun _ _ => rfl)) (pe_callB (lenK K) (by rfl) m_len (by decide +kernel) (pa_cons (pe_ix (ixLK K) (pv 0) pe_int (fun _ _ => rfl)) pa_nil))))
    (pss_one (ps_set (i := 2) scLDraw.nd rfl (.inl rfl) (pe_ix (ixLK K) (pe_ix (ixLK K) (pv 0) pe_int (fun _ _ => rfl)) (pv 3) (fun _ _ => rfl))))) pss_nil)
    (pss_cons (ps_if (pt_cmpR op_ge (pv 2) (pe_op op_pow pe_int pe_int) (nomark _)) (pss_cons (ps_asg (pe_op op_fdiv (pv 2) (pv 1)) (pg_sub (pe_ix (ixLK K) (pv 0) pe_int (fun _ _ => rfl)) (pv 3) set_list))
    (pss_one (ps_ret (pe_op op_mod (pv 2) (pv 1))))) pss_nil)
    (pss_one (ps_ret (pe_op op_mod (pe_op op_mod (pe_op op_pow (pe_op op_add (pe_op op_add (pe_op op_mod (pv 2) pe_int) (pe_op op_mul pe_int (pe_ix (ixLK K) (pv 0) pe_int (fun _ _ => rfl)))) pe_int) pe_int) pe_int) (pv 1))))))))), ?_⟩
    have nel := hD.ne
    obtain ⟨c, ns, hc, h1, h2, h3, h4⟩ := hD
    -- deck[1] = deck[1] + 1
    refine ⟨.ref d, rfl, d, _, 1, .int (c : Int), rfl, rfl, SqL.of h1, atI_nat (j := 1) rfl, (c : Int), 1, rfl, rfl,
      .ref d, rfl, d, _, 1, 1, rfl, rfl, h1, rfl, ?_⟩
    have e1 : (upd H d (.lst ([V.ref l, V.int (c : Int)].set 1 (.int ((c : Int) + 1))))) d = some (.lst [V.ref l, V.int ((c : Int) + 1)]) := upd_same
    generalize hH1 : upd H d (.lst ([V.ref l, V.int (c : Int)].set 1 (.int ((c : Int) + 1)))) = H1 at e1 ⊢
    have e2 : H1 l = some (.lst (ns.map V.int)) := by
      rw [← hH1, upd_ne nel.symm]
      exact h2
    have f1 : Fm d l H H1 := fun b o n1 n2 e => by
      rw [← hH1, upd_ne n1]
      exact e
    have ec : ((c : Int) + 1) = ((c + 1 : Nat) : Int) := by omega
    rw [ec] at e1
    -- cell, place
    refine ⟨1, rfl, ?_⟩
    generalize hH2 : H1 = H2 at e1 e2 f1 ⊢
    -- the last row, for any cell
    have last : ∀ (x : Int), (0 : Int) ≤ ((x % 2147483587 + 7919 * ((c + 1 : Nat) : Int) + 1) ^ (5 : Int).toNat % 2147483647) % m ∧
        ((x % 2147483587 + 7919 * ((c + 1 : Nat) : Int) + 1) ^ (5 : Int).toNat % 2147483647) % m < m := fun x => mod_in m0
    have p64 : ∀ x : Int, (x % 2147483587 + 7919 * ((c + 1 : Nat) : Int) + 1).natAbs < 2 ^ 64 := fun x => pow_in (by omega)
    have dk : Deck H2 d l (n + 1) := ⟨c + 1, ns, by omega, e1, e2, h3, h4⟩
    -- if len(deck[0]) > 0
    refine ⟨.ref d, rfl, d, _, 0, .ref l, rfl, rfl, SqL.of e1, atI_nat (j := 0) rfl, l, ns.map V.int, rfl, .inl (SqL.of e2), _, 0, rfl, rfl, _, rfl, ite2 (fun hlen => ?_) (fun hlen => ?_)⟩
    · have hpos : 0 < ns.length := by
        have := of_decide_eq_true hlen
        rw [List.length_map] at this
        omega
      obtain ⟨i0, i1⟩ := mod_in (x := ((c + 1 : Nat) : Int)) (m := (((ns.map V.int).length : Nat) : Int)) (by rw [List.length_map]; omega)
      -- index
      refine ⟨.ref d, rfl, d, _, 1, .int ((c + 1 : Nat) : Int), rfl, rfl, SqL.of e1, atI_nat (j := 1) rfl, .ref d, rfl, d, _, 0, .ref l, rfl, rfl, SqL.of e1, atI_nat (j := 0) rfl, l, ns.map V.int, rfl, .inl (SqL.of e2), _, _, rfl, rfl, by rw [List.length_map]; omega, ?_⟩
      obtain ⟨j, hj⟩ : ∃ j : Nat, ((c + 1 : Nat) : Int) % (((ns.map V.int).length : Nat) : Int) = (j : Int) :=
        ⟨(((c + 1 : Nat) : Int) % (((ns.map V.int).length : Nat) : Int)).toNat, by omega⟩
      have hjl : j < ns.length := by
        rw [hj, List.length_map] at i1
        omega
      have hx : (ns.map V.int)[j]? = some (.int ns[j]) := by
        rw [List.getElem?_map, List.getElem?_eq_getElem hjl]
        rfl
      have hx0 : 0 ≤ ns[j] := h3 _ (List.getElem_mem hjl)
      generalize ns[j] = z at hx hx0
      -- cell
      refine ⟨.ref d, rfl, d, _, 0, .ref l, rfl, rfl, SqL.of e1, atI_nat (j := 0) rfl, _, rfl, l, _, _, .int z, rfl, rfl, SqL.of e2, at_of hj hx, ?_⟩
      -- if cell >= 10 ** 18
      refine ⟨.int z, rfl, 10, 18, rfl, rfl, ⟨by decide, by decide, by decide⟩, z, _, rfl, rfl, _, rfl, ite2 (fun hbig => ?_) (fun hbig => ?_)⟩
      · refine ⟨.int z, rfl, .int m, rfl, z, m, rfl, rfl, ⟨m0, by omega⟩, .ref d, rfl, d, _, 0, .ref l, rfl, rfl, SqL.of e1, atI_nat (j := 0) rfl, _, rfl, l, _, _, j, rfl, rfl, e2, ?_, ?_⟩
        · rw [hj]
          unfold ixN
          rw [if_pos (by omega), if_pos (by rw [List.length_map]; omega)]
          simp
        · refine ⟨.int z, rfl, .int m, rfl, z, m, rfl, rfl, m0, ?_⟩
          obtain ⟨r0, r1⟩ := mod_in (x := z) m0
          refine q _ _ r0 r1 (fun b o n1 n2 e => ?_) ⟨c + 1, ns.set j (z / m), by omega, ?_, ?_, ?_, ?_⟩
          · rw [upd_ne n2]
            exact f1 b o n1 n2 e
          · rw [upd_ne nel]
            exact e1
          · rw [upd_same, List.map_set]
          · intro y hy
            rcases List.mem_or_eq_of_mem_set hy with hy | rfl
            · exact h3 y hy
            · exact Int.ediv_nonneg hx0 (by omega)
          · rw [List.length_set]
            exact h4
      · -- the last row
        refine ⟨.int z, rfl, z, 2147483587, rfl, rfl, (by show (0 : Int) < 2147483587; decide), .ref d, rfl, d, _, 1, .int ((c + 1 : Nat) : Int), rfl, rfl, SqL.of e1, atI_nat (j := 1) rfl, 7919, _, rfl, rfl, .inl ⟨by decide, by decide⟩,
          _, _, rfl, rfl, _, _, rfl, rfl, _, _, rfl, rfl, ⟨by decide, by decide, p64 z⟩, _, _, rfl, rfl, (by show (0 : Int) < 2147483647; decide), .int m, rfl, _, m, rfl, rfl, m0, ?_⟩
        exact q _ _ (last z).1 (last z).2 f1 dk
    · refine ⟨.int 0, rfl, 10, 18, rfl, rfl, ⟨by decide, by decide, by decide⟩, 0, _, rfl, rfl, _, rfl, ite2 (fun hbig => ?_) (fun hbig => ?_)⟩
      · exact absurd (of_decide_eq_true hbig) (by decide)
      · refine ⟨.int 0, rfl, 0, 2147483587, rfl, rfl, (by show (0 : Int) < 2147483587; decide), .ref d, rfl, d, _, 1, .int ((c + 1 : Nat) : Int), rfl, rfl, SqL.of e1, atI_nat (j := 1) rfl, 7919, _, rfl, rfl, .inl ⟨by decide, by decide⟩,
          _, _, rfl, rfl, _, _, rfl, rfl, _, _, rfl, rfl, ⟨by decide, by decide, p64 0⟩, _, _, rfl, rfl, (by show (0 : Int) < 2147483647; decide), .int m, rfl, _, m, rfl, rfl, m0, ?_⟩
        exact q _ _ (last 0).1 (last 0).2 f1 dk
/-! ### forest -/
theorem ord_min (a b : Int) : (if a < b then a else b) = (ordP a b).1 := by
  unfold ordP
  by_cases h : a ≤ b
  · rw [if_pos h]
    show _ = a
    split <;> omega
  · rw [if_neg h, if_neg (by omega)]
theorem ord_max (a b : Int) : (if a > b then a else b) = (ordP a b).2 := by
  unfold ordP
  by_cases h : a ≤ b
  · rw [if_pos h, if_neg (by omega)]
  · rw [if_neg h, if_pos (by omega)]
def spLForest (K : PySem.W.Frag) : Sp := fun vs H Q _ => ∃ (d l : Addr) (n most : Nat), vs = [.ref d, .int (most : Int)] ∧ most ≤ 12 ∧ Deck H d l n ∧ n < 800000 ∧
  ∀ (H' : Hp) (x : V) (m : Nat) (es : List (Int × Int)), Fm d l H H' → Deck H' d l (n + 60) → m ≤ most → IsFor m es → Dp K H' x (forD m es) → Q x H'
theorem ok_LForest {f : Addr} {fd : FuncData} (F : Fun K "_law_forest" "_law_forest" sLForest f fd) (m_list : mg "list" = none) (m_range : mg "range" = none) (m_len : mg "len" = none)
    (m_max : mg "max" = none) (m_min : mg "min" = none) (m_tuple : mg "tuple" = none) (m_sorted : mg "sorted" = none)
    (oLDraw : Own P w K mg base "_law_draw" 1 ["_law_deck_here", "_law_many"] spLDraw) :
    FnOk P w K mg base CX0 2 f fd ["_law_deck_here", "_law_most"] (spLForest K) := by
  refine F.ok scLForest (fun vs H Q E h => ?_) (fun cdv A outer s H vs Q E hr h => ?_)
  · obtain ⟨d, l, n, most, rfl, _⟩ := h
    rfl
  · obtain ⟨d, l, n, most, rfl, hm, hD, hn, q⟩ := h
    refine ⟨_, (pss_cons (ps_set (i := 2) scLForest.nd rfl (.inl rfl) (pe_own oLDraw (hr.mono (by decide)) (by rfl) (pa_cons (pv 0) (pa_cons (pe_op op_add (pv 1) pe_int) pa_nil))))
    (pss_cons (ps_par3 (by rfl) scLForest.nd (i := 3) (j := 4) (l := 5) rfl rfl rfl (by decide) (by decide) (by decide) rfl rfl rfl (pa_cons (pe_listRg rfl (by rfl) m_list (prg_1 (by rfl) m_range (pv 2))) (pa_cons (pe_lst pa_nil) (pa_cons (pe_lst pa_nil) pa_nil))) (by rfl))
    (pss_cons (ps_while PassesOwn.never (pt_cmpR (neDK K hr.units) (pv 3) (pe_lst pa_nil) (nomark _)) (pss_one (ps_expr (bmK K PySem.F.plainAttrs_list PySem.F.slot_list_append PySem.F.type_list_append mt_append (pv 4) (pa_cons (bmK K PySem.F.plainAttrs_list PySem.F.slot_list_pop PySem.F.type_list_pop mt_popAt (pv 3) (pa_cons (pe_own oLDraw (hr.mono (by decide)) (by rfl) (pa_cons (pv 0) (pa_cons (pe_callB (lenK K) (by rfl) m_len (by decide +kernel) (pa_cons (pv 3) pa_nil)) pa_nil))) pa_nil)) pa_nil)))))
    (pss_cons (ps_set (i := 6) scLForest.nd rfl (.inl rfl) (pe_ix (ixLK K) (pe_lst (pa_cons pe_int (pa_cons pe_int (pa_cons pe_int pa_nil)))) (pe_own oLDraw (hr.mono (by decide)) (by rfl) (pa_cons (pv 0) (pa_cons pe_int pa_nil))) (fun _ _ => rfl)))
    (pss_cons (ps_set (i := 7) scLForest.nd rfl (.inl rfl) (pe_own oLDraw (hr.mono (by decide)) (by rfl) (pa_cons (pv 0) (pa_cons pe_int pa_nil))))
    (pss_cons (ps_for PassesOwn.never rfl (pi_range2 (by rfl) m_range (pa_cons pe_int (pa_cons (pv 2) pa_nil))) (pg_name (i := 8) scLForest.nd rfl (Or.inl rfl))
    (pss_cons (ps_set (i := 9) scLForest.nd rfl (.inl rfl) (pe_ix (ixLK K) (pv 4) (pe_ix (ixLK K) (pe_lst (pa_cons (pe_op op_sub (pv 8) pe_int) (pa_cons pe_int (pa_cons (pe_own oLDraw (hr.mono (by decide)) (by rfl) (pa_cons (pv 0) (pa_cons (pv 8) pa_nil))) (pa_cons (pe_callB (call_max2 rfl) (by rfl) m_max (by decide +kernel) (pa_cons pe_int (pa_cons (pe_op op_sub (pv 8) pe_int) pa_nil))) pa_nil))))) (pv 7) (fun _ _ => rfl)) (fun _ _ => rfl)))
    (pss_one (ps_if (PW.pt (pw_or (pt_cmpR op_eq (pv 6) pe_int (nomark _)) (pw_or1 (pt_cmpR op_gt (pe_own oLDraw (hr.mono (by decide)) (by rfl) (pa_cons (pv 0) (pa_cons (pv 6) pa_nil))) pe_int (nomark _))))) (pss_one (ps_expr (bmK K PySem.F.plainAttrs_list PySem.F.slot_list_append PySem.F.type_list_append mt_append (pv 5) (pa_cons (pe_tup (pa_cons (pe_callB (call_min2 rfl) (by rfl) m_min (by decide +kernel) (pa_cons (pv 9) (pa_cons (pe_ix (ixLK K) (pv 4) (pv 8) (fun _ _ => rfl)) pa_nil))) (pa_cons (pe_callB (call_max2 rfl) (by rfl) m_max (by decide +kernel) (pa_cons (pv 9) (pa_cons (pe_ix (ixLK K) (pv 4) (pv 8) (fun _ _ => rfl)) pa_nil))) pa_nil))) pa_nil)))) pss_nil))))
    (pss_one (ps_ret (pe_tup (pa_cons (pv 2) (pa_cons (pe_callTy (tupleK K) (by rfl) m_tuple (by decide +kernel) (pa_cons (pe_callB (sortK K hr.units) (by rfl) m_sorted (by decide +kernel) (pa_cons (pv 5) pa_nil)) pa_nil)) pa_nil))))))))))), ?_⟩
    -- n
    refine ⟨.ref d, rfl, .int (most : Int), rfl, _, _, rfl, rfl, d, l, n, _, rfl, by omega, by omega, hD, by omega, fun H1 x x0 x1 f1 d1 => ?_⟩
    obtain ⟨m, hmx⟩ : ∃ m : Nat, x = (m : Int) := ⟨x.toNat, by omega⟩
    subst hmx
    have hmm : m ≤ most := by omega
    -- left, order, edges
    refine ⟨.int (m : Int), rfl, (m : Int), rfl, RgOk.of_le (by omega) (by omega) (by omega) (by omega), fun L nL => ?_⟩
    rw [rgVrng]
    have sL := same_upd (o := .lst ((rng m).map V.int)) nL
    have eL := same_at (o := .lst ((rng m).map V.int)) nL
    have offL := d1.off nL
    refine ⟨Nat.zero_le _, fun D nD => ?_⟩
    have sD := same_upd (o := .lst []) nD
    have eD := same_at (o := .lst []) nD
    have offD := (d1.same sL).off nD
    have nLD : L ≠ D := ne_of_none eL nD
    refine ⟨Nat.zero_le _, fun E nE => ?_⟩
    have sE := same_upd (o := .lst []) nE
    have eE := same_at (o := .lst []) nE
    have offE := ((d1.same sL).same sD).off nE
    have nLE : L ≠ E := ne_of_none (sD _ _ eL) nE
    have nDE : D ≠ E := ne_of_none eD nE
    refine ⟨.ref L, .ref D, .ref E, rfl, ?_⟩
    have s14 := (sL.trans sD).trans sE
    have f4 : Fm d l H _ := f1.trans (Same.fm s14)
    have d4 := d1.same s14
    have eL4 := (sD.trans sE) _ _ eL
    have eD4 := sE _ _ eD
    have eE4 := eE
    have nHL : H1 L = none := nL
    have nHD : H1 D = none := sL.free nD
    have nHE : H1 E = none := (sL.trans sD).free nE
    generalize upd _ E (.lst []) = H4 at f4 d4 eL4 eD4 eE4 s14 ⊢
    dsimp only [gName]
    refine while_ms (fun tt σ H' => ∃ (ms rs : List Int), σ = [some (.ref d), some (.int (most : Int)), some (.int (m : Int)), some (.ref L), some (.ref D), some (.ref E), none, none, none, none] ∧ (ms ++ rs).Perm (rng m) ∧ tt = rs.length ∧ Fm d l H1 H' ∧ Deck H' d l (n + 1 + ms.length) ∧
      H' L = some (.lst (rs.map V.int)) ∧ H' D = some (.lst (ms.map V.int)) ∧ H' E = some (.lst [])) (rng m).length ⟨[], rng m, rfl, List.Perm.refl _, rfl, Same.fm s14, d4, eL4, eD4, eE4⟩ ?_ ?_
    · rintro tt σ H5 ⟨ms, rs, rfl, pm, rfl, f5, d5, eL5, eD5, eE5⟩
      have er : ms.length + rs.length = m := by
        have := pm.length_eq
        rw [List.length_append, rng_length] at this
        exact this
      refine ⟨.ref L, rfl, Nat.zero_le _, fun e ne => ?_⟩
      have se := same_upd (o := .lst []) ne
      refine ⟨.list (rs.map .int), .list [], .lst (SqL.of (se _ _ eL5)) (DpAll.of_ints rs), .lst (SqL.of upd_same) .nil, shaped_ints rs, shaped_ints [], _, rfl, ?_⟩
      rw [eqv_nil]
      by_cases hr0 : rs = []
      · subst hr0
        rw [decide_eq_true rfl]
        refine iteF ?_
        rw [List.append_nil] at pm
        have nm_pm := pm
        generalize hms : ms = nm at pm d5 eD5
        have lnm : nm.length = m := by rw [pm.length_eq, rng_length]
        have d6 := d5.same se
        have eD6 := se _ _ eD5
        have eE6 := se _ _ eE5
        have f6 := f5.trans (Same.fm se)
        rw [lnm] at d6
        generalize upd H5 e (.lst []) = H6 at d6 eD6 eE6 f6 ⊢
        -- lacks
        refine ⟨by show 3 ≤ sizeLine; decide, fun p np => ?_⟩
        have sp := same_upd (o := .lst [V.int 0, V.int 0, V.int 5]) np
        have ep := same_at (o := .lst [V.int 0, V.int 0, V.int 5]) np
        have offp := d6.off np
        refine ⟨.ref d, rfl, d, l, _, 3, rfl, by decide, by decide, d6.same sp, by omega, fun H7 t' t0 t1 f7 d7 => ?_⟩
        obtain ⟨t, ht, hti⟩ : ∃ t : Int, atI [V.int 0, V.int 0, V.int 5] t' = some (V.int t) ∧ (t = 0 ∨ t = 5) := by
          have h3 : t' = 0 ∨ t' = 1 ∨ t' = 2 := by omega
          rcases h3 with rfl | rfl | rfl
          · exact ⟨0, rfl, .inl rfl⟩
          · exact ⟨0, rfl, .inl rfl⟩
          · exact ⟨5, rfl, .inr rfl⟩
        refine ⟨p, _, _, .int t, rfl, rfl, SqL.of (f7 _ _ offp.1 offp.2 ep), ht, ?_⟩
        -- way
        refine ⟨.ref d, rfl, d, l, _, 4, rfl, by decide, by decide, d7, by omega, fun H8 w3 w0 w1 f8 d8 => ?_⟩
        have f68 : Fm d l H6 H8 := ((Same.fm sp).trans f7).trans f8
        have eD8 := f68 _ _ offD.1 offD.2 eD6
        have eE8 := f68 _ _ offE.1 offE.2 eE6
        refine ⟨.int (m : Int), rfl, 1, (m : Int), rfl, ⟨by omega, by omega, by omega, by omega⟩, for_range (lo := 1) (n := ((m : Int) - 1).toNat) (fun i σ H' => ∃ (y8 y9 : Option V) (ks : List (Nat × Nat)) (xs : List V),
          σ = [some (.ref d), some (.int (most : Int)), some (.int (m : Int)), some (.ref L), some (.ref D), some (.ref E), some (.int t), some (.int w3), y8, y9] ∧ Fm d l H1 H' ∧ Deck H' d l (n + 15 + 3 * i) ∧
          H' D = some (.lst (nm.map V.int)) ∧ H' E = some (.lst xs) ∧ DpAll K H' xs ((ks.map (edgeOf nm)).map prD) ∧ ks.Pairwise (fun a b => a.1 < b.1) ∧ (∀ q ∈ ks, q.2 < q.1 ∧ q.1 < i + 1) ∧ ks.length ≤ i) ?_ ?_ ?_⟩
        · exact ⟨none, none, [], [], rfl, f6.trans f68, d8.le (by omega), eD8, eE8, .nil, .nil, (fun _ z => nomatch z), Nat.le_refl _⟩
        · rintro i σ H5 hi ⟨y8, y9, ks, xs, rfl, f5, d5, eD5, eE5, a5, up, down, cnt⟩
          have hi' : i + 1 < m := by omega
          refine ⟨.ref D, rfl, .int (1 + (i : Int)), rfl, _, _, rfl, rfl, .ref d, rfl, .int (1 + (i : Int)), rfl, d, l, _, _, rfl, by omega, by omega, d5, by omega, fun H6 x x0 x1 f6 d6 => ?_⟩
          refine ⟨.int (1 + (i : Int)), rfl, _, _, rfl, rfl, 0, _, rfl, by show 4 ≤ sizeLine; decide, fun p6 np6 => ?_⟩
          have sp6 := same_upd (o := .lst [.int (1 + (i : Int) - 1), .int 0, .int x, .int (if 1 + (i : Int) - 2 > 0 then 1 + (i : Int) - 2 else 0)]) np6
          obtain ⟨o, ho, lo⟩ : ∃ o : Nat, atI [V.int (1 + (i : Int) - 1), V.int 0, V.int x, V.int (if 1 + (i : Int) - 2 > 0 then 1 + (i : Int) - 2 else 0)] w3 = some (V.int (o : Int)) ∧ o < i + 1 := by
            have h4 : w3 = 0 ∨ w3 = 1 ∨ w3 = 2 ∨ w3 = 3 := by omega
            rcases h4 with rfl | rfl | rfl | rfl
            · exact ⟨i, by show some (V.int (1 + (i : Int) - 1)) = _; congr 2; omega, by omega⟩
            · exact ⟨0, rfl, by omega⟩
            · exact ⟨x.toNat, by show some (V.int x) = _; congr 2; omega, by omega⟩
            · refine ⟨(1 + (i : Int) - 2).toNat, ?_, by omega⟩
              show some (V.int (if 1 + (i : Int) - 2 > 0 then 1 + (i : Int) - 2 else 0)) = _
              congr 2
              split <;> omega
          have go : (nm.map V.int)[o]? = some (.int (nm.getD o 0)) := by
            rw [List.getElem?_map, List.getD_eq_getElem?_getD, List.getElem?_eq_getElem (by omega)]
            rfl
          have gk : (nm.map V.int)[i + 1]? = some (.int (nm.getD (i + 1) 0)) := by
            rw [List.getElem?_map, List.getD_eq_getElem?_getD, List.getElem?_eq_getElem (by omega)]
            rfl
          have eD7 := sp6 _ _ (f6 _ _ offD.1 offD.2 eD5)
          have eE7 := sp6 _ _ (f6 _ _ offE.1 offE.2 eE5)
          refine ⟨.int w3, rfl, p6, _, _, _, rfl, rfl, SqL.of upd_same, ho, D, _, _, _, rfl, rfl, SqL.of eD7, at_of (j := o) rfl go, ?_⟩
          have d6' := d6.same sp6
          have f6' : Fm d l H1 _ := (f5.trans f6).trans (Same.fm sp6)
          have k6 : KT K H5 _ := (f6.kt d5).trans (Same.kt sp6)
          have a6 := DpAll.kt k6 a5 (only_prs _)
          generalize upd H6 p6 (.lst [.int (1 + (i : Int) - 1), .int 0, .int x, .int (if 1 + (i : Int) - 2 > 0 then 1 + (i : Int) - 2 else 0)]) = H8 at eD7 eE7 d6' f6' a6 ⊢
          dsimp only [gName]
          refine ifJ (R := fun b H9 => Fm d l H8 H9 ∧ Deck H9 d l (n + 15 + 3 * (i + 1))) (fun R hR => ?_) (fun H9 hR => ?_) (fun H9 hR => ?_)
          · refine ⟨.int t, rfl, rfl, _, rfl, ?_⟩
            rw [decInt]
            rcases hti with rfl | rfl
            · rw [decide_eq_true rfl]
              exact iteT (hR _ _ ⟨Fm.refl, d6'.le (by omega)⟩)
            · rw [decide_eq_false (by decide)]
              refine iteF ⟨.ref d, rfl, .int 5, rfl, d, l, _, 5, rfl, by decide, by decide, d6', by omega, fun H9 y y0 y1 f9 d9 => ⟨_, _, rfl, rfl, _, rfl, hR _ _ ⟨f9, d9.le (by omega)⟩⟩⟩
          · obtain ⟨f9, d9⟩ := hR
            have eD9 := f9 _ _ offD.1 offD.2 eD7
            have eE9 := f9 _ _ offE.1 offE.2 eE7
            have a9 := DpAll.kt (f9.kt d6') a6 (only_prs _)
            refine ⟨.ref E, rfl, .inl ⟨rfl, _, SqL.of eE9⟩, .int (nm.getD o 0), rfl, .ref D, rfl, .int (1 + (i : Int)), rfl, D, _, _, _, rfl, rfl, SqL.of eD9, at_of (j := i + 1) (by omega) gk, _, _, rfl,
              .int (nm.getD o 0), rfl, .ref D, rfl, .int (1 + (i : Int)), rfl, D, _, _, _, rfl, rfl, SqL.of eD9, at_of (j := i + 1) (by omega) gk, _, _, rfl, by show 2 ≤ sizeLine; decide, fun p3 np3 => ?_⟩
            dsimp only
            rw [ord_min, ord_max]
            have s3 := same_upd (o := .tup [V.int (ordP (nm.getD (i + 1) 0) (nm.getD o 0)).1, V.int (ordP (nm.getD (i + 1) 0) (nm.getD o 0)).2]) np3
            have eE10 := s3 _ _ eE9
            have eD10 := s3 _ _ eD9
            have a10 := DpAll.same s3 a9
            have d10 := d9.same s3
            have f10 := (f6'.trans f9).trans (Same.fm s3)
            have hp : SqT K _ p3 [.int (edgeOf nm (i + 1, o)).1, .int (edgeOf nm (i + 1, o)).2] := SqT.of (K := K) (same_at (o := .tup [V.int (ordP (nm.getD (i + 1) 0) (nm.getD o 0)).1, V.int (ordP (nm.getD (i + 1) 0) (nm.getD o 0)).2]) np3)
            generalize upd _ p3 (.tup [V.int (ordP (nm.getD (i + 1) 0) (nm.getD o 0)).1, V.int (ordP (nm.getD (i + 1) 0) (nm.getD o 0)).2]) = H10 at eE10 eD10 a10 d10 f10 hp ⊢
            have kt : KT K H10 (upd H10 E (.lst (xs ++ [.ref p3]))) := kt_lst eE10
            refine ⟨E, xs, .ref p3, rfl, rfl, eE10, ?_, _, _, ks ++ [(i + 1, o)], xs ++ [.ref p3], rfl, ?_, d10.put offE.1 offE.2, by rw [upd_ne nDE]; exact eD10, upd_same, ?_, ?_, ?_, ?_⟩
            · have := DpAll.length a10
              rw [List.length_map, List.length_map] at this
              exact small1000 (by omega)
            · exact f10.put1 nHE
            · rw [List.map_append, List.map_append]
              exact DpAll.append (DpAll.kt kt a10 (only_prs _)) (.cons (Dp.kt kt (Dp.pr hp) (only_pr _)) .nil)
            · refine List.pairwise_append.mpr ⟨up, List.pairwise_singleton _ _, fun a ha b hb => ?_⟩
              obtain rfl := List.mem_singleton.mp hb
              have := (down a ha).2
              exact this
            · intro z hz
              rcases List.mem_append.mp hz with hz | hz
              · have := down z hz
                omega
              · obtain rfl := List.mem_singleton.mp hz
                exact ⟨lo, Nat.lt_succ_self _⟩
            · rw [List.length_append, List.length_singleton]
              omega
          · obtain ⟨f9, d9⟩ := hR
            exact ⟨_, _, ks, xs, rfl, f6'.trans f9, d9, f9 _ _ offD.1 offD.2 eD7, f9 _ _ offE.1 offE.2 eE7, DpAll.kt (f9.kt d6') a6 (only_prs _), up, fun z hz => by have := down z hz; omega, by omega⟩
        · rintro σ H5 ⟨y8, y9, ks, xs, rfl, f5, d5, eD5, eE5, a5, up, down, cnt⟩
          have g : Grow m nm ks := ⟨pm, up, fun z hz => by have := down z hz; omega⟩
          refine ⟨.int (m : Int), rfl, .ref E, rfl, sortPairs (SqL.of eE5) a5 fun p ys np dy => ?_⟩
          have s1 := same_upd (o := .lst ys) np
          refine ⟨p, ys, rfl, .inl ⟨SqL.of upd_same, fun t nt => ?_⟩⟩
          have s2 := same_upd (o := .tup ys) nt
          refine ⟨by show 2 ≤ sizeLine; decide, fun z nz => ?_⟩
          have s3 := same_upd (o := .tup [.int (m : Int), .ref t]) nz
          have s13 := (s1.trans s2).trans s3
          refine q _ _ m _ ((f1.trans f5).trans (Same.fm s13)) ((d5.same s13).le (by omega)) hmm g.isFor ?_
          exact .tup (SqT.of upd_same) (.cons (.int _) (.cons (Dp.same s3 (.tup (SqT.of upd_same) (DpAll.same (s1.trans s2) dy))) .nil))
      · rw [decide_eq_false hr0]
        have hp : 0 < rs.length := List.length_pos_iff.mpr hr0
        refine iteT ?_
        have eL2 := se _ _ eL5
        have eD2 := se _ _ eD5
        have eE2 := se _ _ eE5
        refine ⟨.ref D, rfl, .inl ⟨rfl, _, SqL.of eD2⟩, .ref L, rfl, .inl ⟨rfl, _, SqL.of eL2⟩, .ref d, rfl, .ref L, rfl, L, _, rfl, .inl (SqL.of eL2), d, l, _, _, rfl, by rw [List.length_map]; omega, by rw [List.length_map]; omega, d5.same se, by omega, fun H3 x x0 x1 f3 d3 => ?_⟩
        rw [List.length_map] at x1
        have eL3 := f3 _ _ offL.1 offL.2 eL2
        have eD3 := f3 _ _ offD.1 offD.2 eD2
        have eE3 := f3 _ _ offE.1 offE.2 eE2
        have hk : x.toNat < rs.length := by omega
        refine ⟨L, _, x, x.toNat, .int rs[x.toNat], rfl, rfl, eL3, by omega, by omega, ?_, ?_, D, ms.map V.int, _, rfl, rfl, ?_, ?_, (rs.eraseIdx x.toNat).length, ?_, ms ++ [rs[x.toNat]], rs.eraseIdx x.toNat, rfl, ?_, rfl, ?_, ?_, ?_, ?_, ?_⟩
        · unfold seqIndex?
          rw [List.length_map]
          simp
          omega
        · rw [List.getElem?_map, List.getElem?_eq_getElem hk]
          rfl
        · rw [upd_ne nLD.symm]
          exact eD3
        · rw [List.length_map]
          exact small1000 (by omega)
        · rw [List.length_eraseIdx_of_lt hk]
          omega
        · rw [List.append_assoc]
          refine List.Perm.trans ?_ pm
          exact List.Perm.append_left ms (erase_prm hk)
        · exact (((f5.trans (Same.fm se)).trans f3).put1 nHL).put1 nHD
        · rw [List.length_append]
          exact (d3.put offL.1 offL.2).put offD.1 offD.2
        · rw [upd_ne nLD, upd_same]
          exact congrArg (fun z => some (HO.lst z)) (erase_mp rs x.toNat)
        · rw [upd_same, List.map_append]
          rfl
        · rw [upd_ne nDE.symm, upd_ne nLE.symm]
          exact eE3
    · rintro σ H' Q1 Q2 hQ ⟨y, e, h0, h1⟩
      exact ⟨y, e, h0, fun Z nZ => by
        obtain ⟨d1, d2, e1, e2, e3, e4, b, eb, k⟩ := h1 Z nZ
        exact ⟨d1, d2, e1, e2, e3, e4, b, eb, hQ _ _ k⟩⟩
end
end TL
namespace TL
open PySem PySem.Spec PyProof.Rows L2
section
variable {P : Program} {w : World} {K : PySem.W.Frag} {mg : Str → Option Value} {base : Heap}
/-! ### near -/
def spLNear (K : PySem.W.Frag) : Sp := fun vs H Q _ => ∃ (x : V) (m : Nat) (es : List (Int × Int)) (v : Int), vs = [x, .int v] ∧ m ≤ 12 ∧ IsFor m es ∧ Dp K H x (forD m es) ∧
  ∀ (H' : Hp) (D : Addr), Same H H' → H D = none → H' D = some (.lst ((nearL m es v).map V.int)) → Q (.ref D) H'
theorem ok_LNear {f : Addr} {fd : FuncData} {k : Nat} (F : Fun K "_law_near" "_law_near" sLNear f fd) (m_sorted : mg "sorted" = none) :
    FnOk P w K mg base CX0 (k + 1) f fd ["_law_forest_here", "_law_vertex"] (spLNear K) := by
  refine F.ok scLNear (fun vs H Q E h => ?_) (fun cdv A outer s H vs Q E hr h => ?_)
  · obtain ⟨x, m, es, v, rfl, _⟩ := h
    rfl
  · obtain ⟨x, m, es, v, rfl, hm, isf, hx, q⟩ := h
    obtain ⟨a, b, xs, rfl, ha, hb, hA⟩ := Dp.forI hx
    have ec := isf.count
    refine ⟨_, (pss_cons (ps_setLc (i := 2) (own := [("_law_one", 3), ("_law_two", 4)]) (g := (gTup K 2 (gCons (gName 3) (gCons (gName 4) gNil)))) (by rfl) scLNear.nd rfl rfl (sw_true rfl rfl rfl (by decide +kernel)) (piTK K (pe_ix (ixTK K) (pv 0) pe_int (fun _ _ => rfl)))
      (blkOk_by (own := [("_law_one", 3), ("_law_two", 4)]) (N := nLNear) (sc := (defScope sLNear)) (by decide +kernel))
      (fun _ _ _ _ _ => (pgTK K (pgs_cons (pg_name (i := 3) scLNear.nd rfl (Or.inl rfl)) (pgs_cons (pg_name (i := 4) scLNear.nd rfl (Or.inl rfl)) pgs_nil)))) (fun _ _ _ _ _ => (pts_one (pt_cmpR op_eq (pv 3) (pv 1) (nomark _))))
      (fun _ _ _ _ _ => (pv 4)))
    (pss_one (ps_ret (pe_callB (sortK K hr.units) (by rfl) m_sorted (by decide +kernel) (pa_cons (pe_op op_cat (pv 2) (pe_lc (own := [("_law_one", 3), ("_law_two", 4)]) (g := (gTup K 2 (gCons (gName 3) (gCons (gName 4) gNil)))) rfl scLNear.nd (piTK K (pe_ix (ixTK K) (pv 0) pe_int (fun _ _ => rfl)))
      (blkOk_by (own := [("_law_one", 3), ("_law_two", 4)]) (N := nLNear) (sc := (defScope sLNear)) (by decide +kernel))
      (fun _ _ _ _ _ => (pgTK K (pgs_cons (pg_name (i := 3) scLNear.nd rfl (Or.inl rfl)) (pgs_cons (pg_name (i := 4) scLNear.nd rfl (Or.inl rfl)) pgs_nil)))) (fun _ _ _ _ _ => (pts_one (pt_cmpR op_eq (pv 4) (pv 1) (nomark _))))
      (fun _ _ _ _ _ => (pv 3)))) pa_nil))))), ?_⟩
    refine ⟨.ref a, rfl, a, _, 1, .ref b, rfl, rfl, ha, atI_nat (j := 1) rfl, b, rfl, ⟨_, hb⟩, fun D nD => ?_⟩
    refine lc_tupP (K := K) (fun p => decide (p.1 = v)) (fun p => .int p.2) nD hb hA (fun _ _ => rfl) (fun o _ H' R s1 hR => ?_) (fun o _ _ H' R s1 hR => ?_) (fun o => only_int _) (by omega) (fun H2 ys s2 eD dy => ?_)
    · refine ⟨.int o.1, rfl, .int v, rfl, rfl, _, rfl, ?_⟩
      rw [decInt]
      exact hR H' (Same.refl _)
    · exact ⟨.int o.2, rfl, hR H' _ (Same.refl _) (.int _)⟩
    refine ⟨.ref D, rfl, .ref a, rfl, a, _, 1, .ref b, rfl, rfl, Same.tup s2 ha, atI_nat (j := 1) rfl, b, rfl, ⟨_, Same.tup s2 hb⟩, fun D2 nD2 => ?_⟩
    refine lc_tupP (K := K) (fun p => decide (p.2 = v)) (fun p => .int p.1) nD2 (Same.tup s2 hb) (DpAll.same s2 hA) (fun _ _ => rfl) (fun o _ H' R s1 hR => ?_) (fun o _ _ H' R s1 hR => ?_) (fun o => only_int _) (by omega) (fun H3 zs s3 eD3 dz => ?_)
    · refine ⟨.int o.2, rfl, .int v, rfl, rfl, _, rfl, ?_⟩
      rw [decInt]
      exact hR H' (Same.refl _)
    · exact ⟨.int o.1, rfl, hR H' _ (Same.refl _) (.int _)⟩
    have e1 : ys = ((es.filter fun p => decide (p.1 = v)).map (·.2)).map V.int := DpAll.ints (by rw [List.map_map]; exact dy)
    have e2 : zs = ((es.filter fun p => decide (p.2 = v)).map (·.1)).map V.int := DpAll.ints (by rw [List.map_map]; exact dz)
    subst e1 e2
    have l1 := List.length_filter_le (fun p => decide (p.2 = v)) es
    have l2 := List.length_filter_le (fun p => decide (p.1 = v)) es
    refine ⟨D, D2, _, _, rfl, rfl, s3 _ _ eD, eD3, Nat.le_of_lt (small1000 (by rw [List.length_map, List.length_map, List.length_map, List.length_map]; omega)), fun p np => ?_⟩
    rw [← List.map_append]
    have t1 := same_upd (o := .lst (((es.filter fun p => decide (p.1 = v)).map (·.2) ++ (es.filter fun p => decide (p.2 = v)).map (·.1)).map V.int)) np
    refine sortInts (ns := (es.filter fun p => decide (p.1 = v)).map (·.2) ++ (es.filter fun p => decide (p.2 = v)).map (·.1)) (SqL.of upd_same) fun p2 np2 => ?_
    have s4 := ((s2.trans s3).trans t1)
    refine q _ p2 (s4.trans (same_upd np2)) (s4.free np2) ?_
    rw [upd_same, srtI_congr (List.perm_append_comm (l₁ := (es.filter fun p => decide (p.1 = v)).map (·.2))), show (es.filter fun p => decide (p.2 = v)).map (·.1) ++ (es.filter fun p => decide (p.1 = v)).map (·.2) = nbL es v from rfl, isf.nb v, srtI_of_asc (nearL_asc m es v)]
/-! ### setting -/
def spLSetting (K : PySem.W.Frag) : Sp := fun vs H Q _ => ∃ (d l : Addr) (n : Nat) (x : V) (m : Nat) (es : List (Int × Int)), vs = [.ref d, x] ∧ Deck H d l n ∧ n < 800000 ∧ m ≤ 12 ∧ IsFor m es ∧ Dp K H x (forD m es) ∧
  ∀ (H' : Hp) (t : Addr) (S : List Int), Fm d l H H' → Deck H' d l (n + 30) → IsSet m es S → H' t = some (.tup (S.map V.int)) → Q (.ref t) H'
def litL (m : Nat) (es : List (Int × Int)) (S : List Int) (v : Int) : List Int := (nearL m es v).filter fun o => decide (o ∈ S)
theorem set_grow {m : Nat} {es : List (Int × Int)} (f : IsFor m es) {S : List Int} {v : Int} (hS : ∀ u ∈ S, ∀ z ∈ S, ordP u z ∉ es) (hr : ∀ u ∈ S, 0 ≤ u ∧ u < m)
    (hv : (nearL m es v).filter (fun o => decide (o ∈ S)) = []) : ∀ u ∈ S ++ [v], ∀ z ∈ S ++ [v], ordP u z ∉ es := by
  have key : ∀ u ∈ S, ordP u v ∉ es := fun u hu h => by
    have : u ∈ (nearL m es v).filter (fun o => decide (o ∈ S)) := List.mem_filter.mpr ⟨mem_nearL.mpr ⟨hr u hu, h⟩, decide_eq_true hu⟩
    rw [hv] at this
    cases this
  intro u hu z hz
  rcases List.mem_append.mp hu with h1 | h1
  · rcases List.mem_append.mp hz with h2 | h2
    · exact hS u h1 z h2
    · rw [List.mem_singleton.mp h2]
      exact key u h1
  · rw [List.mem_singleton.mp h1]
    rcases List.mem_append.mp hz with h2 | h2
    · rw [ordP_comm]
      exact key z h2
    · rw [List.mem_singleton.mp h2]
      intro h
      have := f.rng _ h
      unfold ordP at this
      rw [if_pos (Int.le_refl _)] at this
      simp only at this
      omega
theorem ok_LSetting {f : Addr} {fd : FuncData} (F : Fun K "_law_setting" "_law_setting" sLSetting f fd) (m_list : mg "list" = none) (m_range : mg "range" = none) (m_len : mg "len" = none) (m_tuple : mg "tuple" = none) (m_sorted : mg "sorted" = none)
    (oLDraw : Own P w K mg base "_law_draw" 1 ["_law_deck_here", "_law_many"] spLDraw) (oLNear : Own P w K mg base "_law_near" 1 ["_law_forest_here", "_law_vertex"] (spLNear K)) :
    FnOk P w K mg base CX0 2 f fd ["_law_deck_here", "_law_forest_here"] (spLSetting K) := by
  refine F.ok scLSetting (fun vs H Q E h => ?_) (fun cdv A outer s H vs Q E hr h => ?_)
  · obtain ⟨d, l, n, x, m, es, rfl, _⟩ := h
    rfl
  · obtain ⟨d, l, n, x, m, es, rfl, hD, hn, hm, isf, hx, q⟩ := h
    obtain ⟨a, b, xs, rfl, ha, hb, hA⟩ := Dp.forI hx
    refine ⟨_, (pss_cons (ps_asg (pe_tup (pa_cons (pe_listRg rfl (by rfl) m_list (prg_1 (by rfl) m_range (pe_ix (ixTK K) (pv 1) pe_int (fun _ _ => rfl)))) (pa_cons (pe_lst pa_nil) pa_nil))) (pgTK K (pgs_cons (pg_name (i := 2) scLSetting.nd rfl (Or.inl rfl)) (pgs_cons (pg_name (i := 3) scLSetting.nd rfl (Or.inr rfl)) pgs_nil))))
    (pss_cons (ps_set (i := 4) scLSetting.nd rfl (.inl rfl) (pe_ix (ixLK K) (pe_lst (pa_cons pe_int (pa_cons pe_int (pa_cons pe_int pa_nil)))) (pe_own oLDraw (hr.mono (by decide)) (by rfl) (pa_cons (pv 0) (pa_cons pe_int pa_nil))) (fun _ _ => rfl)))
    (pss_cons (ps_while PassesOwn.never (pt_cmpR (neDK K hr.units) (pv 2) (pe_lst pa_nil) (nomark _)) (pss_cons (ps_set (i := 5) scLSetting.nd rfl (.inl rfl) (bmK K PySem.F.plainAttrs_list PySem.F.slot_list_pop PySem.F.type_list_pop mt_popAt (pv 2) (pa_cons (pe_own oLDraw (hr.mono (by decide)) (by rfl) (pa_cons (pv 0) (pa_cons (pe_callB (lenK K) (by rfl) m_len (by decide +kernel) (pa_cons (pv 2) pa_nil)) pa_nil))) pa_nil)))
    (pss_cons (ps_setLc (i := 6) (own := [("_law_one", 7)]) (g := (gName 7)) (by rfl) scLSetting.nd rfl rfl (sw_true rfl rfl rfl (by decide +kernel)) (piLK K (pe_own oLNear (hr.mono (by decide)) (by rfl) (pa_cons (pv 1) (pa_cons (pv 5) pa_nil))))
      (blkOk_by (own := [("_law_one", 7)]) (N := nLSetting) (sc := (defScope sLSetting)) (by decide +kernel))
      (fun _ _ _ _ _ => (pg_name (i := 7) scLSetting.nd rfl (Or.inl rfl))) (fun _ _ _ _ _ => (pts_one (pt_cmpR (inK K) (pv 7) (pv 3) (by rfl))))
      (fun _ _ _ _ _ => (pv 7)))
    (pss_one (ps_if (PW.pt (pw_and (pt_cmpR op_lt (pe_own oLDraw (hr.mono (by decide)) (by rfl) (pa_cons (pv 0) (pa_cons pe_int pa_nil))) (pv 4) (nomark _)) (pw_and1 (pt_cmpR (eqDK K hr.units) (pv 6) (pe_lst pa_nil) (nomark _))))) (pss_one (ps_expr (bmK K PySem.F.plainAttrs_list PySem.F.slot_list_append PySem.F.type_list_append mt_append (pv 3) (pa_cons (pv 5) pa_nil)))) pss_nil)))))
    (pss_one (ps_ret (pe_callTy (tupleK K) (by rfl) m_tuple (by decide +kernel) (pa_cons (pe_callB (sortK K hr.units) (by rfl) m_sorted (by decide +kernel) (pa_cons (pv 3) pa_nil)) pa_nil))))))), ?_⟩
    -- left, lamps
    refine ⟨.ref a, rfl, a, _, 0, .int (m : Int), rfl, rfl, ha, atI_nat (j := 0) rfl, (m : Int), rfl, RgOk.of_le (by omega) (by omega) (by omega) (by omega), fun L nL => ?_⟩
    rw [rgVrng]
    have sL := same_upd (o := .lst ((rng m).map V.int)) nL
    have eL := same_at (o := .lst ((rng m).map V.int)) nL
    have offL := hD.off nL
    refine ⟨Nat.zero_le _, fun D nD => ?_⟩
    have sD := same_upd (o := .lst []) nD
    have eD := same_at (o := .lst []) nD
    have offD := (hD.same sL).off nD
    have nLD : L ≠ D := ne_of_none eL nD
    have nHD : H D = none := sL.free nD
    refine ⟨by show 2 ≤ sizeLine; decide, fun t nt => ⟨t, _, rfl, SqT.of upd_same, rfl, _, _, rfl, _, _, rfl, rfl, ?_⟩⟩
    have st := same_upd (o := .tup [V.ref L, V.ref D]) nt
    have s0 := (sL.trans sD).trans st
    have eL0 := (sD.trans st) _ _ eL
    have eD0 := st _ _ eD
    have d0 := hD.same s0
    generalize upd _ t (.tup [V.ref L, V.ref D]) = H0 at s0 eL0 eD0 d0 ⊢
    -- share
    refine ⟨by show 3 ≤ sizeLine; decide, fun p np => ?_⟩
    have sp := same_upd (o := .lst [V.int 4, V.int 3, V.int 1]) np
    have ep := same_at (o := .lst [V.int 4, V.int 3, V.int 1]) np
    have op := d0.off np
    refine ⟨.ref d, rfl, d, l, _, 3, rfl, by decide, by decide, d0.same sp, by omega, fun H1 r r0 r1 f1 d1 => ?_⟩
    obtain ⟨sh, hsh⟩ : ∃ sh : Int, atI [V.int 4, V.int 3, V.int 1] r = some (V.int sh) := by
      have h3 : r = 0 ∨ r = 1 ∨ r = 2 := by omega
      rcases h3 with rfl | rfl | rfl
      · exact ⟨4, rfl⟩
      · exact ⟨3, rfl⟩
      · exact ⟨1, rfl⟩
    refine ⟨p, _, _, .int sh, rfl, rfl, SqL.of (f1 _ _ op.1 op.2 ep), hsh, ?_⟩
    have f01 : Fm d l H H1 := (Same.fm (s0.trans sp)).trans f1
    have eL1 := f1 _ _ offL.1 offL.2 (sp _ _ eL0)
    have eD1 := f1 _ _ offD.1 offD.2 (sp _ _ eD0)
    refine while_ms (fun tt σ H' => ∃ (y5 y6 : Option V) (S rs : List Int), σ = [some (.ref d), some (.ref a), some (.ref L), some (.ref D), some (.int sh), y5, y6, none] ∧ tt = rs.length ∧ Fm d l H H' ∧ Deck H' d l (n + 1 + 2 * (m - rs.length)) ∧ H' L = some (.lst (rs.map V.int)) ∧ H' D = some (.lst (S.map V.int)) ∧
      (S ++ rs).Nodup ∧ (∀ x ∈ S ++ rs, 0 ≤ x ∧ x < m) ∧ rs.length ≤ m ∧ (∀ u ∈ S, ∀ z ∈ S, ordP u z ∉ es)) _
      ⟨_, _, [], rng m, rfl, rfl, f01, d1.le (by omega), eL1, eD1, by rw [List.nil_append]; exact (rng_asc m).nodup, fun x hx => mem_rng.mp hx, by rw [rng_length]; exact Nat.le_refl _, (fun _ h => nomatch h)⟩ ?_ ?_
    · rintro tt σ H2 ⟨y5, y6, S, rs, rfl, rfl, f2, d2, eL2, eD2, nd, rg, lr, free⟩
      have lS : S.length + rs.length ≤ m := by
        have := nd.length_le_of_subset (l₂ := rng m) fun x hx => mem_rng.mpr (rg x hx)
        rw [List.length_append, rng_length] at this
        exact this
      refine ⟨.ref L, rfl, Nat.zero_le _, fun e ne => ?_⟩
      have se := same_upd (o := .lst []) ne
      refine ⟨.list (rs.map .int), .list [], .lst (SqL.of (se _ _ eL2)) (DpAll.of_ints rs), .lst (SqL.of upd_same) .nil, shaped_ints rs, shaped_ints [], _, rfl, ?_⟩
      rw [eqv_nil]
      have f2 := f2.trans (Same.fm se)
      have d2 := d2.same se
      have eL2 := se _ _ eL2
      have eD2 := se _ _ eD2
      generalize upd H2 e (.lst []) = H2 at f2 d2 eL2 eD2 ⊢
      by_cases hr0 : rs = []
      · subst hr0
        rw [decide_eq_true rfl]
        refine iteF ⟨.ref D, rfl, sortInts (SqL.of eD2) fun p np => ?_⟩
        have t1 := same_upd (o := .lst ((srtI S).map V.int)) np
        refine ⟨p, _, rfl, .inl ⟨SqL.of upd_same, fun t nt => ?_⟩⟩
        have t12 := t1.trans (same_upd (o := .tup ((srtI S).map V.int)) nt)
        rw [List.append_nil] at nd rg
        exact q _ _ (srtI S) (f2.trans (Same.fm t12)) ((d2.same t12).le (by rw [List.length_nil]; omega)) ⟨srtI_asc nd, fun v hv => rg v (mem_srtI.mp hv), fun u hu z hz => free u (mem_srtI.mp hu) z (mem_srtI.mp hz)⟩ upd_same
      · rw [decide_eq_false hr0]
        have hp : 0 < rs.length := List.length_pos_iff.mpr hr0
        refine iteT ⟨.ref L, rfl, .inl ⟨rfl, _, SqL.of eL2⟩, .ref d, rfl, .ref L, rfl, L, _, rfl, .inl (SqL.of eL2), d, l, _, _, rfl, by rw [List.length_map]; omega, by rw [List.length_map]; omega, d2, by omega, fun H3 z z0 z1 f3 d3 => ?_⟩
        rw [List.length_map] at z1
        have hk : z.toNat < rs.length := by omega
        have eL3 := f3 _ _ offL.1 offL.2 eL2
        have eD3 := f3 _ _ offD.1 offD.2 eD2
        refine ⟨L, _, z, z.toNat, .int rs[z.toNat], rfl, rfl, eL3, by omega, by omega, ?_, ?_, ?_⟩
        · unfold seqIndex?
          rw [List.length_map]
          simp
          omega
        · rw [List.getElem?_map, List.getElem?_eq_getElem hk]
          rfl
        have er := erase_prm hk
        generalize hv : rs[z.toNat] = v at er
        have f4 : Fm d l H (upd H3 L (.lst ((rs.map V.int).eraseIdx z.toNat))) := (f2.trans f3).put1 nL
        have d4 : Deck (upd H3 L (.lst ((rs.map V.int).eraseIdx z.toNat))) d l _ := d3.put offL.1 offL.2
        have eL4 : upd H3 L (.lst ((rs.map V.int).eraseIdx z.toNat)) L = some (.lst ((rs.eraseIdx z.toNat).map V.int)) := by rw [upd_same, erase_mp]
        have eD4 : upd H3 L (.lst ((rs.map V.int).eraseIdx z.toNat)) D = some (.lst (S.map V.int)) := by rw [upd_ne nLD.symm]; exact eD3
        generalize upd H3 L (.lst ((rs.map V.int).eraseIdx z.toNat)) = H4 at f4 d4 eL4 eD4 ⊢
        have le : (rs.eraseIdx z.toNat).length + 1 = rs.length := by rw [List.length_eraseIdx_of_lt hk]; omega
        generalize rs.eraseIdx z.toNat = qs at er eL4 le
        have pm : (S ++ v :: qs).Perm (S ++ rs) := List.Perm.append_left S er
        have nd' := pm.nodup_iff.mpr nd
        have rg' : ∀ x ∈ S ++ v :: qs, 0 ≤ x ∧ x < m := fun x hx => rg x (pm.mem_iff.mp hx)
        dsimp only [gName]
        -- near here
        have hx4 := Dp.kt (f4.kt hD) hx (only_forD _ _)
        refine ⟨.ref a, rfl, .int v, rfl, .ref a, m, es, v, rfl, hm, isf, hx4, fun H5 N s5 nN eN => ⟨N, rfl, ⟨_, SqL.of eN⟩, fun C nC => ?_⟩⟩
        have nl : (nearL m es v).length ≤ (rng m).length := List.length_filter_le _ _
        rw [rng_length] at nl
        refine lc_listI (K := K) (fun o => decide (o ∈ S)) .int nC (SqL.of eN) (fun _ => rfl) (fun o _ H' R s6 hR => ?_) (fun o _ _ H' R s6 hR => ⟨.int o, rfl, hR H' _ (Same.refl _) (.int o)⟩) only_int (by omega) (fun H6 ys s6 eC dy => ?_)
        · refine ⟨.int o, rfl, .ref D, rfl, D, S.map V.int, rfl, .inl (SqL.of (s6 _ _ (s5 _ _ eD4))), rfl, flat_ints S, _, rfl, ?_⟩
          have h2 := hR H' (Same.refl _)
          rw [← inV_ints] at h2
          exact h2
        rw [lst_ints dy] at eC
        have s46 := s5.trans s6
        have f6 := f4.trans (Same.fm s46)
        have d6 := d4.same s46
        have eL6 := s46 _ _ eL4
        have eD6 := s46 _ _ eD4
        have offC := (d4.same s5).off nC
        have out : ∀ {H7 : Hp} {S' : List Int} {y5 y6 : Option V}, Fm d l H H7 → Deck H7 d l (n + 1 + 2 * (m - rs.length) + 2) → H7 L = some (.lst (qs.map V.int)) → H7 D = some (.lst (S'.map V.int)) → (S' ++ qs).Nodup → (∀ x ∈ S' ++ qs, 0 ≤ x ∧ x < m) → (∀ u ∈ S', ∀ z ∈ S', ordP u z ∉ es) → ∃ n', n' < rs.length ∧ ∃ (w5 w6 : Option V) (S rs : List Int), [some (V.ref d), some (V.ref a), some (V.ref L), some (V.ref D), some (V.int sh), y5, y6, none] = [some (.ref d), some (.ref a), some (.ref L), some (.ref D), some (.int sh), w5, w6, none] ∧ n' = rs.length ∧ Fm d l H H7 ∧ Deck H7 d l (n + 1 + 2 * (m - rs.length)) ∧ H7 L = some (.lst (rs.map V.int)) ∧ H7 D = some (.lst (S.map V.int)) ∧
            (S ++ rs).Nodup ∧ (∀ x ∈ S ++ rs, 0 ≤ x ∧ x < m) ∧ rs.length ≤ m ∧ (∀ u ∈ S, ∀ z ∈ S, ordP u z ∉ es) := fun g1 g2 g3 g4 g5 g6 g7 => ⟨_, by omega, _, _, _, qs, rfl, rfl, g1, g2.le (by omega), g3, g4, g5, g6, by omega, g7⟩
        have ndS : (S ++ qs).Nodup := nd'.sublist (List.Sublist.append (List.Sublist.refl _) (List.sublist_cons_self _ _))
        have rgS : ∀ x ∈ S ++ qs, 0 ≤ x ∧ x < m := fun x hx => rg' x ((List.Sublist.append (List.Sublist.refl S) (List.sublist_cons_self v qs)).subset hx)
        refine ⟨.ref d, rfl, d, l, _, 4, rfl, by decide, by decide, d6, by omega, fun H7 y y0 y1 f7 d7 => ⟨.int sh, rfl, _, _, rfl, rfl, _, rfl, ?_⟩⟩
        have eC7 := f7 _ _ offC.1 offC.2 eC
        have eL7 := f7 _ _ offL.1 offL.2 eL6
        have eD7 := f7 _ _ offD.1 offD.2 eD6
        have f7' := f6.trans f7
        refine ite2 (fun hc => ?_) (fun hc => ?_)
        rotate_left
        · exact iteF (out f7' (d7.le (by omega)) eL7 eD7 ndS rgS free)
        refine ⟨.ref C, rfl, Nat.zero_le _, fun B nB => ?_⟩
        have s8 := same_upd (o := .lst []) nB
        refine ⟨_, .list [], .lst (SqL.of (s8 _ _ eC7)) (DpAll.of_ints _), .lst (SqL.of upd_same) .nil, shaped_ints _, shaped_ints [], _, rfl, ?_⟩
        rw [eqv_nil]
        have f8 := f7'.trans (Same.fm s8)
        have d8 := d7.same s8
        have eL8 := s8 _ _ eL7
        have eD8 := s8 _ _ eD7
        generalize upd H7 B (.lst []) = H8 at f8 d8 eL8 eD8 ⊢
        refine ite2 (fun hc2 => ?_) (fun hc2 => ?_)
        rotate_left
        · exact out f8 (d8.le (by omega)) eL8 eD8 ndS rgS free
        have hc2 : litL m es S v = [] := of_decide_eq_true hc2
        refine ⟨.ref D, rfl, .inl ⟨rfl, _, SqL.of eD8⟩, .int v, rfl, D, _, _, rfl, rfl, eD8, by rw [List.length_map]; exact small1000 (by omega), ?_⟩
        refine out (S' := S ++ [v]) (f8.put1 nHD) ((d8.put offD.1 offD.2).le (by omega)) (by rw [upd_ne nLD]; exact eL8) (by rw [upd_same, List.map_append]; rfl) ?_ ?_ (set_grow isf free (fun u hu => rg' u (List.mem_append_left _ hu)) hc2)
        · rw [List.append_assoc]
          exact nd'
        · rw [List.append_assoc]
          exact rg'
    · rintro σ H' Q1 Q2 hQ ⟨v, e, h0, h⟩
      refine ⟨v, e, h0, fun p np => ?_⟩
      obtain ⟨d, e', h1, h2, h3, h4, k, hk, h5⟩ := h p np
      exact ⟨d, e', h1, h2, h3, h4, k, hk, hQ _ _ h5⟩
end
end TL
namespace TL
open PySem PySem.Spec PyProof.Rows L2
section
variable {P : Program} {w : World} {K : PySem.W.Frag} {mg : Str → Option Value} {base : Heap}
def pV : Option Int → V
  | none => .non
  | some z => .int z
/-! ### the program: neighbours, lamps in the way -/
def spNeighboursOf (K : PySem.W.Frag) : Sp := fun vs H Q _ => ∃ (x : V) (m : Nat) (es : List (Int × Int)) (v : Int), vs = [x, .int v] ∧ m ≤ 12 ∧ IsFor m es ∧ Dp K H x (forD m es) ∧
  ∀ (H' : Hp) (y : V), Same H H' → Dp K H' y (intsD (nearL m es v)) → Q y H'
theorem dec_int (a b : Int) : decide (V.int a = V.int b) = decide (a = b) := by
  by_cases h : a = b
  · subst h; simp
  · have : ¬ V.int a = V.int b := fun z => h (V.int.inj z)
    rw [decide_eq_false h, decide_eq_false this]
theorem ok_NeighboursOf {f : Addr} {fd : FuncData} {k : Nat} (F : Fun K "neighbours_of" "neighbours_of" sNeighboursOf f fd) (m_tuple : mg "tuple" = none) :
    FnOk P w K mg base CX0 (k + 1) f fd ["forest", "vertex"] (spNeighboursOf K) := by
  refine F.ok scNeighboursOf (fun vs H Q E h => ?_) (fun cdv A outer s H vs Q E hr h => ?_)
  · obtain ⟨x, m, es, v, rfl, _⟩ := h
    rfl
  · obtain ⟨x, m, es, v, rfl, hm, isf, hx, q⟩ := h
    obtain ⟨a, b, xs, rfl, ha, hb, hA⟩ := Dp.forI hx
    have ec := isf.count
    refine ⟨_, (pss_cons (ps_asg (pv 0) (pgTK K (pgs_cons (pg_name (i := 2) scNeighboursOf.nd rfl (Or.inl rfl)) (pgs_cons (pg_name (i := 3) scNeighboursOf.nd rfl (Or.inl rfl)) pgs_nil))))
    (pss_cons (ps_setLc (i := 4) (own := [("a", 6), ("b", 7)]) (g := (gTup K 2 (gCons (gName 6) (gCons (gName 7) gNil)))) (by rfl) scNeighboursOf.nd rfl rfl (sw_true rfl rfl rfl (by decide +kernel)) (piTK K (pv 3))
      (blkOk_by (own := [("a", 6), ("b", 7)]) (N := nNeighboursOf) (sc := (defScope sNeighboursOf)) (by decide +kernel))
      (fun _ _ _ _ _ => (pgTK K (pgs_cons (pg_name (i := 6) scNeighboursOf.nd rfl (Or.inl rfl)) (pgs_cons (pg_name (i := 7) scNeighboursOf.nd rfl (Or.inl rfl)) pgs_nil)))) (fun _ _ _ _ _ => (pts_one (pt_cmpR op_eq (pv 7) (pv 1) (nomark _))))
      (fun _ _ _ _ _ => (pv 6)))
    (pss_cons (ps_setLc (i := 5) (own := [("a", 6), ("b", 7)]) (g := (gTup K 2 (gCons (gName 6) (gCons (gName 7) gNil)))) (by rfl) scNeighboursOf.nd rfl rfl (sw_true rfl rfl rfl (by decide +kernel)) (piTK K (pv 3))
      (blkOk_by (own := [("a", 6), ("b", 7)]) (N := nNeighboursOf) (sc := (defScope sNeighboursOf)) (by decide +kernel))
      (fun _ _ _ _ _ => (pgTK K (pgs_cons (pg_name (i := 6) scNeighboursOf.nd rfl (Or.inl rfl)) (pgs_cons (pg_name (i := 7) scNeighboursOf.nd rfl (Or.inl rfl)) pgs_nil)))) (fun _ _ _ _ _ => (pts_one (pt_cmpR op_eq (pv 6) (pv 1) (nomark _))))
      (fun _ _ _ _ _ => (pv 7)))
    (pss_one (ps_ret (pe_callTy (tupleK K) (by rfl) m_tuple (by decide +kernel) (pa_cons (pe_op op_cat (pv 4) (pv 5)) pa_nil))))))), ?_⟩
    refine ⟨.ref a, rfl, a, _, rfl, ha, rfl, _, _, rfl, _, _, rfl, rfl, ?_⟩
    refine ⟨.ref b, rfl, b, rfl, ⟨_, hb⟩, fun D nD => ?_⟩
    refine lc_tupP (K := K) (fun p => decide (p.2 = v)) (fun p => .int p.1) nD hb hA (fun _ _ => rfl) (fun o _ H' R s1 hR => ?_) (fun o _ _ H' R s1 hR => ?_) (fun o => only_int _) (by omega) (fun H2 ys s2 eD dy => ?_)
    · refine ⟨.int o.2, rfl, .int v, rfl, rfl, _, rfl, ?_⟩
      rw [dec_int]
      exact hR H' (Same.refl _)
    · exact ⟨.int o.1, rfl, hR H' _ (Same.refl _) (.int _)⟩
    refine ⟨.ref b, rfl, b, rfl, ⟨_, Same.tup s2 hb⟩, fun D2 nD2 => ?_⟩
    refine lc_tupP (K := K) (fun p => decide (p.1 = v)) (fun p => .int p.2) nD2 (Same.tup s2 hb) (DpAll.same s2 hA) (fun _ _ => rfl) (fun o _ H' R s1 hR => ?_) (fun o _ _ H' R s1 hR => ?_) (fun o => only_int _) (by omega) (fun H3 zs s3 eD3 dz => ?_)
    · refine ⟨.int o.1, rfl, .int v, rfl, rfl, _, rfl, ?_⟩
      rw [dec_int]
      exact hR H' (Same.refl _)
    · exact ⟨.int o.2, rfl, hR H' _ (Same.refl _) (.int _)⟩
    have e1 : ys = ((es.filter fun p => decide (p.2 = v)).map (·.1)).map V.int := DpAll.ints (by rw [List.map_map]; exact dy)
    have e2 : zs = ((es.filter fun p => decide (p.1 = v)).map (·.2)).map V.int := DpAll.ints (by rw [List.map_map]; exact dz)
    subst e1 e2
    have l1 := List.length_filter_le (fun p => decide (p.2 = v)) es
    have l2 := List.length_filter_le (fun p => decide (p.1 = v)) es
    refine ⟨.ref D, rfl, .ref D2, rfl, D, D2, _, _, rfl, rfl, s3 _ _ eD, eD3, Nat.le_of_lt (small1000 (by rw [List.length_map, List.length_map, List.length_map, List.length_map]; omega)), fun p np => ?_⟩
    rw [← List.map_append]
    have t1 := same_upd (o := .lst ((nbL es v).map V.int)) np
    refine ⟨p, _, rfl, .inl ⟨SqL.of upd_same, fun t nt => ?_⟩⟩
    have t2 := same_upd (o := .tup ((nbL es v).map V.int)) nt
    refine q _ _ (((s2.trans s3).trans t1).trans t2) ?_
    rw [← isf.nb v]
    exact Dp.ints (SqT.of upd_same)
def spBlockingLamps (K : PySem.W.Frag) : Sp := fun vs H Q _ => ∃ (x y : V) (m : Nat) (es : List (Int × Int)) (S : List Int) (u v : Int), vs = [x, y, .int u, .int v] ∧ m ≤ 12 ∧ IsFor m es ∧ Dp K H x (forD m es) ∧ Dp K H y (intsD S) ∧
  ∀ (H' : Hp) (z : V), Same H H' → Dp K H' z (intsD (oth m es S u v)) → Q z H'
theorem ok_BlockingLamps {f : Addr} {fd : FuncData} {k : Nat} (F : Fun K "blocking_lamps" "blocking_lamps" sBlockingLamps f fd) (m_tuple : mg "tuple" = none)
    (oNeighboursOf : Own P w K mg base "neighbours_of" 1 ["forest", "vertex"] (spNeighboursOf K)) :
    FnOk P w K mg base CX0 2 f fd ["forest", "setting", "u", "v"] (spBlockingLamps K) := by
  refine F.ok scBlockingLamps (fun vs H Q E h => ?_) (fun cdv A outer s H vs Q E hr h => ?_)
  · obtain ⟨x, y, m, es, S, u, v, rfl, _⟩ := h
    rfl
  · obtain ⟨x, y, m, es, S, u, v, rfl, hm, isf, hx, hy, q⟩ := h
    obtain ⟨b, rfl, hb⟩ := Dp.intsI hy
    refine ⟨_, (pss_one (ps_ret (pe_callTy (tupleK K) (by rfl) m_tuple (by decide +kernel) (pa_cons (pe_lc (own := [("vertex", 4)]) (g := (gName 4)) rfl scBlockingLamps.nd (piTK K (pe_own oNeighboursOf (hr.mono (by decide)) (by rfl) (pa_cons (pv 0) (pa_cons (pv 3) pa_nil))))
      (blkOk_by (own := [("vertex", 4)]) (N := nBlockingLamps) (sc := (defScope sBlockingLamps)) (by decide +kernel))
      (fun _ _ _ _ _ => (pg_name (i := 4) scBlockingLamps.nd rfl (Or.inl rfl))) (fun _ _ _ _ _ => (pts_one (PW.pt (pw_and (pt_cmpR (inK K) (pv 4) (pv 1) (by rfl)) (pw_and1 (pt_cmpR op_ne (pv 4) (pv 2) (nomark _)))))))
      (fun _ _ _ _ _ => (pv 4))) pa_nil)))), ?_⟩
    refine ⟨x, rfl, .int v, rfl, x, m, es, v, rfl, hm, isf, hx, fun H1 n s1 dn => ?_⟩
    obtain ⟨a, rfl, ha⟩ := Dp.intsI dn
    refine ⟨a, rfl, ⟨_, ha⟩, fun D nD => ?_⟩
    have nl := nearL_len m es v
    refine lc_tupI (K := K) (fun o => decide (o ∈ S) && !decide (o = u)) .int nD ha (fun _ => rfl) (fun o _ H' R s2 hR => ?_) (fun o _ _ H' R s2 hR => ?_) only_int (by omega) (fun H2 ys s2 eD dy => ?_)
    · refine ⟨.int o, rfl, .ref b, rfl, b, S.map V.int, rfl, .inr (Same.tup (s1.trans s2) hb), rfl, flat_ints S, _, rfl, ?_⟩
      have hR' := hR H' (Same.refl _)
      show if (if false = true then _ else inV (V.int o) (S.map V.int)) = true then _ else _
      rw [if_neg Bool.false_ne_true, inV_ints]
      refine ite2 (fun h => ?_) (fun h => ?_)
      · refine ⟨.int o, rfl, .int u, rfl, rfl, _, rfl, ?_⟩
        rw [dec_int]
        rw [h, Bool.true_and] at hR'
        exact hR'
      · rw [Bool.not_eq_true] at h
        rw [h, Bool.false_and] at hR'
        exact hR'
    · exact ⟨.int o, rfl, hR H' _ (Same.refl _) (.int o)⟩
    rw [lst_ints dy] at eD
    refine ⟨D, _, rfl, .inl ⟨SqL.of eD, fun t nt => ?_⟩⟩
    exact q _ _ ((s1.trans s2).trans (same_upd nt)) (Dp.ints (SqT.of upd_same))
/-! ### the program: numbers, settings -/
def spIsNumber : Sp := fun vs H Q _ => ∃ i : Int, vs = [.int i] ∧ Q (.bl true) H
theorem ok_IsNumber {f : Addr} {fd : FuncData} {k : Nat} (F : Fun K "is_number" "is_number" sIsNumber f fd) (m_isinstance : mg "isinstance" = none) (m_int : mg "int" = none) (m_bool : mg "bool" = none) :
    FnOk P w K mg base CX0 (k + 1) f fd ["value"] spIsNumber := by
  refine F.ok scIsNumber (fun vs H Q E h => ?_) (fun cdv A outer s H vs Q E hr h => ?_)
  · obtain ⟨i, rfl, _⟩ := h
    rfl
  · obtain ⟨i, rfl, q⟩ := h
    refine ⟨_, (pss_one (ps_ret (pe_and (pe_callB (isiK K) (by rfl) m_isinstance (by decide +kernel) (pa_cons (pv 0) (pa_cons (pe_bltn (v := .ty "int") (by rfl) m_int (by decide +kernel) rfl) pa_nil))) (pe_one (pe_not (pe_callB (isiK K) (by rfl) m_isinstance (by decide +kernel) (pa_cons (pv 0) (pa_cons (pe_bltn (v := .ty "bool") (by rfl) m_bool (by decide +kernel) rfl) pa_nil)))))))), ?_⟩
    refine ⟨.int i, rfl, _, _, _, _, true, rfl, .ty "int", .base (.int i), kit_ty (by decide +kernel), true, rfl, iteT ?_⟩
    exact ⟨.int i, rfl, _, _, _, _, false, rfl, .ty "bool", .base (.int i), kit_ty (by decide +kernel), false, rfl, q⟩
/-! ### the program: slides -/
/-! ### a lamp is checked -/
def spCheckLamp (K : PySem.W.Frag) : Sp := fun vs H Q _ => ∃ (y : V) (S : List Int) (u : Int), vs = [y, .int u] ∧ Dp K H y (intsD S) ∧ u ∈ S ∧ Q .non H
theorem ok_CheckLamp {f : Addr} {fd : FuncData} (F : Fun K "check_lamp" "check_lamp" sCheckLamp f fd) (oIsNumber : Own P w K mg base "is_number" 1 ["value"] spIsNumber) :
    FnOk P w K mg base CX0 2 f fd ["setting", "value"] (spCheckLamp K) := by
  refine F.ok scCheckLamp (fun vs H Q E h => ?_) (fun cdv A outer s H vs Q E hr h => ?_)
  · obtain ⟨y, S, u, rfl, _⟩ := h
    rfl
  · obtain ⟨y, S, u, rfl, hy, hu, q⟩ := h
    obtain ⟨b, rfl, hb⟩ := Dp.intsI hy
    refine ⟨_, (pss_one (ps_if (PW.pt (pw_or (pt_not (pt_val (pe_own oIsNumber (hr.mono (by decide)) (by rfl) (pa_cons (pv 1) pa_nil)))) (pw_or1 (pt_cmpR (notInK K) (pv 1) (pv 0) (by rfl))))) (pss_one ps_never) pss_nil)), ?_⟩
    refine ⟨.int u, rfl, u, rfl, true, rfl, iteF ⟨.int u, rfl, .ref b, rfl, b, S.map V.int, rfl, .inr hb, rfl, flat_ints S, _, rfl, ?_⟩⟩
    show if (if true = true then !inV (V.int u) (S.map V.int) else _) = true then _ else _
    rw [if_pos rfl, inV_ints, decide_eq_true hu]
    exact iteF q
def spSlideLamp (K : PySem.W.Frag) : Sp := fun vs H Q _ => ∃ (x y : V) (m : Nat) (es : List (Int × Int)) (S : List Int) (u v : Int), vs = [x, y, .int u, .int v] ∧ m ≤ 12 ∧ IsFor m es ∧ Dp K H x (forD m es) ∧ Dp K H y (intsD S) ∧
  IsSet m es S ∧ u ∈ S ∧ v ∈ nearL m es u ∧ oth m es S u v = [] ∧ ∀ (H' : Hp) (z : V), Same H H' → Dp K H' z (intsD (after S u v)) → Q z H'
theorem ok_SlideLamp {f : Addr} {fd : FuncData} (F : Fun K "slide_lamp" "slide_lamp" sSlideLamp f fd) (m_tuple : mg "tuple" = none) (m_sorted : mg "sorted" = none)
    (oIsNumber : Own P w K mg base "is_number" 1 ["value"] spIsNumber) (oCheckLamp : Own P w K mg base "check_lamp" 2 ["setting", "value"] (spCheckLamp K)) (oNeighboursOf : Own P w K mg base "neighbours_of" 1 ["forest", "vertex"] (spNeighboursOf K))
    (oBlockingLamps : Own P w K mg base "blocking_lamps" 2 ["forest", "setting", "u", "v"] (spBlockingLamps K)) :
    FnOk P w K mg base CX0 3 f fd ["forest", "setting", "u", "v"] (spSlideLamp K) := by
  refine F.ok scSlideLamp (fun vs H Q E h => ?_) (fun cdv A outer s H vs Q E hr h => ?_)
  · obtain ⟨x, y, m, es, S, u, v, rfl, _⟩ := h
    rfl
  · obtain ⟨x, y, m, es, S, u, v, rfl, hm, isf, hx, hy, iss, hu, hv, ho, q⟩ := h
    obtain ⟨b, rfl, hb⟩ := Dp.intsI hy
    have ls := iss.len
    refine ⟨_, (pss_cons (ps_expr (pe_own oCheckLamp (hr.mono (by decide)) (by rfl) (pa_cons (pv 1) (pa_cons (pv 2) pa_nil))))
    (pss_cons (ps_if (PW.pt (pw_or (pt_not (pt_val (pe_own oIsNumber (hr.mono (by decide)) (by rfl) (pa_cons (pv 3) pa_nil)))) (pw_or1 (pt_cmpR (notInK K) (pv 3) (pe_own oNeighboursOf (hr.mono (by decide)) (by rfl) (pa_cons (pv 0) (pa_cons (pv 2) pa_nil))) (by rfl))))) (pss_one ps_never) pss_nil)
    (pss_cons (ps_set (i := 4) scSlideLamp.nd rfl (.inl rfl) (pe_own oBlockingLamps (hr.mono (by decide)) (by rfl) (pa_cons (pv 0) (pa_cons (pv 1) (pa_cons (pv 2) (pa_cons (pv 3) pa_nil))))))
    (pss_cons (ps_if (truthK K (pv 4) (by intro _; rfl)) (pss_one ps_never) pss_nil)
    (pss_one (ps_ret (pe_callTy (tupleK K) (by rfl) m_tuple (by decide +kernel) (pa_cons (pe_callB (sortK K hr.units) (by rfl) m_sorted (by decide +kernel) (pa_cons (pe_lc (own := [("lamp", 5)]) (g := (gName 5)) (tt := tYes) rfl scSlideLamp.nd (piTK K (pv 1))
      (blkOk_by (own := [("lamp", 5)]) (N := nSlideLamp) (sc := (defScope sSlideLamp)) (by decide +kernel))
      (fun _ _ _ _ _ => (pg_name (i := 5) scSlideLamp.nd rfl (Or.inl rfl))) (fun _ _ _ _ _ => pts_nil)
      (fun _ _ _ _ _ => (pe_ifExp (pt_cmpR op_eq (pv 5) (pv 2) (nomark _)) (pv 3) (pv 5)))) pa_nil)) pa_nil)))))))), ?_⟩
    -- u
    refine ⟨.ref b, rfl, .int u, rfl, .ref b, S, u, rfl, hy, hu, ?_⟩
    -- v
    refine ⟨.int v, rfl, v, rfl, true, rfl, iteF ⟨.int v, rfl, x, rfl, .int u, rfl, x, m, es, u, rfl, hm, isf, hx, fun H1 n s1 dn => ?_⟩⟩
    obtain ⟨a, rfl, ha⟩ := Dp.intsI dn
    refine ⟨a, _, rfl, .inr ha, rfl, flat_ints _, _, rfl, ?_⟩
    show if (if true = true then !inV (V.int v) ((nearL m es u).map V.int) else _) = true then _ else _
    rw [if_pos rfl, inV_ints, decide_eq_true hv]
    refine iteF ?_
    -- blocking
    refine ⟨x, rfl, .ref b, rfl, .int u, rfl, .int v, rfl, x, _, m, es, S, u, v, rfl, hm, isf, Dp.same s1 hx, Dp.same s1 hy, fun H2 z s2 dz => ?_⟩
    rw [ho] at dz
    obtain ⟨c, rfl, hc⟩ := Dp.intsI dz
    refine ⟨.ref c, rfl, false, .inr (.inl ⟨_, hc, rfl⟩), iteF ?_⟩
    -- the setting
    have s12 := s1.trans s2
    refine ⟨.ref b, rfl, b, rfl, ⟨_, Same.tup s12 hb⟩, fun D nD => ?_⟩
    refine lc_tupI (K := K) (fun _ => true) (fun l => .int (if l = u then v else l)) nD (Same.tup s12 hb) (fun _ => rfl) (fun o _ H' R s3 hR => ?_) (fun o _ _ H' R s3 hR => ?_) (fun o => only_int _) (by omega) (fun H3 ys s3 eD dy => ?_)
    · exact hR H' (Same.refl _)
    · refine ⟨.int o, rfl, .int u, rfl, rfl, _, rfl, ?_⟩
      rw [dec_int]
      have h2 := hR H' (.int (if o = u then v else o)) (Same.refl _) (.int _)
      refine ite2 (fun h => ?_) (fun h => ?_)
      · rw [if_pos (of_decide_eq_true h)] at h2
        exact ⟨.int v, rfl, h2⟩
      · rw [if_neg fun z => h (decide_eq_true z)] at h2
        exact ⟨.int o, rfl, h2⟩
    have e1 : ys = (S.map fun l => if l = u then v else l).map V.int := DpAll.ints (by
      rw [List.map_map]
      have e : (S.filter fun _ => true) = S := List.filter_eq_self.mpr fun _ _ => rfl
      rw [e] at dy
      exact dy)
    subst e1
    refine sortInts (SqL.of eD) fun p np => ?_
    rw [after_eq iss.asc.nodup hu]
    have t1 := same_upd (o := .lst ((after S u v).map V.int)) np
    refine ⟨p, _, rfl, .inl ⟨SqL.of upd_same, fun t nt => ?_⟩⟩
    exact q _ _ (((s12.trans s3).trans t1).trans (same_upd nt)) (Dp.ints (SqT.of upd_same))
def spPossibleSlides (K : PySem.W.Frag) : Sp := fun vs H Q _ => ∃ (x y : V) (m : Nat) (es : List (Int × Int)) (S : List Int), vs = [x, y] ∧ m ≤ 12 ∧ IsFor m es ∧ Dp K H x (forD m es) ∧ Dp K H y (intsD S) ∧
  IsSet m es S ∧ ∀ (H' : Hp) (z : V), Same H H' → Dp K H' z (prsD (slidesP m es S)) → Q z H'
theorem ok_PossibleSlides {f : Addr} {fd : FuncData} (F : Fun K "possible_slides" "possible_slides" sPossibleSlides f fd) (m_tuple : mg "tuple" = none)
    (oNeighboursOf : Own P w K mg base "neighbours_of" 1 ["forest", "vertex"] (spNeighboursOf K))
    (oBlockingLamps : Own P w K mg base "blocking_lamps" 2 ["forest", "setting", "u", "v"] (spBlockingLamps K)) :
    FnOk P w K mg base CX0 3 f fd ["forest", "setting"] (spPossibleSlides K) := by
  refine F.ok scPossibleSlides (fun vs H Q E h => ?_) (fun cdv A outer s H vs Q E hr h => ?_)
  · obtain ⟨x, y, m, es, S, rfl, _⟩ := h
    rfl
  · obtain ⟨x, y, m, es, S, rfl, hm, isf, hx, hy, iss, q⟩ := h
    obtain ⟨b, rfl, hb⟩ := Dp.intsI hy
    have ls := iss.len
    refine ⟨_, (pss_cons (ps_setLc2 (i := 2) (own := [("u", 3), ("v", 4)]) (vs1 := [4]) (g := (gName 3)) (g1 := (gName 4)) (tt := tYes) (tt1 := tYes) (by rfl) scPossibleSlides.nd rfl rfl (sw_true rfl rfl rfl (by decide +kernel)) (piTK K (pv 1))
      (blkOk_by (own := [("u", 3), ("v", 4)]) (N := nPossibleSlides) (sc := (defScope sPossibleSlides)) (by decide +kernel)) (by decide)
      (fun _ _ _ _ _ => (pg_name (i := 3) scPossibleSlides.nd rfl (Or.inl rfl)))
      (fun _ _ _ _ _ => pts_nil)
      (fun _ _ _ _ _ => (piTK K (pe_own oNeighboursOf (hr.mono (by decide)) (by rfl) (pa_cons (pv 0) (pa_cons (pv 3) pa_nil)))))
      (fun _ _ _ _ _ => (pg_name (i := 4) scPossibleSlides.nd rfl (Or.inl rfl)))
      (fun _ _ _ _ _ => pts_nil)
      (fun _ _ _ _ _ => (pe_tup (pa_cons (pv 3) (pa_cons (pv 4) pa_nil)))))
    (pss_one (ps_ret (pe_callTy (tupleK K) (by rfl) m_tuple (by decide +kernel) (pa_cons (pe_lc (own := [("u", 3), ("v", 4)]) (g := (gTup K 2 (gCons (gName 3) (gCons (gName 4) gNil)))) rfl scPossibleSlides.nd (piLK K (pv 2))
      (blkOk_by (own := [("u", 3), ("v", 4)]) (N := nPossibleSlides) (sc := (defScope sPossibleSlides)) (by decide +kernel))
      (fun _ _ _ _ _ => (pgTK K (pgs_cons (pg_name (i := 3) scPossibleSlides.nd rfl (Or.inl rfl)) (pgs_cons (pg_name (i := 4) scPossibleSlides.nd rfl (Or.inl rfl)) pgs_nil)))) (fun _ _ _ _ _ => (pts_one (pt_not (truthK K (pe_own oBlockingLamps (hr.mono (by decide)) (by rfl) (pa_cons (pv 0) (pa_cons (pv 1) (pa_cons (pv 3) (pa_cons (pv 4) pa_nil))))) (by intro _; rfl)))))
      (fun _ _ _ _ _ => (pe_tup (pa_cons (pv 3) (pa_cons (pv 4) pa_nil))))) pa_nil))))), ?_⟩
    refine ⟨.ref b, rfl, b, rfl, ⟨_, hb⟩, fun D nD => ?_⟩
    refine lc2_tup (K := K) (S := S) (nearL m es) (fun u v => prD (u, v)) nD hb (fun _ => rfl) (fun _ _ => rfl) (fun u _ H' R s1 hR => ?_) (fun u _ v _ H' R s1 hR => ?_) (fun u v => only_pr _) (by omega) (fun u _ => by have := nearL_len m es u; omega) (fun H2 ys s2 eD dy => ?_)
    · refine ⟨x, rfl, .int u, rfl, x, m, es, u, rfl, hm, isf, Dp.same s1 hx, fun H2 n s2 dn => ?_⟩
      obtain ⟨a, rfl, ha⟩ := Dp.intsI dn
      exact ⟨a, rfl, ⟨_, ha⟩, hR H2 a s2 ha⟩
    · refine ⟨.int u, rfl, .int v, rfl, by show 2 ≤ sizeLine; decide, fun t nt => hR _ _ (same_upd nt) (Dp.pr (SqT.of upd_same))⟩
    have e1 : (S.flatMap fun u => (nearL m es u).map fun v => prD (u, v)) = (stepsL m es S).map prD := by
      unfold stepsL
      rw [List.map_flatMap]
      congr 1
      funext u
      rw [List.map_map]
      rfl
    rw [e1] at dy
    have sl := steps_len m es S
    have sl2 : S.length * m ≤ 12 * 12 := Nat.mul_le_mul (by omega) hm
    refine ⟨.ref D, rfl, D, rfl, ⟨_, SqL.of eD⟩, fun C nC => ?_⟩
    refine lc_listP (K := K) (fun p => decide (oth m es S p.1 p.2 = [])) prD nC (SqL.of eD) dy (fun _ _ => rfl) (fun o _ H' R s3 hR => ?_) (fun o _ _ H' R s3 hR => ?_) only_pr (by omega) (fun H3 zs s3 eC dz => ?_)
    · have s23 := s2.trans s3
      refine ⟨x, rfl, .ref b, rfl, .int o.1, rfl, .int o.2, rfl, x, _, m, es, S, o.1, o.2, rfl, hm, isf, Dp.same s23 hx, Dp.same s23 hy, fun H4 z s4 dz => ?_⟩
      obtain ⟨c, rfl, hc⟩ := Dp.intsI dz
      refine ⟨_, .inr (.inl ⟨_, hc, rfl⟩), ?_⟩
      have h2 := hR H4 s4
      cases e : oth m es S o.1 o.2 with
      | nil =>
        rw [decide_eq_true e] at h2
        exact h2
      | cons z r =>
        rw [decide_eq_false (by rw [e]; exact fun z => nomatch z)] at h2
        exact h2
    · refine ⟨.int o.1, rfl, .int o.2, rfl, by show 2 ≤ sizeLine; decide, fun t nt => hR _ _ (same_upd nt) (Dp.pr (SqT.of upd_same))⟩
    refine ⟨C, zs, rfl, .inl ⟨SqL.of eC, fun t nt => ?_⟩⟩
    have st := same_upd (o := .tup zs) nt
    exact q _ _ ((s2.trans s3).trans st) (.tup (SqT.of upd_same) (DpAll.same st dz))
/-! ### the program: slides followed -/
def spIsPair (K : PySem.W.Frag) : Sp := fun vs H Q _ => ∃ (z : V) (p : Int × Int), vs = [z] ∧ Dp K H z (prD p) ∧ Q (.bl true) H
theorem ok_IsPair {f : Addr} {fd : FuncData} {k : Nat} (F : Fun K "is_pair" "is_pair" sIsPair f fd) (m_isinstance : mg "isinstance" = none) (m_tuple : mg "tuple" = none) (m_len : mg "len" = none) :
    FnOk P w K mg base CX0 (k + 1) f fd ["value"] (spIsPair K) := by
  refine F.ok scIsPair (fun vs H Q E h => ?_) (fun cdv A outer s H vs Q E hr h => ?_)
  · obtain ⟨z, p, rfl, _⟩ := h
    rfl
  · obtain ⟨z, p, rfl, hz, q⟩ := h
    obtain ⟨a, rfl, ha⟩ := Dp.prI hz
    refine ⟨_, (pss_one (ps_ret (pe_and (pe_callB (isiK K) (by rfl) m_isinstance (by decide +kernel) (pa_cons (pv 0) (pa_cons (pe_bltn (v := .ty "tuple") (by rfl) m_tuple (by decide +kernel) rfl) pa_nil))) (pe_one (pe_cmpR op_eq (pe_callB (lenK K) (by rfl) m_len (by decide +kernel) (pa_cons (pv 0) pa_nil)) pe_int (nomark _)))))), ?_⟩
    refine ⟨.ref a, rfl, _, _, _, _, true, rfl, .ty "tuple", ty_tup ha, kit_ty (by decide +kernel), true, rfl, iteT ?_⟩
    exact ⟨.ref a, rfl, a, _, rfl, .inr ha, rfl, q⟩
def spIsPossible (K : PySem.W.Frag) : Sp := fun vs H Q _ => ∃ (x y z : V) (m : Nat) (es : List (Int × Int)) (S : List Int) (p : Int × Int), vs = [x, y, z] ∧ m ≤ 12 ∧ IsFor m es ∧ Dp K H x (forD m es) ∧ Dp K H y (intsD S) ∧ IsSet m es S ∧ Dp K H z (prD p) ∧
  ∀ H', Same H H' → Q (.bl (decide (p ∈ slidesP m es S))) H'
theorem ok_IsPossible {f : Addr} {fd : FuncData} (F : Fun K "is_possible" "is_possible" sIsPossible f fd) (oIsPair : Own P w K mg base "is_pair" 1 ["value"] (spIsPair K)) (oIsNumber : Own P w K mg base "is_number" 1 ["value"] spIsNumber)
    (oPossibleSlides : Own P w K mg base "possible_slides" 3 ["forest", "setting"] (spPossibleSlides K)) :
    FnOk P w K mg base CX0 4 f fd ["forest", "setting", "value"] (spIsPossible K) := by
  refine F.ok scIsPossible (fun vs H Q E h => ?_) (fun cdv A outer s H vs Q E hr h => ?_)
  · obtain ⟨x, y, z, m, es, S, p, rfl, _⟩ := h
    rfl
  · obtain ⟨x, y, z, m, es, S, p, rfl, hm, isf, hx, hy, iss, hz, q⟩ := h
    obtain ⟨a, rfl, ha⟩ := Dp.prI hz
    refine ⟨_, (pss_cons (ps_if (pt_not (pt_val (pe_own oIsPair (hr.mono (by decide)) (by rfl) (pa_cons (pv 2) pa_nil)))) (pss_one (ps_ret pe_bl)) pss_nil)
    (pss_cons (ps_asg (pv 2) (pgTK K (pgs_cons (pg_name (i := 3) scIsPossible.nd rfl (Or.inl rfl)) (pgs_cons (pg_name (i := 4) scIsPossible.nd rfl (Or.inl rfl)) pgs_nil))))
    (pss_one (ps_ret (pe_and (pe_own oIsNumber (hr.mono (by decide)) (by rfl) (pa_cons (pv 3) pa_nil)) (pe_and (pe_own oIsNumber (hr.mono (by decide)) (by rfl) (pa_cons (pv 4) pa_nil)) (pe_one (pe_cmpR (inDK K hr.units) (pv 2) (pe_own oPossibleSlides (hr.mono (by decide)) (by rfl) (pa_cons (pv 0) (pa_cons (pv 1) pa_nil))) (by rfl))))))))), ?_⟩
    refine ⟨.ref a, rfl, _, p, rfl, hz, true, rfl, iteF ?_⟩
    refine ⟨.ref a, rfl, a, _, rfl, ha, rfl, _, _, rfl, _, _, rfl, rfl, ?_⟩
    refine ⟨.int p.1, rfl, p.1, rfl, true, rfl, iteT ⟨.int p.2, rfl, p.2, rfl, true, rfl, iteT ?_⟩⟩
    refine ⟨.ref a, rfl, x, rfl, y, rfl, x, y, m, es, S, rfl, hm, isf, hx, hy, iss, fun H' r s1 dr => ?_⟩
    refine ⟨prD p, (slidesP m es S).map prD, Dp.same s1 hz, .inr dr, lay_prs _, lay_pr _, dep_pr _, ?_⟩
    have h2 := q H' s1
    rw [← any_pr] at h2
    exact h2
def spFollow (K : PySem.W.Frag) : Sp := fun vs H Q _ => ∃ (x y z : V) (m : Nat) (es : List (Int × Int)) (S T : List Int) (ps : List (Int × Int)), vs = [x, y, z] ∧ m ≤ 12 ∧ IsFor m es ∧ Dp K H x (forD m es) ∧ Dp K H y (intsD S) ∧ IsSet m es S ∧ Dp K H z (prsD ps) ∧
  walk m es S ps = some T ∧ ∀ H' r, Same H H' → IsSet m es T → Dp K H' r (intsD T) → Q r H'
theorem ok_Follow {f : Addr} {fd : FuncData} (F : Fun K "follow" "follow" sFollow f fd) (m_isinstance : mg "isinstance" = none) (m_tuple : mg "tuple" = none) (m_enumerate : mg "enumerate" = none)
    (oIsPossible : Own P w K mg base "is_possible" 4 ["forest", "setting", "value"] (spIsPossible K)) (oSlideLamp : Own P w K mg base "slide_lamp" 3 ["forest", "setting", "u", "v"] (spSlideLamp K)) :
    FnOk P w K mg base CX0 5 f fd ["forest", "setting", "slides"] (spFollow K) := by
  refine F.ok scFollow (fun vs H Q E h => ?_) (fun cdv A outer s H vs Q E hr h => ?_)
  · obtain ⟨x, y, z, m, es, S, T, ps, rfl, _⟩ := h
    rfl
  · obtain ⟨x, y, z, m, es, S, T, ps, rfl, hm, isf, hx, hy, iss, hz, hw, q⟩ := h
    obtain ⟨a, xs, rfl, ha, hA⟩ := Dp.tupI hz
    have xl : xs.length = ps.length := by rw [DpAll.length hA, List.length_map]
    refine ⟨_, (pss_cons (ps_if (pt_not (pt_val (pe_callB (isiK K) (by rfl) m_isinstance (by decide +kernel) (pa_cons (pv 2) (pa_cons (pe_bltn (v := .ty "tuple") (by rfl) m_tuple (by decide +kernel) rfl) pa_nil))))) (pss_one ps_never) pss_nil)
    (pss_cons (ps_set (i := 3) scFollow.nd rfl (.inl rfl) (pv 1))
    (pss_cons (ps_for PassesOwn.never rfl (pi_enumT K (by rfl) m_enumerate (pa_cons (pv 2) pa_nil)) (pgTK K (pgs_cons (pg_name (i := 4) scFollow.nd rfl (Or.inl rfl)) (pgs_cons (pg_name (i := 5) scFollow.nd rfl (Or.inl rfl)) pgs_nil)))
    (pss_cons (ps_if (pt_not (pt_val (pe_own oIsPossible (hr.mono (by decide)) (by rfl) (pa_cons (pv 0) (pa_cons (pv 3) (pa_cons (pv 5) pa_nil)))))) (pss_one ps_never) pss_nil)
    (pss_cons (ps_asg (pv 5) (pgTK K (pgs_cons (pg_name (i := 6) scFollow.nd rfl (Or.inl rfl)) (pgs_cons (pg_name (i := 7) scFollow.nd rfl (Or.inl rfl)) pgs_nil))))
    (pss_one (ps_set (i := 3) scFollow.nd rfl (.inl rfl) (pe_own oSlideLamp (hr.mono (by decide)) (by rfl) (pa_cons (pv 0) (pa_cons (pv 3) (pa_cons (pv 6) (pa_cons (pv 7) pa_nil))))))))))
    (pss_one (ps_ret (pv 3)))))), ?_⟩
    refine ⟨.ref a, rfl, _, _, _, _, true, rfl, .ty "tuple", ty_tup ha, kit_ty (by decide +kernel), true, rfl, iteF ?_⟩
    refine ⟨y, rfl, .ref a, rfl, a, xs, rfl, ha, for_enumT (K := K) (a := a) (xs := xs) (fun i σ H' => ∃ (y4 y5 y6 y7 : Option V) (r : V) (R : List Int), σ = [some x, some y, some (.ref a), some r, y4, y5, y6, y7] ∧ Same H H' ∧
      Dp K H' r (intsD R) ∧ IsSet m es R ∧ walk m es R (ps.drop i) = some T) ?_ ?_ ?_ ?_⟩
    · exact ⟨none, none, none, none, y, S, rfl, Same.refl _, hy, iss, hw⟩
    · rintro i σ H' ⟨y4, y5, y6, y7, r, R, rfl, s1, _⟩
      exact Same.tup s1 ha
    · rintro i v t σ H1 hv nt ⟨y4, y5, y6, y7, r, R, rfl, s1, dr, isr, hwr⟩
      have st := same_upd (o := .tup [.int (i : Nat), v]) nt
      obtain ⟨z, hz', dz⟩ := DpAll.get hA hv
      rw [List.getElem?_map] at hz'
      obtain ⟨p, hp, rfl⟩ := Option.map_eq_some_iff.mp hz'
      obtain ⟨hi, ep⟩ := List.getElem?_eq_some_iff.mp hp
      rw [List.drop_eq_getElem_cons hi, ep] at hwr
      obtain ⟨pin, hw2⟩ := walk_cons hwr
      have s2 := s1.trans st
      have dv := Dp.same s2 dz
      have hx2 := Dp.same s2 hx
      have dr2 := Dp.same st dr
      refine ⟨t, _, rfl, SqT.of upd_same, rfl, _, _, rfl, _, _, rfl, rfl, ?_⟩
      refine ⟨x, rfl, r, rfl, v, rfl, x, r, v, m, es, R, p, rfl, hm, isf, hx2, dr2, isr, dv, fun H2 s3 => ⟨true, ?_, iteF ?_⟩⟩
      · rw [decide_eq_true pin]
      obtain ⟨b, rfl, hb⟩ := Dp.prI (Dp.same s3 dv)
      refine ⟨.ref b, rfl, b, _, rfl, hb, rfl, _, _, rfl, _, _, rfl, rfl, ?_⟩
      obtain ⟨hu, hv2, ho⟩ := mem_slidesP.mp (show (p.1, p.2) ∈ slidesP m es R from pin)
      refine ⟨x, rfl, r, rfl, .int p.1, rfl, .int p.2, rfl, x, r, m, es, R, p.1, p.2, rfl, hm, isf, Dp.same s3 hx2, Dp.same s3 dr2, isr, hu, hv2, ho, fun H3 r' s4 dr' => ?_⟩
      exact ⟨_, _, _, _, r', after R p.1 p.2, rfl, (s2.trans s3).trans s4, dr', IsSet.slide isf isr pin, hw2⟩
    · rintro σ H1 ⟨y4, y5, y6, y7, r, R, rfl, s1, dr, isr, hwr⟩
      rw [xl, List.drop_length] at hwr
      cases hwr
      exact ⟨r, rfl, q H1 r s1 isr dr⟩
/-! ### backward -/
theorem bk_bk (ps : List (Int × Int)) : bk (bk ps) = ps := by
  unfold bk
  rw [List.map_reverse, List.reverse_reverse, List.map_map]
  exact List.map_id'' (fun p => rfl) ps
theorem bk_append (ps qs : List (Int × Int)) : bk (ps ++ qs) = bk qs ++ bk ps := by
  unfold bk
  rw [List.map_append, List.reverse_append]
def spBackward (K : PySem.W.Frag) : Sp := fun vs H Q _ => ∃ (x : V) (ps : List (Int × Int)), vs = [x] ∧ Dp K H x (prsD ps) ∧ ps.length ≤ 900 ∧
  ∀ H' y, Same H H' → Dp K H' y (prsD (bk ps)) → Q y H'
theorem bk_take {ps : List (Int × Int)} {i : Nat} {p : Int × Int} (hi : i < ps.length) (h : ps[ps.length - 1 - i]? = some p) :
    (bk ps).take (i + 1) = (bk ps).take i ++ [(p.2, p.1)] := by
  have e : (bk ps)[i]? = some (p.2, p.1) := by
    unfold bk
    rw [List.getElem?_reverse (by rw [List.length_map]; exact hi), List.getElem?_map, List.length_map, h]
    rfl
  rw [List.take_add_one, e]
  rfl
theorem ok_Backward {f : Addr} {fd : FuncData} {k : Nat} (F : Fun K "backward" "backward" sBackward f fd) (m_tuple : mg "tuple" = none) (m_reversed : mg "reversed" = none) :
    FnOk P w K mg base CX0 (k + 1) f fd ["slides"] (spBackward K) := by
  refine F.ok scBackward (fun vs H Q E h => ?_) (fun cdv A outer s H vs Q E hr h => ?_)
  · obtain ⟨x, ps, rfl, _⟩ := h
    rfl
  · obtain ⟨x, ps, rfl, hx, hlen, q⟩ := h
    obtain ⟨a, xs, rfl, hS, hA⟩ := Dp.tupI hx
    have exl : xs.length = ps.length := by rw [DpAll.length hA, List.length_map]
    refine ⟨_, (pss_one (ps_ret (pe_callTy (tupleK K) (by rfl) m_tuple (by decide +kernel) (pa_cons (pe_lc (own := [("u", 1), ("v", 2)]) (g := (gTup K 2 (gCons (gName 1) (gCons (gName 2) gNil)))) (tt := tYes) rfl scBackward.nd (RT.pi_revA (by rfl) m_reversed (pv 0))
      (blkOk_by (own := [("u", 1), ("v", 2)]) (N := nBackward) (sc := (defScope sBackward)) (by decide +kernel))
      (fun _ _ _ _ _ => (pgTK K (pgs_cons (pg_name (i := 1) scBackward.nd rfl (Or.inl rfl)) (pgs_cons (pg_name (i := 2) scBackward.nd rfl (Or.inl rfl)) pgs_nil)))) (fun _ _ _ _ _ => pts_nil)
      (fun _ _ _ _ _ => (pe_tup (pa_cons (pv 2) (pa_cons (pv 1) pa_nil))))) pa_nil)))), ?_⟩
    refine ⟨.ref a, rfl, a, xs, rfl, .inr ⟨hS, fun D nD => ?_⟩⟩
    refine lc_revT (K := K) (a := a) (xs := xs) (fun i H' => ∃ ys, Same H H' ∧ H' D = some (.lst ys) ∧ DpAll K H' ys (((bk ps).take i).map prD)) ?_ ?_ ?_ ?_
    · exact ⟨[], same_upd nD, upd_same, .nil⟩
    · rintro i H' ⟨ys, s1, _⟩
      exact Same.tup s1 hS
    · rintro i x H' hi hx' ⟨ys, s1, e1, a1⟩
      obtain ⟨z, hz, dz⟩ := DpAll.get hA hx'
      rw [List.getElem?_map] at hz
      obtain ⟨p, hp, rfl⟩ := Option.map_eq_some_iff.mp hz
      obtain ⟨t, rfl, hT⟩ := Dp.prI (Dp.same s1 dz)
      refine ⟨t, _, rfl, hT, rfl, .int p.1, [.int p.2], rfl, .int p.2, [], rfl, rfl, rfl, yesI (iteT ?_)⟩
      refine ⟨.int p.2, rfl, .int p.1, rfl, by show 2 ≤ sizeLine; decide, fun u nu => ?_⟩
      have st := same_upd (o := .tup [.int p.2, .int p.1]) nu
      refine ⟨ys, st _ _ e1, ?_, ys ++ [.ref u], ?_, upd_same, ?_⟩
      · have := DpAll.length a1
        rw [List.length_map, List.length_take, bk_length] at this
        exact small1000 (by omega)
      · intro b o e
        have nb : b ≠ D := ne_of_none e nD
        rw [upd_ne nb]
        exact st _ _ (s1 _ _ e)
      · have kt2 : KT K (upd H' u (.tup [.int p.2, .int p.1])) (upd (upd H' u (.tup [.int p.2, .int p.1])) D (.lst (ys ++ [.ref u]))) := kt_lst (st _ _ e1)
        rw [exl] at hp hi
        rw [bk_take hi hp, List.map_append]
        refine DpAll.append (DpAll.kt ((Same.kt st).trans kt2) a1 (only_prs _)) (.cons ?_ .nil)
        exact Dp.kt kt2 (Dp.pr (SqT.of upd_same)) (only_pr _)
    · rintro H' ⟨ys, s1, e1, a1⟩
      rw [exl, ← bk_length ps, List.take_length] at a1
      refine ⟨D, ys, rfl, .inl ⟨SqL.of e1, fun t nt => ?_⟩⟩
      have st := same_upd (o := .tup ys) nt
      exact q _ _ (s1.trans st) (.tup (SqT.of upd_same) (DpAll.same st a1))
end
end TL
namespace TL
open PySem PySem.Spec PyProof.Rows L2
section
variable {P : Program} {w : World} {K : PySem.W.Frag} {mg : Str → Option Value} {base : Heap}
/-! ### values of any kind: what isinstance says -/
def isN : V → Bool
  | .int _ => true
  | _ => false
/-- what isinstance says of it -/
def Kd (K : PySem.W.Frag) (H : Hp) (v : V) : Prop := ∃ (t : Value) (a b : Bool), TyX K H v t ∧ PySem.W.kitOne K t (.type "int") = some a ∧ PySem.W.kitOne K t (.type "bool") = some b ∧ (a && !b) = isN v
theorem Kd.int {H : Hp} (i : Int) : Kd K H (.int i) := ⟨_, true, false, .base (.int i), kit_ty (by decide +kernel), kit_ty (by decide +kernel), rfl⟩
theorem tyOf_same {H H' : Hp} (s : Same H H') {v : V} {t : Value} (h : TyOf K H v t) : TyOf K H' v t := by
  cases h with
  | non => exact .non
  | bl x => exact .bl x
  | int i => exact .int i
  | str x => exact .str x
  | flt x => exact .flt x
  | lst e => exact .lst (s _ _ e)
  | frz e => exact .frz (s _ _ e)
  | tup e => exact .tup (s _ _ e)
  | dK e => exact .dK (s _ _ e)
  | dT e => exact .dT (s _ _ e)
  | ins e c1 c2 c3 c4 c5 => exact .ins (s _ _ e) c1 c2 c3 c4 c5
theorem tyX_same {H H' : Hp} (s : Same H H') {v : V} {t : Value} (h : TyX K H v t) : TyX K H' v t := by
  cases h with
  | base b => exact .base (tyOf_same s b)
  | byt b => exact .byt b
  | set e => exact .set (s _ _ e)
  | kList e c => exact .kList e c
  | kTuple e c => exact .kTuple e c
  | kDict e c => exact .kDict e c
  | fTuple e => exact .fTuple (s _ _ e)
  | fDict e => exact .fDict (s _ _ e)
theorem Kd.same {H H' : Hp} {v : V} (s : Same H H') (h : Kd K H v) : Kd K H' v := by
  obtain ⟨t, a, b, ty, r⟩ := h
  exact ⟨t, a, b, tyX_same s ty, r⟩
/-- an error with one field that flies -/
def Fl (E : XK) (H : Hp) (C : Addr) (f : Str) (y : V) : Prop := ∀ (H' : Hp) (dd : Addr), Same H H' → H' dd = some (.xd [(f, y)]) → E (.ref C) (some dd) H'
def spIsNumberV (K : PySem.W.Frag) : Sp := fun vs H Q _ => ∃ v : V, vs = [v] ∧ Kd K H v ∧ Q (.bl (isN v)) H
theorem ok_IsNumberV {f : Addr} {fd : FuncData} {k : Nat} (F : Fun K "is_number" "is_number" sIsNumber f fd) (m_isinstance : mg "isinstance" = none) (m_int : mg "int" = none) (m_bool : mg "bool" = none) :
    FnOk P w K mg base CX0 (k + 1) f fd ["value"] (spIsNumberV K) := by
  refine F.ok scIsNumber (fun vs H Q E h => ?_) (fun cdv A outer s H vs Q E hr h => ?_)
  · obtain ⟨v, rfl, _⟩ := h
    rfl
  · obtain ⟨v, rfl, ⟨t, a, b, ty, k1, k2, e⟩, q⟩ := h
    refine ⟨_, (pss_one (ps_ret (pe_and (pe_callB (isiK K) (by rfl) m_isinstance (by decide +kernel) (pa_cons (pv 0) (pa_cons (pe_bltn (v := .ty "int") (by rfl) m_int (by decide +kernel) rfl) pa_nil))) (pe_one (pe_not (pe_callB (isiK K) (by rfl) m_isinstance (by decide +kernel) (pa_cons (pv 0) (pa_cons (pe_bltn (v := .ty "bool") (by rfl) m_bool (by decide +kernel) rfl) pa_nil)))))))), ?_⟩
    refine ⟨v, rfl, _, _, _, _, a, rfl, .ty "int", ty, k1, a, rfl, ?_⟩
    rw [← e] at q
    cases a with
    | false => exact iteF q
    | true => exact iteT ⟨v, rfl, _, _, _, _, b, rfl, .ty "bool", ty, k2, b, rfl, q⟩
/-! ### the program: errors of forests, values of any kind -/
/-- how an item looks -/
inductive Iw (K : PySem.W.Frag) (H : Hp) : V → Option (V × V) → Prop
  | no {v : V} {t : Value} (h : TyX K H v t) (k : PySem.W.kitOne K t (.type "tuple") = some false) : Iw K H v none
  | len {a : Addr} {xs : List V} (h : SqT K H a xs) (l : xs.length ≠ 2) : Iw K H (.ref a) none
  | two {a : Addr} {u v : V} (h : SqT K H a [u, v]) (ku : Kd K H u) (kv : Kd K H v) : Iw K H (.ref a) (some (u, v))
theorem Iw.same {H H' : Hp} (s : Same H H') {v : V} {o : Option (V × V)} (h : Iw K H v o) : Iw K H' v o := by
  cases h with
  | no h k => exact .no (tyX_same s h) k
  | len h l => exact .len (Same.tup s h) l
  | two h ku kv => exact .two (Same.tup s h) (ku.same s) (kv.same s)
def prV : Option (V × V) → Option (Int × Int)
  | some (.int a, .int b) => some (a, b)
  | _ => none
theorem prV_some {o : Option (V × V)} {p : Int × Int} (h : prV o = some p) : o = some (.int p.1, .int p.2) := by
  unfold prV at h
  split at h
  · cases h; rfl
  · cases h
def spIsPairV (K : PySem.W.Frag) : Sp := fun vs H Q _ => ∃ (z : V) (o : Option (V × V)), vs = [z] ∧ Iw K H z o ∧ Q (.bl o.isSome) H
theorem ok_IsPairV {f : Addr} {fd : FuncData} {k : Nat} (F : Fun K "is_pair" "is_pair" sIsPair f fd) (m_isinstance : mg "isinstance" = none) (m_tuple : mg "tuple" = none) (m_len : mg "len" = none) :
    FnOk P w K mg base CX0 (k + 1) f fd ["value"] (spIsPairV K) := by
  refine F.ok scIsPair (fun vs H Q E h => ?_) (fun cdv A outer s H vs Q E hr h => ?_)
  · obtain ⟨z, o, rfl, _⟩ := h
    rfl
  · obtain ⟨z, o, rfl, hz, q⟩ := h
    refine ⟨_, (pss_one (ps_ret (pe_and (pe_callB (isiK K) (by rfl) m_isinstance (by decide +kernel) (pa_cons (pv 0) (pa_cons (pe_bltn (v := .ty "tuple") (by rfl) m_tuple (by decide +kernel) rfl) pa_nil))) (pe_one (pe_cmpR op_eq (pe_callB (lenK K) (by rfl) m_len (by decide +kernel) (pa_cons (pv 0) pa_nil)) pe_int (nomark _)))))), ?_⟩
    cases hz with
    | no h k => exact ⟨z, rfl, _, _, _, _, false, rfl, .ty "tuple", h, k, false, rfl, iteF q⟩
    | @len a xs h l =>
      refine ⟨.ref a, rfl, _, _, _, _, true, rfl, .ty "tuple", ty_tup h, kit_ty (by decide +kernel), true, rfl, iteT ?_⟩
      refine ⟨.ref a, rfl, a, _, rfl, .inr h, rfl, ?_⟩
      rw [decide_eq_false (by intro z; exact l (by injection z with z; omega))]
      exact q
    | @two a u v h ku kv =>
      refine ⟨.ref a, rfl, _, _, _, _, true, rfl, .ty "tuple", ty_tup h, kit_ty (by decide +kernel), true, rfl, iteT ?_⟩
      exact ⟨.ref a, rfl, a, _, rfl, .inr h, rfl, q⟩
/-- a list of items -/
inductive Iws (K : PySem.W.Frag) (H : Hp) : List V → List (Option (V × V)) → Prop
  | nil : Iws K H [] []
  | cons {v : V} {vs : List V} {o : Option (V × V)} {os : List (Option (V × V))} (h : Iw K H v o) (t : Iws K H vs os) : Iws K H (v :: vs) (o :: os)
theorem Iws.same {H H' : Hp} (s : Same H H') : ∀ {vs : List V} {os : List (Option (V × V))}, Iws K H vs os → Iws K H' vs os
  | _, _, .nil => .nil
  | _, _, .cons h t => .cons (h.same s) (t.same s)
theorem Iws.drop {H : Hp} : ∀ {vs : List V} {os : List (Option (V × V))} (i : Nat) {v : V}, Iws K H vs os → vs[i]? = some v → ∃ o, os.drop i = o :: os.drop (i + 1) ∧ Iw K H v o
  | _, _, i, _, .nil, h => by cases i <;> cases h
  | _, _, 0, _, .cons h t, e => by cases e; exact ⟨_, rfl, h⟩
  | _, _, i + 1, _, .cons h t, e => by
    obtain ⟨o, h1, h2⟩ := Iws.drop i t e
    exact ⟨o, h1, h2⟩
theorem Iws.len {H : Hp} : ∀ {vs : List V} {os : List (Option (V × V))}, Iws K H vs os → vs.length = os.length
  | _, _, .nil => rfl
  | _, _, .cons _ t => congrArg (· + 1) t.len
/-- how the slides look -/
inductive Sv (K : PySem.W.Frag) (H : Hp) : V → Option (List (Option (V × V))) → Prop
  | no {v : V} {t : Value} (h : TyX K H v t) (k : PySem.W.kitOne K t (.type "tuple") = some false) : Sv K H v none
  | yes {a : Addr} {xs : List V} {os : List (Option (V × V))} (h : SqT K H a xs) (i : Iws K H xs os) (l : xs.length ≤ 400) : Sv K H (.ref a) (some os)
theorem Sv.same {H H' : Hp} (s : Same H H') {v : V} {o : Option (List (Option (V × V)))} (h : Sv K H v o) : Sv K H' v o := by
  cases h with
  | no h k => exact .no (tyX_same s h) k
  | yes h i l => exact .yes (Same.tup s h) (i.same s) l
def vx (m : Nat) : V → Bool
  | .int i => decide (0 ≤ i ∧ i < (m : Int))
  | _ => false
def spIsVertexV (K : PySem.W.Frag) : Sp := fun vs H Q _ => ∃ (n : Nat) (v : V), vs = [.int (n : Int), v] ∧ Kd K H v ∧ Q (.bl (vx n v)) H
theorem ok_IsVertexV {f : Addr} {fd : FuncData} (F : Fun K "is_vertex" "is_vertex" sIsVertex f fd) (oIsNumber : Own P w K mg base "is_number" 1 ["value"] (spIsNumberV K)) :
    FnOk P w K mg base CX0 2 f fd ["n", "value"] (spIsVertexV K) := by
  refine F.ok scIsVertex (fun vs H Q E h => ?_) (fun cdv A outer s H vs Q E hr h => ?_)
  · obtain ⟨n, v, rfl, _⟩ := h
    rfl
  · obtain ⟨n, v, rfl, kd, q⟩ := h
    refine ⟨_, (pss_one (ps_ret (pe_and (pe_own oIsNumber (hr.mono (by decide)) (by rfl) (pa_cons (pv 1) pa_nil)) (pe_one (pe_chain op_le op_lt pe_int (pv 1) (pv 0)))))), ?_⟩
    refine ⟨v, rfl, v, rfl, kd, isN v, rfl, ?_⟩
    cases v with
    | int v =>
      refine iteT ?_
      refine ⟨.int v, rfl, _, _, rfl, rfl, _, rfl, ite2 (fun h => ?_) (fun h => ?_)⟩
      · have h := of_decide_eq_true h
        refine ⟨.int n, rfl, _, _, rfl, rfl, ?_⟩
        have e : vx n (.int v) = decide (v < (n : Int)) := by
          show decide (0 ≤ v ∧ v < (n : Int)) = _
          by_cases h2 : v < (n : Int)
          · rw [decide_eq_true h2, decide_eq_true (show 0 ≤ v ∧ v < (n : Int) from ⟨h, h2⟩)]
          · rw [decide_eq_false h2, decide_eq_false (show ¬ (0 ≤ v ∧ v < (n : Int)) from fun z => h2 z.2)]
        rw [e] at q
        exact q
      · have h : ¬ 0 ≤ v := fun z => h (decide_eq_true z)
        have e : vx n (.int v) = false := decide_eq_false (show ¬ (0 ≤ v ∧ v < (n : Int)) from fun z => h z.1)
        rw [e] at q
        exact q
    | _ => exact iteF q
def spMerged : Sp := fun vs H Q _ => ∃ (L : Addr) (f : Int → Int) (ws : List Int) (a b : Int), vs = [.ref L, .int a, .int b] ∧ H L = some (.dK (tab f ws)) ∧ ws.Nodup ∧ ws.length ≤ 100 ∧ a ∈ ws ∧ b ∈ ws ∧
  ∀ (H' : Hp) (D : Addr), Same H H' → H D = none → H' D = some (.dK (tab (mrg f a b) ws)) → Q (.ref D) H'
theorem ok_Merged {f : Addr} {fd : FuncData} {k : Nat} (F : Fun K "merged" "merged" sMerged f fd) : FnOk P w K mg base CX0 (k + 1) f fd ["labels", "a", "b"] spMerged := by
  refine F.ok scMerged (fun vs H Q E h => ?_) (fun cdv A outer s H vs Q E hr h => ?_)
  · obtain ⟨L, f, ws, a, b, rfl, _⟩ := h
    rfl
  · obtain ⟨L, f, ws, a, b, rfl, hL, nd, lw, ha, hb, q⟩ := h
    refine ⟨_, (pss_cons (ps_set (i := 3) scMerged.nd rfl (.inr rfl) (pe_dget (hu_of hr) (pv 0) (pv 1) (fun _ _ => rfl)))
    (pss_cons (ps_set (i := 4) scMerged.nd rfl (.inr rfl) (pe_dget (hu_of hr) (pv 0) (pv 2) (fun _ _ => rfl)))
    (pss_one (ps_ret (pe_lock (pe_dc (own := [("vertex", 5)]) (g := (gName 5)) (tt := tYes) rfl scMerged.nd (pi_keys (pv 0))
      (blkOk_by (own := [("vertex", 5)]) (N := nMerged) (sc := (defScope sMerged)) (by decide +kernel))
      (fun _ _ _ _ _ => (pg_name (i := 5) scMerged.nd rfl (Or.inl rfl))) (fun _ _ _ _ _ => pts_nil)
      (fun _ _ _ _ _ => (pv 5))
      (fun _ _ _ _ _ => (pe_ifExp (pt_cmpR op_eq (pe_dget (hu_of hr) (pv 0) (pv 5) (fun _ _ => rfl)) (pv 3) (nomark _)) (pv 4) (pe_dget (hu_of hr) (pv 0) (pv 5) (fun _ _ => rfl)))))))))), ?_⟩
    have va : valV (tab f ws) (Sum.inl a) = some (.int (f a)) := by rw [tab_val, if_pos ha]
    have vb : valV (tab f ws) (Sum.inl b) = some (.int (f b)) := by rw [tab_val, if_pos hb]
    refine ⟨.ref L, rfl, .int a, rfl, L, .int (f a), rfl, va ▸ DGet.k (k := Sum.inl a) hL, ?_⟩
    refine ⟨.ref L, rfl, .int b, rfl, L, .int (f b), rfl, vb ▸ DGet.k (k := Sum.inl b) hL, ?_⟩
    refine ⟨L, _, hL, trivial, fun od => ?_⟩
    have eL : upd H L (.frz od (.dK (tab f ws))) L = some (.frz od (.dK (tab f ws))) := upd_same
    refine ⟨.ref L, rfl, L, od, rfl, .inl ⟨_, eL, fun D nD => ?_⟩⟩
    have nLD : L ≠ D := ne_of_none eL nD
    have nHD : H D = none := by rw [upd_ne nLD.symm] at nD; exact nD
    refine dc_tab (mrg f a b) ws (fun v => [some (.ref L), some (.int a), some (.int b), some (.int (f a)), some (.int (f b)), some (.int v)]) nd nD (by omega) (fun j H' hj s1 => ⟨s1 _ _ eL, by rw [tab_len]; exact hj⟩) (fun H' s1 => ⟨s1 _ _ eL, by rw [tab_len]; exact Nat.le_refl _⟩) (fun j v x H' H'' hv s1 y => ?_) (fun v => rfl) (fun v _ H' R s1 hR => ?_) (fun v hv H' R s1 hR => ?_) (fun H' s1 eD => ?_)
    · obtain ⟨e, k, z, hk, hx⟩ := y
      unfold tab at hk
      rw [List.getElem?_map, hv] at hk
      cases hk
      subst hx
      exact ⟨e, fun Q q => q⟩
    · exact ⟨.int v, rfl, hR⟩
    · have vv : valV (tab f ws) (Sum.inl v) = some (.int (f v)) := by rw [tab_val, if_pos hv]
      have dg : DGet H' L (.int v) (some (.int (f v))) := by
        rw [← vv]
        exact .inl ⟨tab f ws, Sum.inl v, .inr ⟨od, s1 _ _ eL⟩, rfl, rfl⟩
      refine ⟨.ref L, rfl, .int v, rfl, L, .int (f v), rfl, dg, .int (f a), rfl, rfl, _, rfl, ?_⟩
      rw [decInt]
      have h2 := hR H' (Same.refl _)
      unfold mrg at h2
      refine ite2 (fun h => ?_) (fun h => ?_)
      · rw [if_pos (of_decide_eq_true h)] at h2
        exact ⟨.int (f b), rfl, h2⟩
      · rw [if_neg fun z => h (decide_eq_true z)] at h2
        exact ⟨.ref L, rfl, .int v, rfl, L, .int (f v), rfl, dg, h2⟩
    · refine ⟨s1 _ _ eL, q _ D (fun c o e => ?_) nHD ?_⟩
      · by_cases hc : c = L
        · rw [hc, upd_same]
          rw [hc, hL] at e
          exact e
        · rw [upd_ne hc]
          exact s1 _ _ (by rw [upd_ne hc]; exact e)
      · rw [upd_ne nLD.symm]
        exact eD
/-- an edge over m vertices -/
def edgeO (m : Nat) (o : Option (V × V)) : Option (Int × Int) := match prV o with
  | some p => if 0 ≤ p.1 ∧ p.1 < p.2 ∧ p.2 < (m : Int) then some p else none
  | none => none
theorem edgeO_some {m : Nat} {o : Option (V × V)} {p : Int × Int} (h : edgeO m o = some p) : o = some (.int p.1, .int p.2) ∧ 0 ≤ p.1 ∧ p.1 < p.2 ∧ p.2 < (m : Int) := by
  unfold edgeO at h
  cases e : prV o with
  | none => rw [e] at h; cases h
  | some q =>
    rw [e] at h
    have h : (if 0 ≤ q.1 ∧ q.1 < q.2 ∧ q.2 < (m : Int) then some q else none) = some p := h
    by_cases c : 0 ≤ q.1 ∧ q.1 < q.2 ∧ q.2 < (m : Int)
    · rw [if_pos c] at h
      cases h
      exact ⟨prV_some e, c⟩
    · rw [if_neg c] at h
      cases h
def spIsEdge (K : PySem.W.Frag) : Sp := fun vs H Q _ => ∃ (m : Nat) (z : V) (o : Option (V × V)), vs = [.int (m : Int), z] ∧ Iw K H z o ∧ Q (.bl (edgeO m o).isSome) H
theorem ok_IsEdge {f : Addr} {fd : FuncData} (F : Fun K "is_edge" "is_edge" sIsEdge f fd) (oIsPair : Own P w K mg base "is_pair" 1 ["value"] (spIsPairV K)) (oIsVertex : Own P w K mg base "is_vertex" 2 ["n", "value"] (spIsVertexV K)) :
    FnOk P w K mg base CX0 3 f fd ["n", "value"] (spIsEdge K) := by
  refine F.ok scIsEdge (fun vs H Q E h => ?_) (fun cdv A outer s H vs Q E hr h => ?_)
  · obtain ⟨m, z, o, rfl, _⟩ := h
    rfl
  · obtain ⟨m, z, o, rfl, hz, q⟩ := h
    refine ⟨_, (pss_cons (ps_if (pt_not (pt_val (pe_own oIsPair (hr.mono (by decide)) (by rfl) (pa_cons (pv 1) pa_nil)))) (pss_one (ps_ret pe_bl)) pss_nil)
    (pss_cons (ps_asg (pv 1) (pgTK K (pgs_cons (pg_name (i := 2) scIsEdge.nd rfl (Or.inl rfl)) (pgs_cons (pg_name (i := 3) scIsEdge.nd rfl (Or.inl rfl)) pgs_nil))))
    (pss_one (ps_ret (pe_and (pe_own oIsVertex (hr.mono (by decide)) (by rfl) (pa_cons (pv 0) (pa_cons (pv 2) pa_nil))) (pe_and (pe_own oIsVertex (hr.mono (by decide)) (by rfl) (pa_cons (pv 0) (pa_cons (pv 3) pa_nil))) (pe_one (pe_cmpR op_lt (pv 2) (pv 3) (nomark _))))))))), ?_⟩
    refine ⟨z, rfl, z, o, rfl, hz, o.isSome, rfl, ?_⟩
    cases hz with
    | no h k => exact iteT q
    | len h l => exact iteT q
    | @two a u v h ku kv =>
      refine iteF ?_
      refine ⟨.ref a, rfl, a, _, rfl, h, rfl, _, _, rfl, _, _, rfl, rfl, ?_⟩
      refine ⟨.int (m : Int), rfl, u, rfl, m, u, rfl, ku, vx m u, rfl, ?_⟩
      have no : edgeO m (some (u, v)) = none → Q (.bl false) H := fun e => by
        rw [e] at q
        exact q
      cases u with
      | int a1 =>
        show if decide (0 ≤ a1 ∧ a1 < (m : Int)) = true then _ else _
        by_cases c1 : 0 ≤ a1 ∧ a1 < (m : Int)
        · rw [decide_eq_true c1]
          refine iteT ⟨.int (m : Int), rfl, v, rfl, m, v, rfl, kv, vx m v, rfl, ?_⟩
          cases v with
          | int b1 =>
            show if decide (0 ≤ b1 ∧ b1 < (m : Int)) = true then _ else _
            by_cases c2 : 0 ≤ b1 ∧ b1 < (m : Int)
            · rw [decide_eq_true c2]
              refine iteT ⟨.int a1, rfl, .int b1, rfl, _, _, rfl, rfl, ?_⟩
              dsimp only
              have e : edgeO m (some (V.int a1, V.int b1)) = if 0 ≤ a1 ∧ a1 < b1 ∧ b1 < (m : Int) then some (a1, b1) else none := rfl
              rw [e] at q
              by_cases c3 : a1 < b1
              · rw [if_pos ⟨c1.1, c3, c2.2⟩] at q
                rw [decide_eq_true c3]
                exact q
              · rw [if_neg (by omega)] at q
                rw [decide_eq_false c3]
                exact q
            · rw [decide_eq_false c2]
              exact iteF (no (if_neg (show ¬ (0 ≤ a1 ∧ a1 < b1 ∧ b1 < (m : Int)) by omega)))
          | _ => exact iteF (no rfl)
        · rw [decide_eq_false c1]
          refine iteF (no ?_)
          cases v with
          | int b1 => exact if_neg (show ¬ (0 ≤ a1 ∧ a1 < b1 ∧ b1 < (m : Int)) by omega)
          | _ => rfl
      | _ => exact iteF (no rfl)
/-- q is before p -/
def Bef (q p : Int × Int) : Prop := q.1 < p.1 ∨ (q.1 = p.1 ∧ q.2 < p.2)
instance (q p : Int × Int) : Decidable (Bef q p) := inferInstanceAs (Decidable (_ ∨ _))
open Classical in
/-- the first error of edges, after good ones -/
noncomputable def errL (m : Nat) : List (Int × Int) → List (Option (V × V)) → Option (Nat × Str)
  | _, [] => none
  | es, o :: os => match edgeO m o with
    | none => some (es.length, Str.ofString "edge")
    | some p => if (∃ q, es.getLast? = some q ∧ ¬ Bef q p) then some (es.length, Str.ofString "order") else if Conn es p.1 p.2 then some (es.length, Str.ofString "cycle") else errL m (es ++ [p]) os
section
variable {m : Nat} {es : List (Int × Int)} {o : Option (V × V)} {os : List (Option (V × V))} {p : Int × Int}
theorem errL_edge (h : edgeO m o = none) : errL m es (o :: os) = some (es.length, Str.ofString "edge") := by
  unfold errL
  rw [h]
theorem errL_order (h : edgeO m o = some p) {q : Int × Int} (hq : es.getLast? = some q) (hn : ¬ Bef q p) : errL m es (o :: os) = some (es.length, Str.ofString "order") := by
  unfold errL
  rw [h]
  exact if_pos ⟨q, hq, hn⟩
theorem errL_cycle (h : edgeO m o = some p) (hb : ∀ q, es.getLast? = some q → Bef q p) (hc : Conn es p.1 p.2) : errL m es (o :: os) = some (es.length, Str.ofString "cycle") := by
  unfold errL
  rw [h]
  show (if _ then _ else _) = _
  rw [if_neg (fun ⟨q, h1, h2⟩ => h2 (hb q h1)), if_pos hc]
theorem errL_go (h : edgeO m o = some p) (hb : ∀ q, es.getLast? = some q → Bef q p) (hc : ¬ Conn es p.1 p.2) : errL m es (o :: os) = errL m (es ++ [p]) os := by
  rw [errL, h]
  show (if _ then _ else _) = _
  rw [if_neg (fun ⟨q, h1, h2⟩ => h2 (hb q h1)), if_neg hc]
end
def errD : Option (Nat × Str) → PyData
  | none => .none
  | some (k, s) => .tuple [.int (k : Int), .str s]
noncomputable def edE (m : Nat) : Option (List (Option (V × V))) → PyData
  | none => .tuple [.none, .str (Str.ofString "edges")]
  | some os => errD (errL m [] os)
/-- the error of a value -/
noncomputable def forE (so : Option (List (Option (V × V)))) : Option (V × V) → PyData
  | none => .tuple [.none, .str (Str.ofString "tuple")]
  | some (.int i, _) => if 0 ≤ i ∧ i ≤ 12 then edE i.toNat so else .tuple [.none, .str (Str.ofString "vertices")]
  | some _ => .tuple [.none, .str (Str.ofString "vertices")]
theorem lab_conn {m : Nat} {es : List (Int × Int)} {f : Int → Int} (lb : Lab es (rng m) f) (rg : ∀ p ∈ es, p.1 ∈ rng m ∧ p.2 ∈ rng m) {a b : Int} (h : Conn es a b) : f a = f b := by
  induction h with
  | refl => rfl
  | step h1 h2 ih =>
    rw [ih]
    rcases h2 with h2 | h2
    · exact lb.join _ h2 (rg _ h2).1 (rg _ h2).2
    · exact (lb.join _ h2 (rg _ h2).1 (rg _ h2).2).symm
theorem le_lex {p q : Int × Int} : Ob.lexAt (fun j => decide ([p.1, p.2].getD j 0 = [q.1, q.2].getD j 0)) (fun j => decide ([p.1, p.2].getD j 0 ≤ [q.1, q.2].getD j 0)) (decide ([p.1, p.2].length ≤ [q.1, q.2].length)) 0 (min [p.1, p.2].length [q.1, q.2].length) = !decide (Bef q p) := by
  show (if decide (p.1 = q.1) = true then (if decide (p.2 = q.2) = true then true else decide (p.2 ≤ q.2)) else decide (p.1 ≤ q.1)) = _
  by_cases c1 : p.1 = q.1
  · rw [decide_eq_true c1, if_pos rfl]
    by_cases c2 : p.2 = q.2
    · rw [decide_eq_true c2, if_pos rfl, decide_eq_false (show ¬ Bef q p by unfold Bef; omega)]
      rfl
    · rw [decide_eq_false c2, if_neg Bool.false_ne_true]
      by_cases c3 : p.2 ≤ q.2
      · rw [decide_eq_true c3, decide_eq_false (show ¬ Bef q p by unfold Bef; omega)]
        rfl
      · rw [decide_eq_false c3, decide_eq_true (show Bef q p by unfold Bef; omega)]
        rfl
  · rw [decide_eq_false c1, if_neg Bool.false_ne_true]
    by_cases c3 : p.1 ≤ q.1
    · rw [decide_eq_true c3, decide_eq_false (show ¬ Bef q p by unfold Bef; omega)]
      rfl
    · rw [decide_eq_false c3, decide_eq_true (show Bef q p by unfold Bef; omega)]
      rfl
theorem dinT {H : Hp} {L : Addr} {f : Int → Int} {ws : List Int} (hL : H L = some (.dK (tab f ws))) {a : Int} (h : a ∈ ws) : DGet H L (.int a) (some (.int (f a))) := by
  have e : valV (tab f ws) (Sum.inl a) = some (.int (f a)) := by rw [tab_val, if_pos h]
  rw [← e]
  exact DGet.k (k := Sum.inl a) hL
/-- what is known after good edges -/
structure Gd (K : PySem.W.Frag) (H : Hp) (m : Nat) (xs : List V) (es : List (Int × Int)) (i : Nat) : Prop where
  len : es.length = i
  at' : ∀ (j : Nat) (q : Int × Int), es[j]? = some q → ∃ t : Addr, xs[j]? = some (V.ref t) ∧ SqT K H t [.int q.1, .int q.2]
  rg : ∀ p ∈ es, p.1 ∈ rng m ∧ p.2 ∈ rng m
theorem Gd.same {H H' : Hp} {m : Nat} {xs : List V} {es : List (Int × Int)} {i : Nat} (s : Same H H') (h : Gd K H m xs es i) : Gd K H' m xs es i := ⟨h.len, fun j q e => by
  obtain ⟨t, a, b⟩ := h.at' j q e
  exact ⟨t, a, Same.tup s b⟩, h.rg⟩
theorem Gd.add {H : Hp} {m : Nat} {xs : List V} {es : List (Int × Int)} {i : Nat} {p : Int × Int} {t : Addr} (h : Gd K H m xs es i) (hx : xs[i]? = some (.ref t)) (ht : SqT K H t [.int p.1, .int p.2]) (r1 : p.1 ∈ rng m) (r2 : p.2 ∈ rng m) : Gd K H m xs (es ++ [p]) (i + 1) := by
  have hl := h.len
  refine ⟨by rw [List.length_append, List.length_singleton, hl], fun j q e => ?_, fun r hr => ?_⟩
  · by_cases c : j < es.length
    · rw [List.getElem?_append_left c] at e
      exact h.at' j q e
    · rw [List.getElem?_append_right (by omega)] at e
      have c2 : j = i := by
        have := (List.getElem?_eq_some_iff.mp e).1
        rw [List.length_singleton] at this
        omega
      subst c2
      rw [hl, Nat.sub_self] at e
      cases e
      exact ⟨t, hx, ht⟩
  · rcases List.mem_append.mp hr with hr | hr
    · exact h.rg r hr
    · rw [List.mem_singleton.mp hr]
      exact ⟨r1, r2⟩
def spEdgesError (K : PySem.W.Frag) : Sp := fun vs H Q _ => ∃ (m : Nat) (b : Addr) (xs : List V) (os : List (Option (V × V))), vs = [.int (m : Int), .ref b] ∧ m ≤ 12 ∧ SqT K H b xs ∧ Iws K H xs os ∧ xs.length ≤ 400 ∧ ∀ H' r, Same H H' → Dp K H' r (errD (errL m [] os)) → Q r H'
theorem ok_EdgesError {f : Addr} {fd : FuncData} (F : Fun K "edges_error" "edges_error" sEdgesError f fd) (m_range : mg "range" = none) (m_enumerate : mg "enumerate" = none)
    (oIsEdge : Own P w K mg base "is_edge" 3 ["n", "value"] (spIsEdge K)) (oMerged : Own P w K mg base "merged" 1 ["labels", "a", "b"] spMerged) :
    FnOk P w K mg base CX0 4 f fd ["n", "edges"] (spEdgesError K) := by
  refine F.ok scEdgesError (fun vs H Q E h => ?_) (fun cdv A outer s H vs Q E hr h => ?_)
  · obtain ⟨m, b, xs, os, rfl, _⟩ := h
    rfl
  · obtain ⟨m, b, xs, os, rfl, hm, hb, hi, lx, q⟩ := h
    refine ⟨_, (pss_cons (ps_setDc (i := 2) (own := [("vertex", 7)]) (g := (gName 7)) (tt := tYes) (by rfl) scEdgesError.nd rfl rfl (sw_trueD rfl rfl rfl (by decide +kernel)) (pi_range1 (by rfl) m_range (pa_cons (pv 0) pa_nil))
      (blkOk_by (own := [("vertex", 7)]) (N := nEdgesError) (sc := (defScope sEdgesError)) (by decide +kernel))
      (fun _ _ _ _ _ => (pg_name (i := 7) scEdgesError.nd rfl (Or.inl rfl))) (fun _ _ _ _ _ => pts_nil)
      (fun _ _ _ _ _ => (pv 7))
      (fun _ _ _ _ _ => (pv 7)))
    (pss_cons (ps_for PassesOwn.never rfl (pi_enumT K (by rfl) m_enumerate (pa_cons (pv 1) pa_nil)) (pgTK K (pgs_cons (pg_name (i := 3) scEdgesError.nd rfl (Or.inl rfl)) (pgs_cons (pg_name (i := 4) scEdgesError.nd rfl (Or.inl rfl)) pgs_nil)))
    (pss_cons (ps_if (pt_not (pt_val (pe_own oIsEdge (hr.mono (by decide)) (by rfl) (pa_cons (pv 0) (pa_cons (pv 4) pa_nil))))) (pss_one (ps_ret (pe_tup (pa_cons (pv 3) (pa_cons pe_str pa_nil))))) pss_nil)
    (pss_cons (ps_if (PW.pt (pw_and (pt_cmpR op_gt (pv 3) pe_int (nomark _)) (pw_and1 (pt_cmpR (le2TK K hr.units) (pv 4) (pe_ix (ixTK K) (pv 1) (pe_op op_sub (pv 3) pe_int) (fun _ _ => rfl)) (nomark _))))) (pss_one (ps_ret (pe_tup (pa_cons (pv 3) (pa_cons pe_str pa_nil))))) pss_nil)
    (pss_cons (ps_asg (pv 4) (pgTK K (pgs_cons (pg_name (i := 5) scEdgesError.nd rfl (Or.inl rfl)) (pgs_cons (pg_name (i := 6) scEdgesError.nd rfl (Or.inl rfl)) pgs_nil))))
    (pss_cons (ps_if (pt_cmpR op_eq (pe_dget (hu_of hr) (pv 2) (pv 5) (fun _ _ => rfl)) (pe_dget (hu_of hr) (pv 2) (pv 6) (fun _ _ => rfl)) (nomark _)) (pss_one (ps_ret (pe_tup (pa_cons (pv 3) (pa_cons pe_str pa_nil))))) pss_nil)
    (pss_one (ps_set (i := 2) scEdgesError.nd rfl (.inl rfl) (pe_own oMerged (hr.mono (by decide)) (by rfl) (pa_cons (pv 2) (pa_cons (pv 5) (pa_cons (pv 6) pa_nil)))))))))))
    (pss_one (ps_ret pe_non)))), ?_⟩
    refine ⟨.int (m : Int), rfl, (m : Int), rfl, by omega, by omega, fun L0 nL0 => ?_⟩
    rw [Int.toNat_natCast]
    refine dc_tab id (rng m) (fun v => [some (.int (m : Int)), some (.ref b), none, none, none, none, none, some (.int v)]) (rng_asc m).nodup nL0 (by rw [rng_length]; omega) (fun j H' hj s1 => by rw [rng_length] at hj; exact hj)
      (fun H' s1 => by rw [rng_length]; exact Nat.le_refl _) (fun j v x H' H'' hv s1 y => ?_) (fun v => rfl) (fun v _ H' R s1 hR => ⟨.int v, rfl, hR⟩) (fun v _ H' R s1 hR => ⟨.int v, rfl, hR H' (Same.refl _)⟩) (fun H1 s1 e1 => ?_)
    · obtain ⟨e, hy⟩ := y
      unfold rng at hv
      rw [List.getElem?_map] at hv
      obtain ⟨z, hz, rfl⟩ := Option.map_eq_some_iff.mp hv
      obtain ⟨h1, rfl⟩ := List.getElem?_eq_some_iff.mp hz
      rw [List.getElem_range] at *
      subst hy
      refine ⟨e, fun Q q => ?_⟩
      show Q ([some (.int (m : Int)), some (.ref b), none, none, none, none, none, some (.int (0 + (j : Int)))]) H'
      rw [Int.zero_add]
      exact q
    refine ⟨.ref b, rfl, b, xs, rfl, Same.tup s1 hb, for_enumT (K := K) (a := b) (xs := xs) (fun i σ H' => ∃ (y3 y4 y5 y6 : Option V) (L : Addr) (f : Int → Int) (es : List (Int × Int)), σ = [some (.int (m : Int)), some (.ref b), some (.ref L), y3, y4, y5, y6, none] ∧
      Same H H' ∧ H' L = some (.dK (tab f (rng m))) ∧ Lab es (rng m) f ∧ Gd K H' m xs es i ∧ errL m [] os = errL m es (os.drop i)) ?_ ?_ ?_ ?_⟩
    · exact ⟨none, none, none, none, L0, id, [], rfl, s1, e1, Lab.start _, ⟨rfl, fun _ _ e => by simp at e, fun _ h => nomatch h⟩, rfl⟩
    · rintro i σ H' ⟨y3, y4, y5, y6, L, f, es, rfl, s2, _⟩
      exact Same.tup s2 hb
    · rintro i v T σ H2 hv nT ⟨y3, y4, y5, y6, L, f, es, rfl, s2, eL, lb, gd, he⟩
      have sT := same_upd (o := .tup [.int (i : Nat), v]) nT
      have et := same_at (o := .tup [.int (i : Nat), v]) nT
      have s3 := s2.trans sT
      have eL3 := sT _ _ eL
      have gd := gd.same sT
      have gl := gd.len
      have hix := (List.getElem?_eq_some_iff.mp hv).1
      obtain ⟨o, ho, hio⟩ := hi.drop i hv
      have hio := hio.same s3
      rw [ho] at he
      have ret : ∀ {H' : Hp} {t : Addr} {c : String}, errL m es (o :: os.drop (i + 1)) = some (es.length, Str.ofString c) → Same H H' → H' t = none → Q (.ref t) (upd H' t (.tup [.int (i : Nat), .str (Str.ofString c)])) := fun {H' t c} e s nt => by
        refine q _ _ (s.trans (same_upd nt)) ?_
        rw [he, e, gl]
        exact .tup (SqT.of upd_same) (.cons (.int _) (.cons (.str _) .nil))
      generalize upd H2 T (.tup [.int (i : Nat), v]) = H3 at sT s3 eL3 et gd hio ⊢
      refine ⟨T, _, rfl, SqT.of et, rfl, _, _, rfl, _, _, rfl, rfl, ?_⟩
      refine ⟨.int (m : Int), rfl, v, rfl, m, v, o, rfl, hio, (edgeO m o).isSome, rfl, ?_⟩
      cases heo : edgeO m o with
      | none =>
        refine iteT ⟨.int (i : Int), rfl, by show 2 ≤ sizeLine; decide, fun t nt => ?_⟩
        exact ret (errL_edge heo) s3 nt
      | some p =>
      refine iteF ?_
      obtain ⟨rfl, r0, r1, r2⟩ := edgeO_some heo
      obtain ⟨t, rfl, ht⟩ : ∃ t, v = .ref t ∧ SqT K H3 t [.int p.1, .int p.2] := by
        cases hio with
        | two h _ _ => exact ⟨_, rfl, h⟩
      have m1 : p.1 ∈ rng m := mem_rng.mpr (by omega)
      have m2 : p.2 ∈ rng m := mem_rng.mpr (by omega)
      dsimp only [tNext]
      have ords : ∀ q, es.getLast? = some q → ∃ j t2, i = j + 1 ∧ xs[j]? = some (.ref t2) ∧ SqT K H3 t2 [.int q.1, .int q.2] := fun q hq => by
        rw [List.getLast?_eq_getElem?] at hq
        have hl := (List.getElem?_eq_some_iff.mp hq).1
        obtain ⟨t2, h1, h2⟩ := gd.at' _ q hq
        exact ⟨es.length - 1, t2, by omega, h1, h2⟩
      refine ifJ (R := fun c H4 => H4 = H3 ∧ ((c = false ∧ ∀ q, es.getLast? = some q → Bef q p) ∨ (c = true ∧ ∃ q, es.getLast? = some q ∧ ¬ Bef q p))) (fun R hR => ?_) (fun H4 h => ?_) (fun H4 h => ?_)
      · refine ⟨.int (i : Int), rfl, _, _, rfl, rfl, _, rfl, ?_⟩
        by_cases h0 : i = 0
        · subst h0
          rw [decide_eq_false (by decide)]
          refine iteF (hR _ _ ⟨rfl, .inl ⟨rfl, fun q hq => ?_⟩⟩)
          obtain ⟨j, _, hj, _⟩ := ords q hq
          omega
        · rw [decide_eq_true (show (0 : Int) < (i : Int) by omega)]
          obtain ⟨q, hq⟩ : ∃ q, es.getLast? = some q := by
            cases e : es.getLast? with
            | some q => exact ⟨q, rfl⟩
            | none =>
              have := List.getLast?_eq_none_iff.mp e
              rw [this] at gl
              exact absurd gl (by show ¬ 0 = i; omega)
          obtain ⟨j, t2, ej, hj, ht2⟩ := ords q hq
          refine iteT ⟨.ref t, rfl, .ref b, rfl, .int (i : Int), rfl, _, _, rfl, rfl, b, _, _, _, rfl, rfl, Same.tup s3 hb, at_of (j := j) (by omega) hj, t, t2, [p.1, p.2], [q.1, q.2], rfl, rfl, ht, ht2, _, rfl, ?_⟩
          rw [le_lex]
          by_cases cb : Bef q p
          · rw [decide_eq_true cb]
            refine hR _ _ ⟨rfl, .inl ⟨rfl, fun q' hq' => ?_⟩⟩
            rw [hq] at hq'
            cases hq'
            exact cb
          · rw [decide_eq_false cb]
            exact hR _ _ ⟨rfl, .inr ⟨rfl, q, hq, cb⟩⟩
      · obtain ⟨rfl, ⟨z, _⟩ | ⟨_, q', hq', hn⟩⟩ := h
        · cases z
        · exact ⟨.int (i : Int), rfl, by show 2 ≤ sizeLine; decide, fun t nt => ret (errL_order heo hq' hn) s3 nt⟩
      obtain ⟨rfl, ⟨_, hbf⟩ | ⟨z, _⟩⟩ := h
      rotate_left
      · cases z
      refine ⟨.ref t, rfl, t, _, rfl, ht, rfl, _, _, rfl, _, _, rfl, rfl, ?_⟩
      refine ⟨.ref L, rfl, .int p.1, rfl, L, .int (f p.1), rfl, dinT eL3 m1, .ref L, rfl, .int p.2, rfl, L, .int (f p.2), rfl, dinT eL3 m2, rfl, _, rfl, ?_⟩
      rw [decInt]
      by_cases cf : f p.1 = f p.2
      · rw [decide_eq_true cf]
        refine iteT ⟨.int (i : Int), rfl, by show 2 ≤ sizeLine; decide, fun t nt => ret (errL_cycle heo hbf ?_) s3 nt⟩
        exact (lb.conn p.1 m1 p.2 m2 cf).mono fun r hr => (List.mem_filter.mp hr).1
      · rw [decide_eq_false cf]
        refine iteF ?_
        refine ⟨.ref L, rfl, .int p.1, rfl, .int p.2, rfl, L, f, rng m, p.1, p.2, rfl, eL3, (rng_asc m).nodup, by rw [rng_length]; omega, m1, m2, fun H4 L4 s4 n4 e4 => ?_⟩
        exact ⟨_, _, _, _, L4, mrg f p.1 p.2, es ++ [p], rfl, s3.trans s4, e4, lb.merge m1 m2, (gd.same s4).add hv (Same.tup s4 ht) m1 m2, he.trans (errL_go heo hbf fun z => cf (lab_conn lb gd.rg z))⟩
    · rintro σ H2 ⟨y3, y4, y5, y6, L, f, es, rfl, s2, eL, lb, gd, he⟩
      rw [hi.len, List.drop_length] at he
      refine q _ _ s2 ?_
      rw [he]
      exact .non
/-! ### the program: numbers and pairs read from texts -/
/-- a number or None -/
def oV : Option Int → V
  | some n => .int n
  | none => .non
def oD : Option Int → PyData
  | some n => .int n
  | none => .none
theorem oV_dp {H : Hp} (o : Option Int) : Dp K H (oV o) (oD o) := by
  cases o with
  | none => exact .non
  | some n => exact .int n
def spNumberIn : Sp := fun vs H Q _ => ∃ (z : Str), vs = [.str z] ∧ z.length ≤ 1000 ∧ Q (oV (numO z)) H
theorem ok_NumberIn {f : Addr} {fd : FuncData} {k : Nat} (F : Fun K "number_in" "number_in" sNumberIn f fd) (m_len : mg "len" = none) (m_int : mg "int" = none) :
    FnOk P w K mg base CX0 (k + 1) f fd ["word"] spNumberIn := by
  refine F.ok scNumberIn (fun vs H Q E h => ?_) (fun cdv A outer s H vs Q E hr h => ?_)
  · obtain ⟨z, rfl, _⟩ := h
    rfl
  · obtain ⟨z, rfl, hl, q⟩ := h
    refine ⟨_, (pss_cons (ps_if (PW.pt (pw_or (pt_not (pt_val (pe_m0 PySem.F.slot_str_isascii PySem.F.type_str_isascii mt_isascii (pv 0)))) (pw_or (pt_not (pt_val (pe_m0 PySem.F.slot_str_isdigit PySem.F.type_str_isdigit mt_isdigit (pv 0)))) (pw_or1 (pt_cmpR op_gt (pe_callB call_len_str (by rfl) m_len (by decide +kernel) (pa_cons (pv 0) pa_nil)) pe_int (nomark _)))))) (pss_one (ps_ret pe_non)) pss_nil)
    (pss_cons (ps_if (PW.pt (pw_and (pt_cmpR op_eq (pe_callB call_len_str (by rfl) m_len (by decide +kernel) (pa_cons (pv 0) pa_nil)) pe_int (nomark _)) (pw_and1 (pt_val (pe_m1 PySem.F.slot_str_startswith PySem.F.type_str_startswith mt_startswith (pv 0) pe_str))))) (pss_one (ps_ret pe_non)) pss_nil)
    (pss_one (ps_ret (pe_callTy call_int_str (by rfl) m_int (by decide +kernel) (pa_cons (pv 0) pa_nil)))))), ?_⟩
    have len2 : z.length = (tl z).length := len_tl z
    have hz : z.length ≤ sizeLine := by rw [sizeLine_eq]; omega
    by_cases hA : Txt.isascii z = true ∧ Txt.isdigit z = true
    · obtain ⟨n1, n2⟩ := asc_dig.mp hA
      obtain ⟨hA, hD⟩ := hA
      refine ⟨.str z, rfl, ⟨z, rfl⟩, z, rfl, rfl, trivial, _, rfl, ?_⟩
      rw [hA]
      refine iteF ⟨.str z, rfl, ⟨z, rfl⟩, z, rfl, rfl, trivial, _, rfl, ?_⟩
      rw [hD]
      refine iteF ⟨.str z, rfl, z, rfl, hz, _, 2, rfl, rfl, _, rfl, ite2 (fun h => ?_) (fun h => ?_)⟩
      · have h := of_decide_eq_true h
        rw [numO_none.mpr fun d => by have := d.2.1; omega] at q
        exact q
      · have l2 : ¬ ((2 : Int) < (z.length : Nat)) := fun y => h (decide_eq_true y)
        refine ⟨.str z, rfl, z, rfl, hz, rfl, _, rfl, ?_⟩
        rw [decInt]
        refine ite2 (fun h2 => ?_) (fun h2 => ?_)
        · have h2 := of_decide_eq_true h2
          refine ⟨.str z, rfl, ⟨z, rfl⟩, z, "0", rfl, rfl, _, rfl, ite2 (fun h3 => ?_) (fun h3 => ?_)⟩
          · have h3 := starts0.mp h3
            rw [numO_none.mpr fun d => d.2.2.2 ⟨by omega, h3⟩] at q
            exact q
          · obtain ⟨n, e1, e2⟩ := dg_int (z := z) ⟨n1, by omega, n2, fun y => h3 (starts0.mpr y.2)⟩
            rw [e1] at q
            exact ⟨.str z, rfl, z, n, rfl, e2, by omega, q⟩
        · obtain ⟨n, e1, e2⟩ := dg_int (z := z) ⟨n1, by omega, n2, fun y => h2 (decide_eq_true (by omega))⟩
          rw [e1] at q
          exact ⟨.str z, rfl, z, n, rfl, e2, by omega, q⟩
    · have no : numO z = none := numO_none.mpr fun d => hA (asc_dig.mpr ⟨d.1, d.2.2.1⟩)
      rw [no] at q
      refine ⟨.str z, rfl, ⟨z, rfl⟩, z, rfl, rfl, trivial, _, rfl, ?_⟩
      by_cases h1 : Txt.isascii z = true
      · rw [h1]
        refine iteF ⟨.str z, rfl, ⟨z, rfl⟩, z, rfl, rfl, trivial, _, rfl, ?_⟩
        rw [Bool.eq_false_iff.mpr fun h2 => hA ⟨h1, h2⟩]
        exact iteT q
      · rw [Bool.eq_false_iff.mpr h1]
        exact iteT q
def spPairIn (K : PySem.W.Frag) : Sp := fun vs H Q _ => ∃ (z g : Str) (s : Nat), vs = [.str z, .str g] ∧ Sg g s ∧ z.length ≤ 1000 ∧ ∀ (H' : Hp) (v : V), Same H H' → (match pO g z with | none => v = .non | some p => ∃ t, v = .ref t ∧ SqT K H' t [.int p.1, .int p.2]) → Q v H'
theorem ok_PairIn {f : Addr} {fd : FuncData} {k : Nat} (F : Fun K "pair_in" "pair_in" sPairIn f fd) (oNumberIn : Own P w K mg base "number_in" 1 ["word"] spNumberIn) :
    FnOk P w K mg base CX0 2 f fd ["word", "sign"] (spPairIn K) := by
  refine F.ok scPairIn (fun vs H Q E h => ?_) (fun cdv A outer s H vs Q E hr h => ?_)
  · obtain ⟨z, g, s, rfl, _⟩ := h
    rfl
  · obtain ⟨z, g, s, rfl, G, hl, q⟩ := h
    refine ⟨_, (pss_cons (ps_asg (pe_m1 PySem.F.slot_str_partition PySem.F.type_str_partition mt_partition (pv 0) (pv 1)) (pgTK K (pgs_cons (pg_name (i := 2) scPairIn.nd rfl (Or.inl rfl)) (pgs_cons (pg_name (i := 3) scPairIn.nd rfl (Or.inl rfl)) (pgs_cons (pg_name (i := 4) scPairIn.nd rfl (Or.inl rfl)) pgs_nil)))))
    (pss_cons (ps_set (i := 5) scPairIn.nd rfl (.inl rfl) (pe_tup (pa_cons (pe_own oNumberIn (hr.mono (by decide)) (by rfl) (pa_cons (pv 2) pa_nil)) (pa_cons (pe_own oNumberIn (hr.mono (by decide)) (by rfl) (pa_cons (pv 4) pa_nil)) pa_nil))))
    (pss_one (ps_ret (pe_ifExp (pt_cmpR (inK K) pe_non (pv 5) (by rfl)) pe_non (pv 5)))))), ?_⟩
    have hz : z.length ≤ sizeLine := by rw [sizeLine_eq]; omega
    have g0 : (g.length == 0) = false := by
      have : g.length = 1 := by rw [len_tl, G.one]; rfl
      rw [this]
      rfl
    obtain ⟨a, b, c, ep⟩ : ∃ a b c, Txt.partition z g = (a, b, c) := ⟨_, _, _, rfl⟩
    have la : a.length ≤ 1000 ∧ c.length ≤ 1000 := by
      rcases part_cases G z with e | ⟨x, y, e1, e⟩
      · rw [ep] at e
        cases e
        exact ⟨hl, by decide⟩
      · rw [ep] at e
        cases e
        rw [e1, Str.length_append, Str.length_append] at hl
        omega
    unfold pO at q
    refine ⟨.str z, rfl, ⟨z, rfl⟩, .str g, rfl, z, g, rfl, rfl, g0, hz, fun p np => ?_⟩
    rw [ep] at q ⊢
    have sp := same_upd (o := .tup [V.str a, V.str b, V.str c]) np
    have e1 := same_at (o := .tup [V.str a, V.str b, V.str c]) np
    generalize upd H p _ = H1 at sp e1 ⊢
    refine ⟨p, _, rfl, SqT.of e1, rfl, _, _, rfl, _, _, rfl, _, _, rfl, rfl, ?_⟩
    refine ⟨.str a, rfl, a, rfl, la.1, .str c, rfl, c, rfl, la.2, by show 2 ≤ sizeLine; decide, fun t nt => ?_⟩
    have st := same_upd (o := .tup [oV (numO a), oV (numO c)]) nt
    have et := same_at (o := .tup [oV (numO a), oV (numO c)]) nt
    dsimp only [gName]
    generalize upd H1 t _ = H2 at st et ⊢
    have fl : [oV (numO a), oV (numO c)].all flatV = true := by
      cases numO a <;> cases numO c <;> rfl
    refine ⟨.ref t, rfl, t, _, rfl, .inr (SqT.of et), rfl, fl, _, rfl, ?_⟩
    show (if (inV V.non [oV (numO a), oV (numO c)]) = true then _ else _)
    cases ea : numO a with
    | none =>
      rw [ea] at q
      exact iteT (q _ _ (sp.trans st) rfl)
    | some m =>
      cases ec : numO c with
      | none =>
        rw [ea, ec] at q
        exact iteT (q _ _ (sp.trans st) rfl)
      | some n =>
        rw [ea, ec] at q et
        exact iteF ⟨.ref t, rfl, q _ _ (sp.trans st) ⟨t, rfl, SqT.of et⟩⟩
end
end TL
namespace TL
open PySem PySem.Spec PyProof.Rows L2
section
variable {P : Program} {w : World} {K : PySem.W.Frag} {mg : Str → Option Value} {base : Heap}
/-! ### side by side -/
theorem catD {H : Hp} {x y : V} {ds es : List PyData} {Q : VK} (hx : Dp K H x (.tuple ds)) (hy : Dp K H y (.tuple es)) (hl : ds.length + es.length ≤ 1000)
    (q : ∀ H' z, Same H H' → Dp K H' z (.tuple (ds ++ es)) → Q z H') : rCatA K x y H Q := by
  obtain ⟨a, xs, rfl, h1, a1⟩ := Dp.tupI hx
  obtain ⟨b, ys, rfl, h2, a2⟩ := Dp.tupI hy
  have l1 := DpAll.length a1
  have l2 := DpAll.length a2
  refine ⟨a, b, xs, ys, rfl, rfl, h1, h2, Nat.le_of_lt (small1000 (by omega)), fun e => ?_, fun _ e => ?_, fun _ _ p np => ?_⟩
  · subst e
    cases a1
    exact q H _ (Same.refl H) hy
  · subst e
    cases a2
    rw [List.append_nil] at q
    exact q H _ (Same.refl H) hx
  · have st := same_upd (o := .tup (xs ++ ys)) np
    exact q _ _ st (.tup (SqT.of upd_same) (DpAll.same st (DpAll.append a1 a2)))
def spSideBySide (K : PySem.W.Frag) : Sp := fun vs H Q _ => ∃ (x y : V) (m n : Nat) (es fs : List (Int × Int)), vs = [x, y] ∧ m + n ≤ 12 ∧ IsFor m es ∧ IsFor n fs ∧ Dp K H x (forD m es) ∧ Dp K H y (forD n fs) ∧
  ∀ (H' : Hp) (z : V), Same H H' → Dp K H' z (forD (m + n) (es ++ fs.map (shf m))) → Q z H'
theorem ok_SideBySide {t0 : Tok} {f : Addr} {fd : FuncData} {k : Nat} (F : Fun K "side_by_side" "side_by_side" sSideBySide f fd) (m_tuple : mg "tuple" = none) (m_MAX_VERTICES : mg "MAX_VERTICES" = some (.int 12 t0)) :
    FnOk P w K mg base CX0 (k + 1) f fd ["first", "second"] (spSideBySide K) := by
  refine F.ok scSideBySide (fun vs H Q E h => ?_) (fun cdv A outer s H vs Q E hr h => ?_)
  · obtain ⟨x, y, m, n, es, fs, rfl, _⟩ := h
    rfl
  · obtain ⟨x, y, m, n, es, fs, rfl, hmn, f1, f2, hx, hy, q⟩ := h
    obtain ⟨a, b, xs, rfl, ha, hb, hA⟩ := Dp.forI hx
    obtain ⟨a', b', xs', rfl, ha', hb', hA'⟩ := Dp.forI hy
    have c1 := f1.count
    have c2 := f2.count
    refine ⟨_, (pss_cons (ps_asg (pv 0) (pgTK K (pgs_cons (pg_name (i := 2) scSideBySide.nd rfl (Or.inr rfl)) (pgs_cons (pg_name (i := 3) scSideBySide.nd rfl (Or.inl rfl)) pgs_nil))))
    (pss_cons (ps_asg (pv 1) (pgTK K (pgs_cons (pg_name (i := 4) scSideBySide.nd rfl (Or.inl rfl)) (pgs_cons (pg_name (i := 5) scSideBySide.nd rfl (Or.inl rfl)) pgs_nil))))
    (pss_cons (ps_if (pt_cmpR op_gt (pe_op op_add (pv 2) (pv 4)) (pe_glob (v := V.int 12) (by rfl) m_MAX_VERTICES ⟨_, rfl⟩) (nomark _)) (pss_one ps_never) pss_nil)
    (pss_one (ps_ret (pe_tup (pa_cons (pe_op op_add (pv 2) (pv 4)) (pa_cons (pe_op (catAK K) (pv 3) (pe_callTy (tupleK K) (by rfl) m_tuple (by decide +kernel) (pa_cons (pe_lc (own := [("a", 6), ("b", 7)]) (g := (gTup K 2 (gCons (gName 6) (gCons (gName 7) gNil)))) (tt := tYes) rfl scSideBySide.nd (piTK K (pv 5))
      (blkOk_by (own := [("a", 6), ("b", 7)]) (N := nSideBySide) (sc := (defScope sSideBySide)) (by decide +kernel))
      (fun _ _ _ _ _ => (pgTK K (pgs_cons (pg_name (i := 6) scSideBySide.nd rfl (Or.inl rfl)) (pgs_cons (pg_name (i := 7) scSideBySide.nd rfl (Or.inl rfl)) pgs_nil)))) (fun _ _ _ _ _ => pts_nil)
      (fun _ _ _ _ _ => (pe_tup (pa_cons (pe_op op_add (pv 6) (pv 2)) (pa_cons (pe_op op_add (pv 7) (pv 2)) pa_nil))))) pa_nil))) pa_nil)))))))), ?_⟩
    refine ⟨.ref a, rfl, a, _, rfl, ha, rfl, _, _, rfl, _, _, rfl, rfl, ?_⟩
    refine ⟨.ref a', rfl, a', _, rfl, ha', rfl, _, _, rfl, _, _, rfl, rfl, ?_⟩
    refine ⟨.int (m : Int), rfl, .int (n : Int), rfl, _, _, rfl, rfl, _, _, rfl, rfl, _, rfl, ?_⟩
    rw [decide_eq_false (show ¬ (12 : Int) < (m : Int) + (n : Int) by omega)]
    refine iteF ?_
    refine ⟨.int (m : Int), rfl, .int (n : Int), rfl, _, _, rfl, rfl, .ref b, rfl, .ref b', rfl, b', rfl, ⟨_, hb'⟩, fun D nD => ?_⟩
    refine lc_tupP (K := K) (fun _ => true) (fun p => prD (shf m p)) nD hb' hA' (fun _ _ => rfl) (fun o _ H' R s1 hR => hR H' (Same.refl _)) (fun o _ _ H' R s1 hR => ?_) (fun o => only_pr _) (by omega) (fun H2 ys s2 eD dy => ?_)
    · refine ⟨.int o.1, rfl, .int (m : Int), rfl, _, _, rfl, rfl, .int o.2, rfl, .int (m : Int), rfl, _, _, rfl, rfl, by show 2 ≤ sizeLine; decide, fun t nt => ?_⟩
      exact hR _ _ (same_upd nt) (Dp.pr (SqT.of upd_same))
    rw [filt_true] at dy
    refine ⟨D, ys, rfl, .inl ⟨SqL.of eD, fun t nt => ?_⟩⟩
    have st := same_upd (o := .tup ys) nt
    have dt : Dp K (upd H2 t (.tup ys)) (.ref t) (.tuple (fs.map fun p => prD (shf m p))) := .tup (SqT.of upd_same) (DpAll.same st dy)
    refine catD (Dp.same (s2.trans st) (.tup hb hA)) dt (by rw [List.length_map, List.length_map]; omega) fun H3 r s3 dr => ?_
    refine ⟨by show 2 ≤ sizeLine; decide, fun z nz => ?_⟩
    have sz := same_upd (o := .tup [.int ((m : Int) + (n : Int)), r]) nz
    refine q _ _ (((s2.trans st).trans s3).trans sz) ?_
    refine .tup (SqT.of upd_same) (.cons ?_ (.cons (Dp.same sz ?_) .nil))
    · rw [show ((m + n : Nat) : Int) = (m : Int) + (n : Int) by omega]
      exact .int _
    · unfold prsD
      rw [List.map_append, List.map_map]
      exact dr
end
end TL
namespace TL
open PySem PySem.Spec PyProof.Rows L2
section
variable {P : Program} {w : World} {K : PySem.W.Frag} {mg : Str → Option Value} {base : Heap}
/-! ### the program: words of a text -/
/-- what isinstance says no of, asked for a text -/
def NoS (K : PySem.W.Frag) (H : Hp) (v : V) : Prop := ∃ t, TyX K H v t ∧ PySem.W.kitOne K t (.type "str") = some false
theorem ok_BadtextInit {f : Addr} {fd : FuncData} {C : Addr} (F : Fun K "__init__" "BadText.__init__" sBadtextInit f fd) (T : IniC K C "index") :
    FnOk P w K mg base CX0 1 f fd ["self", "index"] (spInit C "index") := by
  refine F.ok scBadtextInit (fun vs H Q E h => ?_) (fun cdv A outer s H vs Q E hr h => ?_)
  · obtain ⟨a, y, rfl, _⟩ := h
    rfl
  · obtain ⟨a, y, rfl, ea, q⟩ := h
    refine ⟨_, pss_one (ps_ost (pv 0) (pv 1)), ?_⟩
    exact ⟨y, rfl, .ref a, rfl, a, C, rfl, T.oex, T.nof, .inl ⟨ea, fun dx nd ne => q dx nd ne⟩⟩
def spWordsOf (K : PySem.W.Frag) (cBT : Addr) : Sp := fun vs H Q E => ∃ (v : V), vs = [v] ∧
  ((∃ z, v = .str z ∧ z.length ≤ 1000 ∧ ∀ p, H p = none → Q (.ref p) (upd H p (.lst ((Txt.split z " ").map V.str)))) ∨ (NoS K H v ∧ Fl E H cBT "index" .non))
theorem ok_WordsOf {f : Addr} {fd : FuncData} {cBadText : Addr} (F : Fun K "words_of" "words_of" sWordsOf f fd) (m_isinstance : mg "isinstance" = none) (m_str : mg "str" = none) (eBadText : ErrC P w K mg base "BadText" "index" cBadText) :
    FnOk P w K mg base (L2.CX P w) 3 f fd ["text"] (spWordsOf K cBadText) := by
  refine F.okX scWordsOf (fun vs H Q E h => ?_) (fun cdv A outer s H vs Q E hr h => ?_)
  · obtain ⟨v, rfl, _⟩ := h
    rfl
  · obtain ⟨v, rfl, h⟩ := h
    refine ⟨_, (pss_cons (ps_if (pt_not (pt_val (pe_callB (isiK K) (by rfl) m_isinstance (by decide +kernel) (pa_cons (pv 0) (pa_cons (pe_bltn (v := .ty "str") (by rfl) m_str (by decide +kernel) rfl) pa_nil))))) (pss_one (ps_err eBadText (hr.mono (by decide)) (takes_of rfl rfl rfl rfl) (by rfl) (pa_cons pe_non pa_nil))) pss_nil)
    (pss_one (ps_ret (pe_m1 PySem.F.slot_str_split PySem.F.type_str_split mt_split (pv 0) pe_str)))), ?_⟩
    rcases h with ⟨z, rfl, hl, q⟩ | ⟨⟨t, ty, kt⟩, q⟩
    · refine ⟨.str z, rfl, _, _, _, _, true, rfl, .ty "str", .base (.str _), kit_ty (by decide +kernel), true, rfl, iteF ?_⟩
      exact ⟨.str z, rfl, ⟨z, rfl⟩, z, _, rfl, rfl, by decide +kernel, by rw [sizeLine_eq]; omega, q⟩
    · exact ⟨v, rfl, _, _, _, _, false, rfl, .ty "str", ty, kt, false, rfl, iteT (errI fun H' d s e => q H' d s e)⟩
theorem DpAll.ofStrs {H : Hp} : ∀ ws : List Str, DpAll K H (ws.map V.str) (ws.map .str)
  | [] => .nil
  | w :: ws => .cons (.str w) (DpAll.ofStrs ws)
/-! ### the program: slides parsed, or an error -/
/-- what slides a text tells -/
def Tz (g z : Str) (d : PyData) : Prop := (z = "none" ∧ d = .tuple []) ∨ (z ≠ "none" ∧ ∃ ps, AllGood g (Txt.split z " ") ps ∧ d = prsD ps) ∨
  (z ≠ "none" ∧ ∃ i : Nat, FirstBad g (Txt.split z " ") i ∧ d = .tuple [.str (Str.ofString "BadText"), .int (i : Int)])
def spParseSlides (K : PySem.W.Frag) (cBT : Addr) : Sp := fun vs H Q E => ∃ (v : V), vs = [v] ∧
  ((∃ z, v = .str z ∧ z.length ≤ 900 ∧ Pl z ∧ (∀ H' r d, Same H H' → Tz ">" z d → Dp K H' r d → (z = "none" ∨ ∃ ps, AllGood ">" (Txt.split z " ") ps) → Q r H') ∧ ∀ i : Nat, z ≠ "none" → FirstBad ">" (Txt.split z " ") i → Fl E H cBT "index" (.int i)) ∨ (NoS K H v ∧ Fl E H cBT "index" .non))
theorem ok_ParseSlides {t0 : Tok} {f : Addr} {fd : FuncData} {cBadText : Addr} (F : Fun K "parse_slides" "parse_slides" sParseSlides f fd) (m_tuple : mg "tuple" = none) (m_NONE : mg "NONE" = some (.str "none" t0)) (eBadText : ErrC P w K mg base "BadText" "index" cBadText)
    (xWordsOf : OwnX P w K mg base "words_of" 3 ["text"] (spWordsOf K cBadText)) (oPairIn : Own P w K mg base "pair_in" 2 ["word", "sign"] (spPairIn K)) :
    FnOk P w K mg base (L2.CX P w) 4 f fd ["text"] (spParseSlides K cBadText) := by
  refine F.okX scParseSlides (fun vs H Q E h => ?_) (fun cdv A outer s H vs Q E hr h => ?_)
  · obtain ⟨v, rfl, _⟩ := h
    rfl
  · obtain ⟨v, rfl, h⟩ := h
    refine ⟨_, (pss_cons (ps_set (i := 1) scParseSlides.nd rfl (.inl rfl) (pe_ownX xWordsOf (hr.mono (by decide)) (takes_of rfl rfl rfl rfl) (by rfl) (pa_cons (pv 0) pa_nil)))
    (pss_cons (ps_if (pt_cmpR (eqDK K hr.units) (pv 1) (pe_lst (pa_cons (pe_glob (v := V.str "none") (by rfl) m_NONE ⟨_, rfl⟩) pa_nil)) (nomark _)) (pss_one (ps_ret (pe_tup pa_nil))) pss_nil)
    (pss_cons (ps_setLc (i := 2) (own := [("word", 3)]) (g := (gName 3)) (tt := tYes) (by rfl) scParseSlides.nd rfl rfl (sw_true rfl rfl rfl (by decide +kernel)) (piLK K (pv 1))
      (blkOk_by (own := [("word", 3)]) (N := nParseSlides) (sc := (defScope sParseSlides)) (by decide +kernel))
      (fun _ _ _ _ _ => (pg_name (i := 3) scParseSlides.nd rfl (Or.inl rfl))) (fun _ _ _ _ _ => pts_nil)
      (fun _ _ _ _ _ => (pe_own oPairIn (hr.mono (by decide)) (by rfl) (pa_cons (pv 3) (pa_cons pe_str pa_nil)))))
    (pss_cons (ps_if (pt_cmpR (inDK K hr.units) pe_non (pv 2) (by rfl)) (pss_one (ps_err eBadText (hr.mono (by decide)) (takes_of rfl rfl rfl rfl) (by rfl) (pa_cons (bmK K PySem.F.plainAttrs_list PySem.F.slot_list_index PySem.F.type_list_index (indexDK K (room65 hr)) (pv 2) (pa_cons pe_non pa_nil)) pa_nil))) pss_nil)
    (pss_one (ps_ret (pe_callTy (tupleK K) (by rfl) m_tuple (by decide +kernel) (pa_cons (pv 2) pa_nil)))))))), ?_⟩
    rcases h with ⟨z, rfl, hl, pz, q1, q2⟩ | ⟨ns, q⟩
    · refine ⟨.str z, rfl, .str z, rfl, .inl ⟨z, rfl, by omega, fun p np => ?_⟩⟩
      obtain ⟨ws, ew⟩ : ∃ ws, ws = Txt.split z " " := ⟨_, rfl⟩
      have pw : ∀ w ∈ ws, Pl w := by rw [ew]; exact pz.split sp_one sp_low
      have lw : ws.length ≤ 901 := by
        have := split_len (z := z) sp_one sp_low
        rw [← ew] at this
        omega
      have sw : ∀ w ∈ ws, w.length ≤ 1000 := fun w hw => by
        have := split_short (z := z) sp_one sp_low w (ew ▸ hw)
        omega
      have en := split_none (z := z)
      unfold Tz at q1
      rw [← ew] at q1 q2 en ⊢
      have sp := same_upd (o := .lst (ws.map V.str)) np
      have ep := same_at (o := .lst (ws.map V.str)) np
      generalize upd H p _ = H1 at sp ep ⊢
      dsimp only [gName]
      refine ⟨.ref p, rfl, by show 1 ≤ sizeLine; decide, fun L nL => ?_⟩
      have sL := same_upd (o := .lst [V.str "none"]) nL
      have eL := same_at (o := .lst [V.str "none"]) nL
      have ep2 := sL _ _ ep
      generalize upd H1 L _ = H2 at sL eL ep2 ⊢
      refine ⟨.list (ws.map .str), .list ([("none" : Str)].map .str), .lst (SqL.of ep2) (DpAll.ofStrs _), .lst (SqL.of eL) (DpAll.ofStrs [("none" : Str)]), shaped_strs _ pw, shaped_strs _ (by intro w hw; rw [List.mem_singleton.mp hw]; unfold Pl; decide +kernel), _, rfl, ?_⟩
      rw [eqv_strs]
      by_cases e : ws = [("none" : Str)]
      · rw [decide_eq_true e]
        refine iteT ⟨Nat.zero_le _, fun t nt => ?_⟩
        refine q1 _ _ _ ((sp.trans sL).trans (same_upd nt)) (.inl ⟨en.mp e, rfl⟩) (.tup (SqT.of upd_same) .nil) (.inl (en.mp e))
      · rw [decide_eq_false e]
        have zn : z ≠ "none" := fun y => e (en.mpr y)
        refine iteF ⟨.ref p, rfl, p, rfl, ⟨_, SqL.of ep2⟩, fun D nD => ?_⟩
        refine lc_gen (K := K) ws (fun o => [some (.str z), some (.ref p), none, some (.str o)]) (fun _ => true) (fun o => opD (pO ">" o)) nD
          (fun k H' hk s => ⟨_, _, SqL.of (s _ _ ep2), List.getElem?_eq_getElem (by rw [List.length_map]; exact hk)⟩) (fun H' s => ⟨_, SqL.of (s _ _ ep2), by rw [List.length_map]; exact Nat.le_refl _⟩)
          (fun k o y H' H'' ho s yy => ?_) (fun o => rfl) (fun o _ H' R s hR => hR H' (Same.refl _)) (fun o ho _ H' R s hR => ?_) (fun o => only_op _) (by omega) (fun H3 ys s3 eD dy => ?_)
        · obtain ⟨e, hyy⟩ := yy
          have := hyy _ (SqL.of (K := K) (s _ _ ep2))
          rw [List.getElem?_map, ho] at this
          cases this
          exact ⟨e, fun Q q => q⟩
        · refine ⟨.str o, rfl, o, ">", 62, rfl, sg_slide, sw o ho, fun H' v s' hv => hR _ _ s' ?_⟩
          cases ep : pO ">" o with
          | none => rw [ep] at hv; rw [hv]; exact .non
          | some r =>
            rw [ep] at hv
            obtain ⟨t, rfl, ht⟩ := hv
            exact Dp.pr ht
        · rw [filt_true] at dy
          have dy' : DpAll K H3 ys ((ws.map (pO ">")).map opD) := by rw [List.map_map]; exact dy
          have dl : Dp K H3 (.ref D) (.list ((ws.map (pO ">")).map opD)) := .lst (SqL.of eD) dy'
          have s03 := (sp.trans sL).trans s3
          refine ⟨.ref D, rfl, .none, (ws.map (pO ">")).map opD, .non, .inl dl, lay_ops _, by simp [PyData.canLay0], by simp [PyData.depth], _, rfl, ?_⟩
          show (if ((ws.map (pO ">")).map opD).any (fun z => PyData.eqv z .none) = true then _ else _)
          rcases good_or_bad ">" ws with ⟨ps, h⟩ | ⟨i, h⟩
          · have no : ((ws.map (pO ">")).map opD).any (fun z => PyData.eqv z .none) = false := by
              rw [List.any_eq_false]
              intro d hd
              obtain ⟨o, ho, rfl⟩ := List.mem_map.mp hd
              rw [h] at ho
              obtain ⟨r, _, rfl⟩ := List.mem_map.mp ho
              rw [eqv_op_none]
              simp
            rw [no]
            refine iteF ⟨.ref D, rfl, D, _, rfl, .inl ⟨SqL.of eD, fun t nt => ?_⟩⟩
            have st := same_upd (o := .tup ys) nt
            refine q1 _ _ _ (s03.trans st) (.inr (.inl ⟨zn, ps, h, rfl⟩)) (.tup (SqT.of upd_same) (DpAll.same st ?_)) (.inr ⟨ps, h⟩)
            have e3 : (ws.map (pO ">")).map opD = ps.map prD := by rw [h, List.map_map]; rfl
            rw [← e3]
            exact dy'
          · obtain ⟨⟨w, hw, hn⟩, hf⟩ := h
            have yes : ((ws.map (pO ">")).map opD).any (fun z => PyData.eqv z .none) = true := by
              rw [List.any_eq_true]
              exact ⟨_, List.mem_map.mpr ⟨_, List.mem_map.mpr ⟨w, List.mem_of_getElem? hw, rfl⟩, rfl⟩, by rw [eqv_op_none, hn]; rfl⟩
            rw [yes]
            refine iteT ⟨.ref D, rfl, .inl ⟨rfl, _, SqL.of eD⟩, D, .non, .none, _, i, opD (pO ">" w), rfl, rfl, dl, .non, shaped_ops _, by decide +kernel, by rw [List.getElem?_map, List.getElem?_map, hw]; rfl, by rw [eqv_op_none, hn]; rfl, fun j z' hj ez => ?_, ?_⟩
            · rw [List.getElem?_map, List.getElem?_map] at ez
              cases ej : ws[j]? with
              | none => rw [ej] at ez; cases ez
              | some v =>
                rw [ej] at ez
                obtain ⟨r, hr⟩ := hf j v hj ej
                cases ez
                rw [eqv_op_none, hr]
                rfl
            · exact errI fun H' d s e => q2 i zn ⟨⟨w, hw, hn⟩, hf⟩ H' d (s03.trans s) e
    · exact ⟨v, rfl, v, rfl, .inr ⟨ns, fun H' dd s e => q H' dd s e⟩⟩
/-! ### the program: forests parsed, or an error -/
def badD (i : Nat) : PyData := .tuple [.str (Str.ofString "BadText"), .int (i : Int)]
def pVw (o : Option (Int × Int)) : Option (V × V) := o.map fun p => (.int p.1, .int p.2)
/-- what forest a text tells -/
def Fz (z : Str) (d : PyData) : Prop := ∃ w0 t, Txt.split z " " = w0 :: t ∧ (((∀ n, ¬ Sz w0 n) ∧ d = badD 0) ∨ ∃ n, Sz w0 n ∧
  ((t = [("none" : Str)] ∧ d = forD n []) ∨ (∃ u r, t = ("none" : Str) :: u :: r ∧ d = badD 2) ∨ (t = [] ∧ d = badD 1) ∨
   (∃ u r, t = u :: r ∧ u ≠ "none" ∧ ((∃ k s, errL n [] (t.map fun w => pVw (pO "-" w)) = some (k, s) ∧ d = badD (k + 1)) ∨ (errL n [] (t.map fun w => pVw (pO "-" w)) = none ∧ ∃ ps, AllGood "-" t ps ∧ d = forD n ps)))))
theorem iws_of {H : Hp} : ∀ {ys : List V} {os : List (Option (Int × Int))}, DpAll K H ys (os.map opD) → Iws K H ys (os.map pVw)
  | [], [], _ => .nil
  | y :: ys, o :: os, .cons h t => by
    refine .cons ?_ (iws_of t)
    cases o with
    | none =>
      cases h
      exact .no (.base .non) (kit_ty (by decide +kernel))
    | some p =>
      obtain ⟨a, rfl, ha⟩ := Dp.prI h
      exact .two ha (Kd.int _) (Kd.int _)
theorem errL_good {n : Nat} : ∀ {ws : List Str} {es : List (Int × Int)}, errL n es (ws.map fun w => pVw (pO "-" w)) = none → ∃ ps, AllGood "-" ws ps
  | [], _, _ => ⟨[], rfl⟩
  | w :: ws, es, h => by
    rw [List.map_cons] at h
    cases e : pO "-" w with
    | none =>
      rw [e, errL_edge (by rfl)] at h
      cases h
    | some p =>
      have : ∃ es', errL n es' (ws.map fun w => pVw (pO "-" w)) = none := by
        rw [e] at h
        unfold errL at h
        split at h
        · cases h
        · split at h
          · cases h
          · split at h
            · cases h
            · exact ⟨_, h⟩
      obtain ⟨es', h'⟩ := this
      obtain ⟨ps, k⟩ := errL_good h'
      exact ⟨p :: ps, by unfold AllGood at k ⊢; rw [List.map_cons, List.map_cons, e, k]⟩
def spSizeIn (K : PySem.W.Frag) (cBT : Addr) : Sp := fun vs H Q E => ∃ (z : Str), vs = [.str z] ∧ z.length ≤ 900 ∧ (∀ n, Sz z n → Q (.int (n : Nat)) H) ∧ ((∀ n, ¬ Sz z n) → Fl E H cBT "index" (.int 0))
theorem ok_SizeIn {t0 : Tok} {f : Addr} {fd : FuncData} {cBadText : Addr} (F : Fun K "size_in" "size_in" sSizeIn f fd) (m_MAX_VERTICES : mg "MAX_VERTICES" = some (.int 12 t0)) (eBadText : ErrC P w K mg base "BadText" "index" cBadText)
    (oNumberIn : Own P w K mg base "number_in" 1 ["word"] spNumberIn) :
    FnOk P w K mg base (L2.CX P w) 3 f fd ["word"] (spSizeIn K cBadText) := by
  refine F.okX scSizeIn (fun vs H Q E h => ?_) (fun cdv A outer s H vs Q E hr h => ?_)
  · obtain ⟨z, rfl, _⟩ := h
    rfl
  · obtain ⟨z, rfl, lz, q1, q2⟩ := h
    refine ⟨_, (pss_cons (ps_set (i := 1) scSizeIn.nd rfl (.inl rfl) (pe_own oNumberIn (hr.mono (by decide)) (by rfl) (pa_cons (pe_m1 PySem.F.slot_str_removesuffix PySem.F.type_str_removesuffix mt_removesuffix (pv 0) pe_str) pa_nil)))
    (pss_cons (ps_if (PW.pt (pw_or (pt_not (pt_val (pe_m1 PySem.F.slot_str_endswith PySem.F.type_str_endswith mt_endswith (pv 0) pe_str))) (pw_or (pt_cmpR op_isN (pv 1) pe_non (nomark _)) (pw_or1 (pt_cmpR op_gt (pv 1) (pe_glob (v := V.int 12) (by rfl) m_MAX_VERTICES ⟨_, rfl⟩) (nomark _)))))) (pss_one (ps_err eBadText (hr.mono (by decide)) (takes_of rfl rfl rfl rfl) (by rfl) (pa_cons pe_int pa_nil))) pss_nil)
    (pss_one (ps_ret (pv 1))))), ?_⟩
    have hz : z.length ≤ sizeLine := by rw [sizeLine_eq]; omega
    refine ⟨.str z, rfl, ⟨z, rfl⟩, z, _, rfl, rfl, hz, ?_⟩
    by_cases hc : ∃ b : Str, z = b ++ (":" : Str)
    · obtain ⟨b, rfl⟩ := hc
      have lb : b.length ≤ 900 := by rw [Str.length_append] at lz; omega
      rw [rem_colon]
      refine ⟨b, rfl, by omega, ?_⟩
      dsimp only [gName]
      refine ⟨.str _, rfl, ⟨_, rfl⟩, _, ":", rfl, rfl, _, rfl, ?_⟩
      rw [ends_colon.mpr ⟨b, rfl⟩]
      cases e : numO b with
      | none =>
        refine iteF ⟨.non, rfl, rfl, true, rfl, iteT (errI fun H' d s k => q2 (fun n hn => ?_) H' d s k)⟩
        rw [size_num hn] at e
        cases e
      | some i =>
        refine iteF ⟨.int i, rfl, rfl, false, rfl, iteF ⟨.int i, rfl, _, 12, rfl, rfl, _, rfl, ite2 (fun h => ?_) (fun h => ?_)⟩⟩
        · have h := of_decide_eq_true h
          refine errI fun H' d s k => q2 (fun n hn => ?_) H' d s k
          have := size_num hn
          rw [e] at this
          have := Option.some.inj this
          have := hn.1
          omega
        · have l12 : i ≤ 12 := by
            have : ¬ (12 : Int) < i := fun y => h (decide_eq_true y)
            omega
          obtain ⟨n, hn, ei⟩ := size_of e l12
          have := q1 n hn
          rw [← ei] at this
          exact ⟨.int i, rfl, this⟩
    · rw [rem_other hc]
      refine ⟨z, rfl, by omega, ?_⟩
      dsimp only [gName]
      refine ⟨.str _, rfl, ⟨_, rfl⟩, _, ":", rfl, rfl, _, rfl, ?_⟩
      rw [Bool.eq_false_iff.mpr fun y => hc (ends_colon.mp y)]
      exact iteT (errI fun H' d s k => q2 (fun n hn => hc (size_colon hn)) H' d s k)
theorem cutW_12 (w0 : Str) : ∀ t : List Str, cutW (w0 :: t) (some 1) (some 2) = t.take 1
  | [] => rfl
  | u :: r => by
    unfold cutW
    rw [sIx_in (n := (w0 :: u :: r).length) (x := 1) (by decide) (by simp only [List.length_cons]; omega), sIx_in (n := (w0 :: u :: r).length) (x := 2) (by decide) (by simp only [List.length_cons]; omega)]
    rfl
theorem cutW_1 (w0 : Str) (t : List Str) : cutW (w0 :: t) (some 1) none = t := by
  rw [cutW_from (by decide) (by rw [List.length_cons]; omega)]
  rfl
theorem pl_none : ∀ w ∈ [("none" : Str)], Pl w := by
  intro w hw
  rw [List.mem_singleton.mp hw]
  unfold Pl
  decide +kernel
def spParseForest (K : PySem.W.Frag) (cBT : Addr) : Sp := fun vs H Q E => ∃ (v : V), vs = [v] ∧
  ((∃ z, v = .str z ∧ z.length ≤ 350 ∧ Pl z ∧ (∀ H' r d, Same H H' → Fz z d → Dp K H' r d → (∃ n es, d = forD n es) → Q r H') ∧ ∀ i : Nat, Fz z (badD i) → Fl E H cBT "index" (.int i)) ∨ (NoS K H v ∧ Fl E H cBT "index" .non))
theorem ok_ParseForest {t0 : Tok} {f : Addr} {fd : FuncData} {cBadText : Addr} (F : Fun K "parse_forest" "parse_forest" sParseForest f fd) (m_tuple : mg "tuple" = none) (m_NONE : mg "NONE" = some (.str "none" t0)) (eBadText : ErrC P w K mg base "BadText" "index" cBadText)
    (xWordsOf : OwnX P w K mg base "words_of" 3 ["text"] (spWordsOf K cBadText)) (xSizeIn : OwnX P w K mg base "size_in" 3 ["word"] (spSizeIn K cBadText)) (oPairIn : Own P w K mg base "pair_in" 2 ["word", "sign"] (spPairIn K))
    (oEdgesError : Own P w K mg base "edges_error" 4 ["n", "edges"] (spEdgesError K)) :
    FnOk P w K mg base (L2.CX P w) 5 f fd ["text"] (spParseForest K cBadText) := by
  refine F.okX scParseForest (fun vs H Q E h => ?_) (fun cdv A outer s H vs Q E hr h => ?_)
  · obtain ⟨v, rfl, _⟩ := h
    rfl
  · obtain ⟨v, rfl, h⟩ := h
    refine ⟨_, (pss_cons (ps_set (i := 1) scParseForest.nd rfl (.inl rfl) (pe_ownX xWordsOf (hr.mono (by decide)) (takes_of rfl rfl rfl rfl) (by rfl) (pa_cons (pv 0) pa_nil)))
    (pss_cons (ps_set (i := 2) scParseForest.nd rfl (.inl rfl) (pe_ownX xSizeIn (hr.mono (by decide)) (takes_of rfl rfl rfl rfl) (by rfl) (pa_cons (pe_ix (ixLK K) (pv 1) pe_int (fun _ _ => rfl)) pa_nil)))
    (pss_cons (ps_if (pt_cmpR (eqDK K hr.units) (pe_slice (slLK K) (pv 1) (po_some pe_int) po_none) (pe_lst (pa_cons (pe_glob (v := V.str "none") (by rfl) m_NONE ⟨_, rfl⟩) pa_nil)) (nomark _)) (pss_one (ps_ret (pe_tup (pa_cons (pv 2) (pa_cons (pe_tup pa_nil) pa_nil))))) pss_nil)
    (pss_cons (ps_if (pt_cmpR (eqDK K hr.units) (pe_slice (slLK K) (pv 1) (po_some pe_int) (po_some pe_int)) (pe_lst (pa_cons (pe_glob (v := V.str "none") (by rfl) m_NONE ⟨_, rfl⟩) pa_nil)) (nomark _)) (pss_one (ps_err eBadText (hr.mono (by decide)) (takes_of rfl rfl rfl rfl) (by rfl) (pa_cons pe_int pa_nil))) pss_nil)
    (pss_cons (ps_set (i := 3) scParseForest.nd rfl (.inl rfl) (pe_callTy (tupleK K) (by rfl) m_tuple (by decide +kernel) (pa_cons (pe_lc (own := [("word", 5)]) (g := (gName 5)) (tt := tYes) rfl scParseForest.nd (piLK K (pe_slice (slLK K) (pv 1) (po_some pe_int) po_none))
      (blkOk_by (own := [("word", 5)]) (N := nParseForest) (sc := (defScope sParseForest)) (by decide +kernel))
      (fun _ _ _ _ _ => (pg_name (i := 5) scParseForest.nd rfl (Or.inl rfl))) (fun _ _ _ _ _ => pts_nil)
      (fun _ _ _ _ _ => (pe_own oPairIn (hr.mono (by decide)) (by rfl) (pa_cons (pv 5) (pa_cons pe_str pa_nil))))) pa_nil)))
    (pss_cons (ps_set (i := 4) scParseForest.nd rfl (.inl rfl) (pe_own oEdgesError (hr.mono (by decide)) (by rfl) (pa_cons (pv 2) (pa_cons (pv 3) pa_nil))))
    (pss_cons (ps_if (pt_cmpR op_notN (pv 4) pe_non (nomark _)) (pss_one (ps_err eBadText (hr.mono (by decide)) (takes_of rfl rfl rfl rfl) (by rfl) (pa_cons (pe_op op_add (pe_ix (ixTK K) (pv 4) pe_int (fun _ _ => rfl)) pe_int) pa_nil))) pss_nil)
    (pss_cons (ps_if (pt_not (truthK K (pv 3) (by intro _; rfl))) (pss_one (ps_err eBadText (hr.mono (by decide)) (takes_of rfl rfl rfl rfl) (by rfl) (pa_cons pe_int pa_nil))) pss_nil)
    (pss_one (ps_ret (pe_tup (pa_cons (pv 2) (pa_cons (pv 3) pa_nil))))))))))))), ?_⟩
    rcases h with ⟨z, rfl, hl, pz, q1, q2⟩ | ⟨ns, q⟩
    · refine ⟨.str z, rfl, .str z, rfl, .inl ⟨z, rfl, by omega, fun p np => ?_⟩⟩
      obtain ⟨w0, t, ew⟩ : ∃ w0 t, Txt.split z " " = w0 :: t := by
        cases e : Txt.split z " " with
        | nil => exact absurd e (split_ne (z := z) sp_one sp_low)
        | cons w0 t => exact ⟨w0, t, rfl⟩
      have pw : ∀ w ∈ w0 :: t, Pl w := by rw [← ew]; exact pz.split sp_one sp_low
      have lw : t.length ≤ 350 := by
        have := split_len (z := z) sp_one sp_low
        rw [ew, List.length_cons] at this
        omega
      have sw : ∀ w ∈ w0 :: t, w.length ≤ 350 := fun w hw => by
        have := split_short (z := z) sp_one sp_low w (ew ▸ hw)
        omega
      have pt : ∀ w ∈ t, Pl w := fun w hw => pw w (List.mem_cons_of_mem _ hw)
      rw [ew]
      have s1 := same_upd (o := .lst ((w0 :: t).map V.str)) np
      have ep := same_at (o := .lst ((w0 :: t).map V.str)) np
      generalize upd H p _ = H1 at s1 ep ⊢
      dsimp only [gName, tNoPart]
      refine ⟨.ref p, rfl, p, _, 0, .str w0, rfl, rfl, SqL.of ep, atI_nat (j := 0) rfl, w0, rfl, by have := sw w0 List.mem_cons_self; omega, fun n hn => ?_, fun no H' dd s e => q2 0 ⟨w0, t, ew, .inl ⟨no, rfl⟩⟩ H' dd (s1.trans s) e⟩
      have fz : ∀ d, _ → Fz z d := fun d h => ⟨w0, t, ew, .inr ⟨n, hn, h⟩⟩
      refine ⟨.ref p, rfl, 1, rfl, p, _, rfl, SqL.of ep, fun a na => ?_⟩
      rw [cutV_str, cutW_1]
      have s2 := same_upd (o := .lst (t.map V.str)) na
      have ea := same_at (o := .lst (t.map V.str)) na
      have ep2 := s2 _ _ ep
      generalize upd H1 a _ = H2 at s2 ea ep2 ⊢
      refine ⟨by show 1 ≤ sizeLine; decide, fun L nL => ?_⟩
      have s3 := same_upd (o := .lst [V.str "none"]) nL
      have eL := same_at (o := .lst [V.str "none"]) nL
      have ep3 := s3 _ _ ep2
      have ea3 := s3 _ _ ea
      generalize upd H2 L _ = H3 at s3 eL ep3 ea3 ⊢
      have s13 := (s1.trans s2).trans s3
      refine ⟨.list (t.map .str), .list ([("none" : Str)].map .str), .lst (SqL.of ea3) (DpAll.ofStrs _), .lst (SqL.of eL) (DpAll.ofStrs [("none" : Str)]), shaped_strs _ pt, shaped_strs _ pl_none, _, rfl, ?_⟩
      rw [eqv_strs]
      by_cases e1 : t = [("none" : Str)]
      · rw [decide_eq_true e1]
        refine iteT ⟨.int n, rfl, Nat.zero_le _, fun b nb => ⟨by show 2 ≤ sizeLine; decide, fun c nc => ?_⟩⟩
        have s4 := same_upd (o := .tup []) nb
        have s5 := same_upd (o := .tup [V.int n, V.ref b]) nc
        exact q1 _ _ _ ((s13.trans s4).trans s5) (fz _ (.inl ⟨e1, rfl⟩)) (.tup (SqT.of upd_same) (.cons (.int _) (.cons (.tup (SqT.of (s5 _ _ upd_same)) .nil) .nil))) ⟨n, _, rfl⟩
      rw [decide_eq_false e1]
      refine iteF ⟨.ref p, rfl, 1, rfl, 2, rfl, p, _, rfl, SqL.of ep3, fun a2 na2 => ?_⟩
      rw [cutV_str, cutW_12]
      have s4 := same_upd (o := .lst ((t.take 1).map V.str)) na2
      have ea2 := same_at (o := .lst ((t.take 1).map V.str)) na2
      have ep4 := s4 _ _ ep3
      generalize upd H3 a2 _ = H4 at s4 ea2 ep4 ⊢
      refine ⟨by show 1 ≤ sizeLine; decide, fun L2 nL2 => ?_⟩
      have s5 := same_upd (o := .lst [V.str "none"]) nL2
      have eL2 := same_at (o := .lst [V.str "none"]) nL2
      have ep5 := s5 _ _ ep4
      have ea5 := s5 _ _ ea2
      generalize upd H4 L2 _ = H5 at s5 eL2 ep5 ea5 ⊢
      have s15 := (s13.trans s4).trans s5
      refine ⟨.list ((t.take 1).map .str), .list ([("none" : Str)].map .str), .lst (SqL.of ea5) (DpAll.ofStrs _), .lst (SqL.of eL2) (DpAll.ofStrs [("none" : Str)]), shaped_strs _ (fun w hw => pt w (List.mem_of_mem_take hw)), shaped_strs _ pl_none, _, rfl, ?_⟩
      rw [eqv_strs]
      by_cases e2 : t.take 1 = [("none" : Str)]
      · rw [decide_eq_true e2]
        have : ∃ u r, t = ("none" : Str) :: u :: r := by
          match t, e1, e2 with
          | [], _, h => cases h
          | [u], h1, h2 => exact absurd h2 h1
          | u :: x :: r, _, h2 => exact ⟨x, r, by rw [(List.cons.inj h2).1]⟩
        exact iteT (errI fun H' d s e => q2 2 (fz _ (.inr (.inl (by obtain ⟨u, r, h⟩ := this; exact ⟨u, r, h, rfl⟩)))) H' d (s15.trans s) e)
      rw [decide_eq_false e2]
      refine iteF ⟨.ref p, rfl, 1, rfl, p, _, rfl, SqL.of ep5, fun a3 na3 => ?_⟩
      rw [cutV_str, cutW_1]
      have s6 := same_upd (o := .lst (t.map V.str)) na3
      have ea6 := same_at (o := .lst (t.map V.str)) na3
      generalize upd H5 a3 _ = H6 at s6 ea6 ⊢
      refine ⟨a3, rfl, ⟨_, SqL.of ea6⟩, fun D nD => ?_⟩
      refine lc_gen (K := K) t (fun o => [some (.str z), some (.ref p), some (.int n), none, none, some (.str o)]) (fun _ => true) (fun o => opD (pO "-" o)) nD
        (fun k H' hk s => ⟨_, _, SqL.of (s _ _ ea6), List.getElem?_eq_getElem (by rw [List.length_map]; exact hk)⟩) (fun H' s => ⟨_, SqL.of (s _ _ ea6), by rw [List.length_map]; exact Nat.le_refl _⟩)
        (fun k o y H' H'' ho s yy => ?_) (fun o => rfl) (fun o _ H' R s hR => hR H' (Same.refl _)) (fun o ho _ H' R s hR => ?_) (fun o => only_op _) (by omega) (fun H7 ys s7 eD dy => ?_)
      · obtain ⟨e, hyy⟩ := yy
        have := hyy _ (SqL.of (K := K) (s _ _ ea6))
        rw [List.getElem?_map, ho] at this
        cases this
        exact ⟨e, fun Q q => q⟩
      · refine ⟨.str o, rfl, o, "-", 45, rfl, sg_edge, by have := sw o (List.mem_cons_of_mem _ ho); omega, fun H' v s' hv => hR _ _ s' ?_⟩
        cases ep : pO "-" o with
        | none => rw [ep] at hv; rw [hv]; exact .non
        | some r =>
          rw [ep] at hv
          obtain ⟨t, rfl, ht⟩ := hv
          exact Dp.pr ht
      rw [filt_true] at dy
      have dy' : DpAll K H7 ys ((t.map (pO "-")).map opD) := by rw [List.map_map]; exact dy
      have lys : ys.length = t.length := by rw [DpAll.length dy', List.length_map, List.length_map]
      refine ⟨D, _, rfl, .inl ⟨SqL.of eD, fun tt nt => ?_⟩⟩
      have s8 := same_upd (o := .tup ys) nt
      have et := same_at (o := .tup ys) nt
      have dy8 := DpAll.same s8 dy'
      generalize upd H7 tt _ = H8 at s8 et dy8 ⊢
      have s18 := ((s15.trans s6).trans s7).trans s8
      have iw := iws_of dy8
      rw [List.map_map] at iw
      refine ⟨.int n, rfl, .ref tt, rfl, n, tt, ys, t.map fun w => pVw (pO "-" w), rfl, hn.1, SqT.of et, iw, by omega, fun H9 r s9 dr => ?_⟩
      have et9 := s9 _ _ et
      have s19 := s18.trans s9
      dsimp only [gName]
      cases ee : errL n [] (t.map fun w => pVw (pO "-" w)) with
      | some ks =>
        obtain ⟨k, sg⟩ := ks
        rw [ee] at dr
        have ne : ∃ u r, t = u :: r ∧ u ≠ "none" := by
          cases t with
          | nil => cases ee
          | cons u r => exact ⟨u, r, rfl, fun y => e2 (by rw [y]; rfl)⟩
        obtain ⟨e, es, rfl, he, hA⟩ := Dp.tupI dr
        obtain ⟨u, r, et, un⟩ := ne
        cases hA with
        | cons h1 h2 =>
          cases h1
          refine ⟨.ref e, rfl, rfl, _, rfl, iteT ⟨.ref e, rfl, e, _, 0, .int k, rfl, rfl, he, atI_nat (j := 0) rfl, _, 1, rfl, rfl, errI fun H' d s x => ?_⟩⟩
          exact q2 (k + 1) (fz _ (.inr (.inr (.inr ⟨u, r, et, un, .inl ⟨k, sg, ee, rfl⟩⟩)))) H' d (s19.trans s) x
      | none =>
        rw [ee] at dr
        cases dr
        refine ⟨.non, rfl, rfl, _, rfl, iteF ⟨.ref tt, rfl, _, .inr (.inl ⟨_, SqT.of et9, rfl⟩), ?_⟩⟩
        have e3 : ∀ ps, AllGood "-" t ps → (t.map (pO "-")).map opD = ps.map prD := fun ps h => by
          rw [show t.map (pO "-") = ps.map some from h, List.map_map]
          rfl
        cases ys with
        | nil =>
          have t0 : t = [] := List.length_eq_zero_iff.mp (by rw [← lys]; rfl)
          exact iteT (errI fun H' d s x => q2 1 (fz _ (.inr (.inr (.inl ⟨t0, rfl⟩)))) H' d (s19.trans s) x)
        | cons y ys =>
          obtain ⟨ps, gps⟩ := errL_good ee
          have ne : ∃ u r, t = u :: r ∧ u ≠ "none" := by
            cases t with
            | nil => cases lys
            | cons u r => exact ⟨u, r, rfl, fun y => e2 (by rw [y]; rfl)⟩
          obtain ⟨u, r, et2, un⟩ := ne
          refine iteF ⟨.int n, rfl, .ref tt, rfl, by show 2 ≤ sizeLine; decide, fun c nc => ?_⟩
          have sc := same_upd (o := .tup [V.int n, V.ref tt]) nc
          rw [e3 ps gps] at dy8
          exact q1 _ _ _ (s19.trans sc) (fz _ (.inr (.inr (.inr ⟨u, r, et2, un, .inr ⟨ee, ps, gps, rfl⟩⟩)))) (.tup (SqT.of upd_same) (.cons (.int _) (.cons (.tup (SqT.of (sc _ _ et9)) (DpAll.same (s9.trans sc) dy8)) .nil))) ⟨n, _, rfl⟩
    · exact ⟨v, rfl, v, rfl, .inr ⟨ns, fun H' dd s e => q H' dd s e⟩⟩
end
end TL
namespace TL
open PySem PySem.Spec PyProof.Rows L2
section
variable {P : Program} {w : World} {K : PySem.W.Frag} {mg : Str → Option Value} {base : Heap}
/-! ### the program: texts -/
theorem small_log {i : Int} (h : 0 ≤ i ∧ i ≤ 99) : i.natAbs.log2 < 1920 := Nat.lt_trans (sm_log (i := i) (by unfold sm; omega)) (by decide)
def spListText (K : PySem.W.Frag) : Sp := fun vs H Q _ => ∃ (a : Addr) (ws : List Str), vs = [.ref a] ∧ H a = some (.lst (ws.map V.str)) ∧ (∀ w ∈ ws, w.length ≤ 5) ∧ ws.length ≤ 1000 ∧ Q (.str (if ws = [] then ("none" : Str) else Txt.join " " ws)) H
theorem ok_ListText {t0 : Tok} {f : Addr} {fd : FuncData} {k : Nat} (F : Fun K "list_text" "list_text" sListText f fd) (m_NONE : mg "NONE" = some (.str "none" t0)) :
    FnOk P w K mg base CX0 (k + 1) f fd ["words"] (spListText K) := by
  refine F.ok scListText (fun vs H Q E h => ?_) (fun cdv A outer s H vs Q E hr h => ?_)
  · obtain ⟨a, ws, rfl, _⟩ := h
    rfl
  · obtain ⟨a, ws, rfl, ha, hl, h1, q⟩ := h
    refine ⟨_, (pss_one (ps_ret (pe_ifExp (truthK K (pv 0) (by intro _; rfl)) (joinK K pe_str (pv 0)) (pe_glob (v := V.str "none") (by rfl) m_NONE ⟨_, rfl⟩)))), ?_⟩
    refine ⟨.ref a, rfl, _, .inl ⟨_, SqL.of ha, rfl⟩, ?_⟩
    by_cases e : ws = []
    · subst e
      exact iteF q
    · rw [if_neg e] at q
      have : (!(ws.map V.str).isEmpty) = true := by
        cases ws with
        | nil => exact absurd rfl e
        | cons _ _ => rfl
      rw [this]
      refine iteT ⟨⟨_, rfl⟩, .ref a, rfl, _, a, ws, rfl, rfl, .inl (SqL.of ha), ?_, q⟩
      have h2 := sum_le hl
      have h3 : (" " : Str).length = 1 := by decide +kernel
      rw [h3]
      omega
theorem DpAll.strs {H : Hp} : ∀ {xs : List V} {ws : List Str}, DpAll K H xs (ws.map .str) → xs = ws.map V.str
  | [], [], _ => rfl
  | _ :: _, w :: ws, .cons h a => by
    cases h
    rw [DpAll.strs a]
    rfl
theorem wds_text (g : Str) (ps : List (Int × Int)) : (if ps.map (wrd g) = [] then ("none" : Str) else Txt.join " " (ps.map (wrd g))) = txt g ps := by
  unfold txt wds
  cases ps with
  | nil => 
    show ("none" : Str) = Txt.join " " [("none" : Str)]
    decide +kernel
  | cons p ps => rfl
def spSlidesText (K : PySem.W.Frag) : Sp := fun vs H Q _ => ∃ (x : V) (ps : List (Int × Int)), vs = [x] ∧ Dp K H x (prsD ps) ∧ (∀ p ∈ ps, sm12 p) ∧ ps.length ≤ 500 ∧ ∀ H', Same H H' → Q (.str (txt ">" ps)) H'
theorem ok_SlidesText {f : Addr} {fd : FuncData} (F : Fun K "slides_text" "slides_text" sSlidesText f fd) (oListText : Own P w K mg base "list_text" 1 ["words"] (spListText K)) :
    FnOk P w K mg base CX0 2 f fd ["slides"] (spSlidesText K) := by
  refine F.ok scSlidesText (fun vs H Q E h => ?_) (fun cdv A outer s H vs Q E hr h => ?_)
  · obtain ⟨x, ps, rfl, _⟩ := h
    rfl
  · obtain ⟨x, ps, rfl, hx, sp, hl, q⟩ := h
    obtain ⟨a, xs, rfl, ha, hA⟩ := Dp.tupI hx
    refine ⟨_, (pss_one (ps_ret (pe_own oListText (hr.mono (by decide)) (by rfl) (pa_cons (pe_lc (own := [("u", 1), ("v", 2)]) (g := (gTup K 2 (gCons (gName 1) (gCons (gName 2) gNil)))) (tt := tYes) rfl scSlidesText.nd (piTK K (pv 0))
      (blkOk_by (own := [("u", 1), ("v", 2)]) (N := nSlidesText) (sc := (defScope sSlidesText)) (by decide +kernel))
      (fun _ _ _ _ _ => (pgTK K (pgs_cons (pg_name (i := 1) scSlidesText.nd rfl (Or.inl rfl)) (pgs_cons (pg_name (i := 2) scSlidesText.nd rfl (Or.inl rfl)) pgs_nil)))) (fun _ _ _ _ _ => pts_nil)
      (fun _ _ _ _ _ => (pe_jd (.cons (pe_fmt (pv 1)) (.cons pe_str (.cons (pe_fmt (pv 2)) .nil)))))) pa_nil)))), ?_⟩
    refine ⟨.ref a, rfl, a, rfl, ⟨_, ha⟩, fun D nD => ?_⟩
    refine lc_tupP (K := K) (fun _ => true) (fun p => .str (wrd ">" p)) nD ha hA (fun _ _ => rfl) (fun o _ H' R s1 hR => ?_) (fun o ho _ H' R s1 hR => ?_) (fun o => by simp [only]) (by omega) (fun H2 ys s2 eD dy => ?_)
    · exact hR H' (Same.refl _)
    · have so := sp o ho
      have l1 := (dig_ok so.1).2
      have l2 := (dig_ok so.2).2
      have l3 : (">" : Str).length = 1 := by decide +kernel
      have le : (Str.empty ++ dig o.1 ++ (">" : Str) ++ dig o.2).length ≤ 5 := by
        rw [Str.empty_append, Str.length_append, Str.length_append]
        omega
      refine ⟨.int o.1, rfl, .inr ⟨o.1, rfl, small_log so.1, _, rfl, ?_, _, rfl, ?_, .int o.2, rfl, .inr ⟨o.2, rfl, small_log so.2, _, rfl, ?_, ?_⟩⟩⟩
      · rw [Str.empty_append]
        exact Nat.le_trans l1 (by decide)
      · rw [Str.empty_append, Str.length_append]
        exact Nat.le_trans (Nat.add_le_add l1 (Nat.le_of_eq l3)) (by decide)
      · exact Nat.le_trans le (by decide)
      · rw [Str.empty_append]
        exact hR H' _ (Same.refl _) (.str _)
    · rw [filt_true] at dy
      have ey : ys = (ps.map (wrd ">")).map V.str := DpAll.strs (by rw [List.map_map]; exact dy)
      subst ey
      refine ⟨D, ps.map (wrd ">"), rfl, eD, fun w hw => ?_, by rw [List.length_map]; omega, ?_⟩
      · obtain ⟨p, hp, rfl⟩ := List.mem_map.mp hw
        exact (wrd_mem sg_slide (sp p hp)).2.2
      · rw [wds_text]
        exact q _ s2
def spForestText (K : PySem.W.Frag) : Sp := fun vs H Q _ => ∃ (x : V) (m : Nat) (es : List (Int × Int)), vs = [x] ∧ Dp K H x (forD m es) ∧ m ≤ 12 ∧ (∀ p ∈ es, sm12 p) ∧ es.length ≤ 500 ∧ ∀ H', Same H H' → Q (.str (ftx m es)) H'
theorem ok_ForestText {f : Addr} {fd : FuncData} (F : Fun K "forest_text" "forest_text" sForestText f fd) (oListText : Own P w K mg base "list_text" 1 ["words"] (spListText K)) :
    FnOk P w K mg base CX0 2 f fd ["forest"] (spForestText K) := by
  refine F.ok scForestText (fun vs H Q E h => ?_) (fun cdv A outer s H vs Q E hr h => ?_)
  · obtain ⟨x, m, es, rfl, _⟩ := h
    rfl
  · obtain ⟨x, m, es, rfl, hx, hm, sp, hl, q⟩ := h
    obtain ⟨a, b, xs, rfl, ha, hb, hA⟩ := Dp.forI hx
    have sm : 0 ≤ (m : Int) ∧ (m : Int) ≤ 99 := by omega
    have lm := (dig_ok sm).2
    have l4 : (": " : Str).length = 2 := by decide +kernel
    refine ⟨_, (pss_cons (ps_asg (pv 0) (pgTK K (pgs_cons (pg_name (i := 1) scForestText.nd rfl (Or.inl rfl)) (pgs_cons (pg_name (i := 2) scForestText.nd rfl (Or.inl rfl)) pgs_nil))))
    (pss_one (ps_ret (pe_op op_add_str (pe_jd (.cons (pe_fmt (pv 1)) (.cons pe_str .nil))) (pe_own oListText (hr.mono (by decide)) (by rfl) (pa_cons (pe_lc (own := [("a", 3), ("b", 4)]) (g := (gTup K 2 (gCons (gName 3) (gCons (gName 4) gNil)))) (tt := tYes) rfl scForestText.nd (piTK K (pv 2))
      (blkOk_by (own := [("a", 3), ("b", 4)]) (N := nForestText) (sc := (defScope sForestText)) (by decide +kernel))
      (fun _ _ _ _ _ => (pgTK K (pgs_cons (pg_name (i := 3) scForestText.nd rfl (Or.inl rfl)) (pgs_cons (pg_name (i := 4) scForestText.nd rfl (Or.inl rfl)) pgs_nil)))) (fun _ _ _ _ _ => pts_nil)
      (fun _ _ _ _ _ => (pe_jd (.cons (pe_fmt (pv 3)) (.cons pe_str (.cons (pe_fmt (pv 4)) .nil)))))) pa_nil)))))), ?_⟩
    refine ⟨.ref a, rfl, a, _, rfl, ha, rfl, _, _, rfl, _, _, rfl, rfl, ?_⟩
    refine ⟨.int (m : Int), rfl, .inr ⟨(m : Int), rfl, small_log sm, _, rfl, ?_, _, rfl, ?_, ?_⟩⟩
    · rw [Str.empty_append]
      exact Nat.le_trans lm (by decide)
    · rw [Str.empty_append, Str.length_append]
      exact Nat.le_trans (Nat.add_le_add lm (Nat.le_of_eq l4)) (by decide)
    refine ⟨.ref b, rfl, b, rfl, ⟨_, hb⟩, fun D nD => ?_⟩
    refine lc_tupP (K := K) (fun _ => true) (fun p => .str (wrd "-" p)) nD hb hA (fun _ _ => rfl) (fun o _ H' R s1 hR => hR H' (Same.refl _)) (fun o ho _ H' R s1 hR => ?_) (fun o => by simp [only]) (by omega) (fun H2 ys s2 eD dy => ?_)
    · have so := sp o ho
      have l1 := (dig_ok so.1).2
      have l2 := (dig_ok so.2).2
      have l3 : ("-" : Str).length = 1 := by decide +kernel
      have le : (Str.empty ++ dig o.1 ++ ("-" : Str) ++ dig o.2).length ≤ 5 := by
        rw [Str.empty_append, Str.length_append, Str.length_append]
        omega
      refine ⟨.int o.1, rfl, .inr ⟨o.1, rfl, small_log so.1, _, rfl, ?_, _, rfl, ?_, .int o.2, rfl, .inr ⟨o.2, rfl, small_log so.2, _, rfl, ?_, ?_⟩⟩⟩
      · rw [Str.empty_append]
        exact Nat.le_trans l1 (by decide)
      · rw [Str.empty_append, Str.length_append]
        exact Nat.le_trans (Nat.add_le_add l1 (Nat.le_of_eq l3)) (by decide)
      · exact Nat.le_trans le (by decide)
      · rw [Str.empty_append]
        exact hR H' _ (Same.refl _) (.str _)
    · rw [filt_true] at dy
      have ey : ys = (es.map (wrd "-")).map V.str := DpAll.strs (by rw [List.map_map]; exact dy)
      subst ey
      refine ⟨D, es.map (wrd "-"), rfl, eD, fun w hw => ?_, by rw [List.length_map]; omega, ?_⟩
      · obtain ⟨p, hp, rfl⟩ := List.mem_map.mp hw
        exact (wrd_mem sg_edge (sp p hp)).2.2
      · rw [wds_text, Str.empty_append]
        have lt := txt_len sg_edge sp
        refine ⟨_, _, rfl, rfl, ?_, q _ s2⟩
        rw [Str.length_append]
        exact Nat.le_trans (Nat.add_le_add (Nat.add_le_add lm (Nat.le_of_eq l4)) lt) (by rw [sizeLine_eq]; omega)
end
end TL
namespace TL
open PySem PySem.Spec PyProof.Rows L2
section
variable {P : Program} {w : World} {K : PySem.W.Frag} {mg : Str → Option Value} {base : Heap}
theorem eqv_lists (a b : List Int) : PyData.eqv (.list (a.map .int)) (.list (b.map .int)) = decide (a = b) := by
  have key : ∀ a b : List Int, PyData.eqvAll (a.map .int) (b.map .int) = decide (a = b) := by
    intro a
    induction a with
    | nil => intro b; cases b <;> simp [PyData.eqvAll]
    | cons x a ih =>
      intro b
      cases b with
      | nil => simp [PyData.eqvAll]
      | cons y b =>
        rw [List.map_cons, List.map_cons]
        simp only [PyData.eqvAll, PyData.eqv, ih]
        by_cases h1 : x = y
        · by_cases h2 : a = b
          · subst h1 h2; simp
          · simp [h1, h2]
        · simp [h1]
  simp only [PyData.eqv, key]
/-! ### the law's own slides -/
theorem only_one {F : List Int} {u : Int} (nd : F.Nodup) (h : u ∈ F) : F.filter (fun o => !decide (o = u)) = [] ↔ F = [u] := by
  constructor
  · intro e
    have all : ∀ x ∈ F, x = u := fun x hx => by
      by_cases z : x = u
      · exact z
      · have : x ∈ F.filter fun o => !decide (o = u) := List.mem_filter.mpr ⟨hx, by rw [decide_eq_false z]; rfl⟩
        rw [e] at this
        exact nomatch this
    match F, nd, h, all with
    | [x], _, _, all => rw [all x List.mem_cons_self]
    | x :: y :: F, nd, _, all =>
      have h1 := all x List.mem_cons_self
      have h2 := all y (List.mem_cons_of_mem _ List.mem_cons_self)
      exact absurd (by rw [h1, ← h2]; exact List.mem_cons_self) (List.nodup_cons.mp nd).1
  · intro e
    rw [e]
    simp
theorem oth_one {m : Nat} {es : List (Int × Int)} {S : List Int} {u v : Int} (iss : IsSet m es S) (hu : u ∈ S) (hv : v ∈ nearL m es u) : oth m es S u v = [] ↔ (nearL m es v).filter (fun o => decide (o ∈ S)) = [u] := by
  have nd : ((nearL m es v).filter fun o => decide (o ∈ S)).Nodup := (nearL_asc m es v).nodup.filter _
  have mu : u ∈ (nearL m es v).filter fun o => decide (o ∈ S) := List.mem_filter.mpr ⟨mem_nearL.mpr ⟨iss.rng u hu, by rw [ordP_comm]; exact (mem_nearL.mp hv).2⟩, decide_eq_true hu⟩
  rw [← only_one nd mu]
  unfold oth
  rw [List.filter_filter]
  have e : (fun o => decide (o ∈ S) && !decide (o = u)) = fun a => !decide (a = u) && decide (a ∈ S) := by
    funext o
    rw [Bool.and_comm]
  rw [e]
def spLSlides (K : PySem.W.Frag) : Sp := fun vs H Q _ => ∃ (x y : V) (m : Nat) (es : List (Int × Int)) (S : List Int), vs = [x, y] ∧ m ≤ 12 ∧ IsFor m es ∧ Dp K H x (forD m es) ∧ Dp K H y (intsD S) ∧ IsSet m es S ∧
  ∀ (H' : Hp) (D : Addr) (xs : List V), Same H H' → H D = none → H' D = some (.lst xs) → DpAll K H' xs ((srtP (slidesP m es S)).map prD) → Q (.ref D) H'
theorem ok_LSlides {f : Addr} {fd : FuncData} (F : Fun K "_law_slides" "_law_slides" sLSlides f fd) (m_sorted : mg "sorted" = none) (oLNear : Own P w K mg base "_law_near" 1 ["_law_forest_here", "_law_vertex"] (spLNear K)) :
    FnOk P w K mg base CX0 2 f fd ["_law_forest_here", "_law_lamps"] (spLSlides K) := by
  refine F.ok scLSlides (fun vs H Q E h => ?_) (fun cdv A outer s H vs Q E hr h => ?_)
  · obtain ⟨x, y, m, es, S, rfl, _⟩ := h
    rfl
  · obtain ⟨x, y, m, es, S, rfl, hm, isf, hx, hy, iss, q⟩ := h
    obtain ⟨c, rfl, hc⟩ := Dp.intsI hy
    have lS := iss.len
    refine ⟨_, (pss_cons (ps_set (i := 2) scLSlides.nd rfl (.inl rfl) (pe_lst pa_nil))
    (pss_cons (ps_for PassesOwn.never rfl (piTK K (pv 1)) (pg_name (i := 3) scLSlides.nd rfl (Or.inl rfl))
    (pss_one (ps_for PassesOwn.never rfl (piLK K (pe_own oLNear (hr.mono (by decide)) (by rfl) (pa_cons (pv 0) (pa_cons (pv 3) pa_nil)))) (pg_name (i := 4) scLSlides.nd rfl (Or.inl rfl))
    (pss_one (ps_if (pt_cmpR (eqDK K hr.units) (pe_lc (own := [("_law_one", 5)]) (g := (gName 5)) rfl scLSlides.nd (piLK K (pe_own oLNear (hr.mono (by decide)) (by rfl) (pa_cons (pv 0) (pa_cons (pv 4) pa_nil))))
      (blkOk_by (own := [("_law_one", 5)]) (N := nLSlides) (sc := (defScope sLSlides)) (by decide +kernel))
      (fun _ _ _ _ _ => (pg_name (i := 5) scLSlides.nd rfl (Or.inl rfl))) (fun _ _ _ _ _ => (pts_one (pt_cmpR (inK K) (pv 5) (pv 1) (by rfl))))
      (fun _ _ _ _ _ => (pv 5))) (pe_lst (pa_cons (pv 3) pa_nil)) (nomark _)) (pss_one (ps_expr (bmK K PySem.F.plainAttrs_list PySem.F.slot_list_append PySem.F.type_list_append mt_append (pv 2) (pa_cons (pe_tup (pa_cons (pv 3) (pa_cons (pv 4) pa_nil))) pa_nil)))) pss_nil)))))
    (pss_one (ps_ret (pe_callB (sortK K hr.units) (by rfl) m_sorted (by decide +kernel) (pa_cons (pv 2) pa_nil)))))), ?_⟩
    refine ⟨Nat.zero_le _, fun D nD => ?_⟩
    have sD := same_upd (o := .lst []) nD
    have eD := same_at (o := .lst []) nD
    refine ⟨.ref c, rfl, c, rfl, ⟨_, Same.tup sD hc⟩, for_tup (K := K) (a := c) (xs := S.map V.int) (fun i σ H' => ∃ (y3 y4 : Option V) (xs : List V), σ = [some x, some (.ref c), some (.ref D), y3, y4, none] ∧ Same H H' ∧ H' D = some (.lst xs) ∧ DpAll K H' xs ((slidesT m es S (S.take i)).map prD) ∧ xs.length ≤ 12 * i) ?_ ?_ ?_ ?_⟩
    · exact ⟨_, _, [], rfl, sD, eD, .nil, Nat.zero_le _⟩
    · rintro i σ H' _ ⟨y3, y4, xs, rfl, s1, _⟩
      exact Same.tup s1 hc
    · rintro i z σ H1 hz ⟨y3, y4, xs, rfl, s1, eD1, dx, lx⟩
      rw [List.getElem?_map] at hz
      obtain ⟨u, hu, rfl⟩ := Option.map_eq_some_iff.mp hz
      have mu := List.mem_of_getElem? hu
      have iS : i < S.length := (List.getElem?_eq_some_iff.mp hu).1
      have tk : slidesT m es S (S.take (i + 1)) = slidesT m es S (S.take i) ++ ((nearL m es u).filter fun v => decide (oth m es S u v = [])).map fun v => (u, v) := by
        unfold slidesT
        rw [List.take_add_one, hu, Option.toList_some, List.flatMap_append, List.flatMap_singleton]
      refine ⟨x, rfl, .int u, rfl, x, m, es, u, rfl, by omega, isf, Dp.same s1 hx, fun H2 N s2 nN eN => ?_⟩
      obtain ⟨p, rfl⟩ : ∃ p, p = N := ⟨N, rfl⟩
      have ep := eN
      have nDp : D ≠ p := ne_of_none eD1 nN
      have nl := nearL_len m es u
      have s03 := s1.trans s2
      have nHp : H p = none := s1.free nN
      have eD3 := s2 _ _ eD1
      have dx3 := DpAll.same s2 dx
      refine ⟨p, rfl, ⟨_, SqL.of ep⟩, for_list (K := K) (a := p) (xs := (nearL m es u).map V.int) (fun k σ H' => ∃ (y4 : Option V) (xs : List V), σ = [some x, some (.ref c), some (.ref D), some (.int u), y4, none] ∧ Same H H' ∧ H' p = some (.lst ((nearL m es u).map V.int)) ∧ H' D = some (.lst xs) ∧
        DpAll K H' xs ((slidesT m es S (S.take i) ++ (((nearL m es u).take k).filter fun v => decide (oth m es S u v = [])).map fun v => (u, v)).map prD) ∧ xs.length ≤ 12 * i + k) ?_ ?_ ?_ ?_⟩
      · refine ⟨_, xs, rfl, s03, ep, eD3, ?_, lx⟩
        rw [List.take_zero, List.filter_nil, List.map_nil, List.append_nil]
        exact dx3
      · rintro k σ H' _ ⟨y4, xs, rfl, _, h, _⟩
        exact SqL.of h
      · rintro k z σ H4 hz ⟨y4, xs, rfl, s4, ep4, eD4, dx4, lx4⟩
        rw [List.getElem?_map] at hz
        obtain ⟨v, hv, rfl⟩ := Option.map_eq_some_iff.mp hz
        have mv := List.mem_of_getElem? hv
        have kl : k < (nearL m es u).length := (List.getElem?_eq_some_iff.mp hv).1
        have tk2 : (nearL m es u).take (k + 1) = (nearL m es u).take k ++ [v] := by rw [List.take_add_one, hv]; rfl
        refine ⟨x, rfl, .int v, rfl, x, m, es, v, rfl, by omega, isf, Dp.same s4 hx, fun H5 N2 s5 nN2 eN2 => ⟨N2, rfl, ⟨_, SqL.of eN2⟩, fun C nC => ?_⟩⟩
        have nl2 := nearL_len m es v
        refine lc_listI (K := K) (fun o => decide (o ∈ S)) .int nC (SqL.of eN2) (fun _ => rfl) (fun o _ H' R' s1' hR' => ?_) (fun o _ _ H' R' s1' hR' => ⟨.int o, rfl, hR' H' _ (Same.refl _) (.int o)⟩) only_int (by omega) (fun H6 ys s6 eC dy => ?_)
        · refine ⟨.int o, rfl, .ref c, rfl, c, S.map V.int, rfl, .inr (Same.tup ((s4.trans s5).trans s1') hc), rfl, flat_ints S, _, rfl, ?_⟩
          have h2 := hR' H' (Same.refl _)
          rw [← inV_ints] at h2
          exact h2
        rw [lst_ints dy] at eC
        refine ⟨.int u, rfl, by show 1 ≤ sizeLine; decide, fun B nB => ?_⟩
        have s7 := same_upd (o := .lst [V.int u]) nB
        have s47 := (s5.trans s6).trans s7
        have s07 := s4.trans s47
        have ep7 := s47 _ _ ep4
        have eD7 := s47 _ _ eD4
        have dx7 := DpAll.same s47 dx4
        refine ⟨.list (((nearL m es v).filter fun o => decide (o ∈ S)).map .int), .list ([u].map .int), .lst (SqL.of (s7 _ _ eC)) (DpAll.of_ints _), .lst (SqL.of upd_same) (DpAll.of_ints [u]), shaped_ints _, shaped_ints [u], _, rfl, ?_⟩
        rw [eqv_lists]
        generalize upd H6 B (.lst [V.int u]) = H7 at s07 ep7 eD7 dx7 ⊢
        have iff := oth_one iss mu mv
        by_cases ho : oth m es S u v = []
        · rw [decide_eq_true (iff.mp ho)]
          refine iteT ⟨.ref D, rfl, .inl ⟨rfl, _, SqL.of eD7⟩, .int u, rfl, .int v, rfl, by show 2 ≤ sizeLine; decide, fun t nt => ?_⟩
          have st := same_upd (o := .tup [V.int u, V.int v]) nt
          have et := same_at (o := .tup [V.int u, V.int v]) nt
          have eD8 := st _ _ eD7
          generalize upd H7 t (.tup [V.int u, V.int v]) = H8 at st et eD8 ⊢
          have kt : KT K H8 (upd H8 D (.lst (xs ++ [V.ref t]))) := kt_lst eD8
          refine ⟨D, _, .ref t, rfl, rfl, eD8, small1000 (by omega), _, xs ++ [V.ref t], rfl, fun h o eh => ?_, by rw [upd_ne nDp.symm]; exact st _ _ ep7, upd_same, ?_, by rw [List.length_append, List.length_singleton]; omega⟩
          · rw [upd_ne (ne_of_none eh nD)]
            exact st _ _ (s07 _ _ eh)
          · have e : slidesT m es S (S.take i) ++ (((nearL m es u).take k ++ [v]).filter fun v => decide (oth m es S u v = [])).map (fun v => (u, v)) = (slidesT m es S (S.take i) ++ (((nearL m es u).take k).filter fun v => decide (oth m es S u v = [])).map fun v => (u, v)) ++ [(u, v)] := by
              rw [List.filter_append, List.filter_cons_of_pos (by rw [decide_eq_true ho]), List.filter_nil, List.map_append, ← List.append_assoc]
              rfl
            rw [tk2, e, List.map_append]
            exact DpAll.append (DpAll.kt kt (DpAll.same st dx7) (only_prs _)) (.cons (Dp.pr (kt _ _ (SqT.of et))) .nil)
        · rw [decide_eq_false fun z => ho (iff.mpr z)]
          refine iteF ⟨_, xs, rfl, s07, ep7, eD7, ?_, by omega⟩
          rw [tk2, List.filter_append, List.filter_cons_of_neg (by rw [decide_eq_false ho]; decide), List.filter_nil, List.append_nil]
          exact dx7
      · rintro σ H4 ⟨y4, xs, rfl, s4, ep4, eD4, dx4, lx4⟩
        rw [List.length_map, List.take_length, ← tk] at dx4
        rw [List.length_map] at lx4
        exact ⟨_, _, xs, rfl, s4, eD4, dx4, by omega⟩
    · rintro σ H1 ⟨y3, y4, xs, rfl, s1, eD1, dx, lx⟩
      rw [List.length_map, List.take_length, ← slides_eq] at dx
      refine ⟨.ref D, rfl, sortPairs (SqL.of eD1) dx fun p ys np dy => ?_⟩
      exact q _ p ys (s1.trans (same_upd np)) (s1.free np) upd_same (DpAll.same (same_upd np) dy)
def spLMoved (K : PySem.W.Frag) : Sp := fun vs H Q _ => ∃ (y : V) (S : List Int) (u v : Int), vs = [y, .int u, .int v] ∧ Dp K H y (intsD S) ∧ S.length ≤ 12 ∧ ∀ (H' : Hp) (t : Addr), Same H H' → H' t = some (.tup ((after S u v).map V.int)) → Q (.ref t) H'
theorem ok_LMoved {f : Addr} {fd : FuncData} {k : Nat} (F : Fun K "_law_moved" "_law_moved" sLMoved f fd) (m_tuple : mg "tuple" = none) (m_sorted : mg "sorted" = none) :
    FnOk P w K mg base CX0 (k + 1) f fd ["_law_lamps", "_law_u", "_law_v"] (spLMoved K) := by
  refine F.ok scLMoved (fun vs H Q E h => ?_) (fun cdv A outer s H vs Q E hr h => ?_)
  · obtain ⟨y, S, u, v, rfl, _⟩ := h
    rfl
  · obtain ⟨y, S, u, v, rfl, hy, ls, q⟩ := h
    obtain ⟨b, rfl, hb⟩ := Dp.intsI hy
    refine ⟨_, (pss_one (ps_ret (pe_callTy (tupleK K) (by rfl) m_tuple (by decide +kernel) (pa_cons (pe_callB (sortK K hr.units) (by rfl) m_sorted (by decide +kernel) (pa_cons (pe_op op_cat (pe_lc (own := [("_law_one", 3)]) (g := (gName 3)) rfl scLMoved.nd (piTK K (pv 0))
      (blkOk_by (own := [("_law_one", 3)]) (N := nLMoved) (sc := (defScope sLMoved)) (by decide +kernel))
      (fun _ _ _ _ _ => (pg_name (i := 3) scLMoved.nd rfl (Or.inl rfl))) (fun _ _ _ _ _ => (pts_one (pt_cmpR op_ne (pv 3) (pv 1) (nomark _))))
      (fun _ _ _ _ _ => (pv 3))) (pe_lst (pa_cons (pv 2) pa_nil))) pa_nil)) pa_nil)))), ?_⟩
    refine ⟨.ref b, rfl, b, rfl, ⟨_, hb⟩, fun D nD => ?_⟩
    refine lc_tupI (K := K) (fun l => !decide (l = u)) .int nD hb (fun _ => rfl) (fun o _ H' R s3 hR => ?_) (fun o _ _ H' R s3 hR => ?_) only_int (by omega) (fun H3 ys s3 eD dy => ?_)
    · refine ⟨.int o, rfl, .int u, rfl, rfl, _, rfl, ?_⟩
      rw [dec_int]
      exact hR H' (Same.refl _)
    · exact ⟨.int o, rfl, hR H' _ (Same.refl _) (.int o)⟩
    rw [lst_ints dy] at eD
    refine ⟨.int v, rfl, by show 1 ≤ sizeLine; decide, fun B nB => ?_⟩
    have s4 := same_upd (o := .lst [V.int v]) nB
    have lf := List.length_filter_le (fun l => !decide (l = u)) S
    refine ⟨D, B, _, _, rfl, rfl, s4 _ _ eD, upd_same, Nat.le_of_lt (small1000 (by rw [List.length_map, List.length_singleton]; omega)), fun p np => ?_⟩
    have s5 := same_upd (o := .lst ((S.filter fun l => !decide (l = u)).map V.int ++ [V.int v])) np
    refine sortInts (ns := (S.filter fun l => !decide (l = u)) ++ [v]) (SqL.of (by rw [upd_same, List.map_append]; rfl)) fun p2 np2 => ?_
    have s6 := same_upd (o := .lst ((after S u v).map V.int)) np2
    refine ⟨p2, _, rfl, .inl ⟨SqL.of upd_same, fun t nt => ?_⟩⟩
    exact q _ _ ((((s3.trans s4).trans s5).trans s6).trans (same_upd nt)) upd_same
end
end TL
namespace TL
open PySem PySem.Spec PyProof.Rows L2
section
variable {P : Program} {w : World} {K : PySem.W.Frag} {mg : Str → Option Value} {base : Heap}
/-! ### texts and what they tell, there and back -/
theorem join_cons (a b : Str) (r : List Str) : Txt.join " " (a :: b :: r) = a ++ (" " : Str) ++ Txt.join " " (b :: r) := by
  rw [join_eq, join_eq]
  rfl
theorem ftx_join (n : Int) (es : List (Int × Int)) : ftx n es = Txt.join " " ((dig n ++ (":" : Str)) :: wds "-" es) := by
  have e : (": " : Str) = (":" : Str) ++ (" " : Str) := by decide +kernel
  have h : ∃ b r, wds "-" es = b :: r := by
    unfold wds
    by_cases e : es = []
    · exact ⟨"none", [], if_pos e⟩
    · cases es with
      | nil => exact absurd rfl e
      | cons p es => exact ⟨_, _, if_neg e⟩
  obtain ⟨b, r, h⟩ := h
  unfold ftx txt
  rw [h, join_cons, ← h, e]
  refine ext_tl ?_
  simp only [tl_append, List.append_assoc]
theorem ftx_split {n : Nat} (hn : n ≤ 12) {es : List (Int × Int)} (sp : ∀ p ∈ es, sm12 p) : Txt.split (ftx n es) " " = (dig ((n : Nat) : Int) ++ (":" : Str)) :: wds "-" es := by
  rw [ftx_join]
  have w := wds_ok sg_edge sp
  refine split_join (s := 32) (S := []) sp_one sp_low (by simp) fun p hp => ?_
  rcases List.mem_cons.mp hp with rfl | hp
  · intro z
    rw [tl_append, co_one] at z
    rcases List.mem_append.mp z with z | z
    · have := (dig_ok (i := (n : Int)) (by omega)).1 32 z
      omega
    · simp at z
  · exact (w.2.1 p hp).1
theorem errL_fr {n : Nat} : ∀ (B : List (Int × Int)) {A : List (Int × Int)}, Fr n (A ++ B) → errL n A (B.map fun p => some (V.int p.1, V.int p.2)) = none
  | [], A, _ => rfl
  | p :: B, A, f => by
    have r := f.rng p (List.mem_append.mpr (.inr List.mem_cons_self))
    have he : edgeO n (some (V.int p.1, V.int p.2)) = some p := if_pos r
    rw [List.map_cons, errL_go he (fun q hq => ?_) (f.opn A p B rfl)]
    · exact errL_fr B (by rw [List.append_assoc]; exact f)
    · have mq := List.mem_of_getLast? hq
      exact (List.pairwise_append.mp f.asc).2.2 q mq p List.mem_cons_self
theorem good_wrd {g : Str} {s : Nat} (G : Sg g s) {ps : List (Int × Int)} (h : ∀ p ∈ ps, sm12 p) : AllGood g (ps.map (wrd g)) ps := by
  unfold AllGood
  rw [List.map_map]
  exact List.map_congr_left fun p hp => pO_wrd G (h p hp)
theorem wrd_none {g : Str} {s : Nat} (G : Sg g s) {p : Int × Int} (h : sm12 p) : wrd g p ≠ "none" := fun e => by
  have := (wrd_mem G h).1
  rw [e] at this
  rcases G.is with rfl | rfl
  · revert this; decide +kernel
  · revert this; decide +kernel
theorem fz_ftx {n : Nat} (hn : n ≤ 12) {es : List (Int × Int)} (f : Fr n es) (sp : ∀ p ∈ es, sm12 p) : Fz (ftx n es) (forD n es) := by
  refine ⟨_, _, ftx_split hn sp, .inr ⟨n, ⟨hn, rfl⟩, ?_⟩⟩
  cases es with
  | nil => exact .inl ⟨rfl, rfl⟩
  | cons p es =>
    have ew : wds "-" (p :: es) = (p :: es).map (wrd "-") := if_neg (by simp)
    rw [ew]
    refine .inr (.inr (.inr ⟨_, _, rfl, wrd_none sg_edge (sp p List.mem_cons_self), .inr ⟨?_, _, good_wrd sg_edge sp, rfl⟩⟩))
    have e2 : ((p :: es).map (wrd "-")).map (fun w => pVw (pO "-" w)) = (p :: es).map fun p => some (V.int p.1, V.int p.2) := by
      rw [List.map_map]
      refine List.map_congr_left fun q hq => ?_
      show pVw (pO "-" (wrd "-" q)) = _
      rw [pO_wrd sg_edge (sp q hq)]
      rfl
    rw [e2]
    exact errL_fr (p :: es) (A := []) f
theorem good_back {g : Str} {s : Nat} (G : Sg g s) {ws : List Str} {ps : List (Int × Int)} (h : AllGood g ws ps) : ws = ps.map (wrd g) ∧ ∀ p ∈ ps, sm12 p := by
  induction ws generalizing ps with
  | nil =>
    cases ps with
    | nil => exact ⟨rfl, (fun _ h => nomatch h)⟩
    | cons _ _ => cases h
  | cons w ws ih =>
    cases ps with
    | nil => cases h
    | cons p ps =>
      unfold AllGood at h
      rw [List.map_cons, List.map_cons] at h
      injection h with h1 h2
      obtain ⟨k1, k2⟩ := (pO_some G).mp h1
      obtain ⟨e, k⟩ := ih h2
      refine ⟨by rw [List.map_cons, ← e, k2], fun q hq => ?_⟩
      rcases List.mem_cons.mp hq with rfl | hq
      · exact k1
      · exact k q hq
theorem fz_back {z : Str} {d : PyData} (h : Fz z d) : (∃ i, d = badD i) ∨ ∃ (n : Nat) (es : List (Int × Int)), d = forD n es ∧ n ≤ 12 ∧ (∀ p ∈ es, sm12 p) ∧ es.length ≤ z.length ∧ z = ftx n es := by
  obtain ⟨w0, t, ew, h⟩ := h
  have ez := join_split (z := z) sp_one sp_low
  have lz := split_len (z := z) sp_one sp_low
  rw [ew] at ez lz
  rw [List.length_cons] at lz
  rcases h with ⟨_, rfl⟩ | ⟨n, hn, ⟨e1, rfl⟩ | ⟨_, _, _, rfl⟩ | ⟨_, rfl⟩ | ⟨u, r, e1, un, ⟨_, _, _, rfl⟩ | ⟨_, ps, g, rfl⟩⟩⟩
  · exact .inl ⟨_, rfl⟩
  · refine .inr ⟨n, [], rfl, hn.1, (fun _ h => nomatch h), Nat.zero_le _, ?_⟩
    rw [← ez, e1, hn.2, ftx_join]
    rfl
  · exact .inl ⟨_, rfl⟩
  · exact .inl ⟨_, rfl⟩
  · exact .inl ⟨_, rfl⟩
  · obtain ⟨e2, sp⟩ := good_back sg_edge g
    refine .inr ⟨n, ps, rfl, hn.1, sp, by rw [g.len]; omega, ?_⟩
    rw [← ez, hn.2, ftx_join]
    congr 2
    rw [e2]
    refine (if_neg fun e => ?_).symm
    rw [e] at e2
    rw [e1] at e2
    cases e2
theorem fz_one {z : Str} {d : PyData} {n : Nat} {es : List (Int × Int)} (h : Fz z (forD n es)) (k : Fz z d) : d = forD n es ∧ ∀ i, d ≠ badD i := by
  obtain ⟨w0, t, ew, h⟩ := h
  obtain ⟨w1, t1, ew1, k⟩ := k
  rw [ew] at ew1
  cases ew1
  have nb : ∀ i, forD n es ≠ badD i := fun i z => by simp [forD, badD] at z
  suffices d = forD n es from ⟨this, this ▸ nb⟩
  rcases h with ⟨_, e⟩ | ⟨m, hm, h⟩
  · exact absurd e (nb _)
  rcases k with ⟨no, _⟩ | ⟨m', hm', k⟩
  · exact absurd hm (no m)
  have e := hm.uniq hm'
  subst e
  rcases h with ⟨e1, h⟩ | ⟨_, _, _, e⟩ | ⟨_, e⟩ | ⟨u, r, e1, un, ⟨_, _, _, e⟩ | ⟨h1, ps, g, h⟩⟩
  · rcases k with ⟨_, rfl⟩ | ⟨x, y, e2, _⟩ | ⟨e2, _⟩ | ⟨x, y, e2, xn, _⟩
    · exact h.symm
    · rw [e1] at e2; cases e2
    · rw [e1] at e2; cases e2
    · rw [e1] at e2; exact absurd (List.cons.inj e2).1.symm xn
  · exact absurd e (nb _)
  · exact absurd e (nb _)
  · exact absurd e (nb _)
  · rcases k with ⟨e2, _⟩ | ⟨x, y, e2, _⟩ | ⟨e2, _⟩ | ⟨x, y, e2, xn, ⟨b, s', k1, _⟩ | ⟨_, qs, g', rfl⟩⟩
    · rw [e1] at e2; exact absurd (List.cons.inj e2).1 un
    · rw [e1] at e2; exact absurd (List.cons.inj e2).1 un
    · rw [e1] at e2; cases e2
    · rw [h1] at k1; cases k1
    · rw [h, g.uniq g']
theorem tz_txt {ps : List (Int × Int)} (sp : ∀ p ∈ ps, sm12 p) : Tz ">" (txt ">" ps) (prsD ps) ∧ (txt ">" ps = "none" ∨ ∃ qs, AllGood ">" (Txt.split (txt ">" ps) " ") qs) ∧ (txt ">" ps ≠ "none" → ∀ i, ¬ FirstBad ">" (Txt.split (txt ">" ps) " ") i) := by
  have w := wds_ok sg_slide sp
  have es : Txt.split (txt ">" ps) " " = wds ">" ps := split_join (s := 32) (S := []) sp_one sp_low w.1 fun p hp => (w.2.1 p hp).1
  by_cases e : ps = []
  · subst e
    have h : txt ">" [] = "none" := by decide +kernel
    exact ⟨.inl ⟨h, rfl⟩, .inl h, fun n => absurd h n⟩
  · have ew : wds ">" ps = ps.map (wrd ">") := if_neg e
    have g := good_wrd sg_slide sp
    rw [← ew, ← es] at g
    have n : txt ">" ps ≠ "none" := fun z => by
      have := split_none.mpr z
      rw [es, ew] at this
      cases ps with
      | nil => exact e rfl
      | cons p ps => exact wrd_none sg_slide (sp p List.mem_cons_self) (List.cons.inj this).1
    exact ⟨.inr (.inl ⟨n, ps, g, rfl⟩), .inr ⟨ps, g⟩, fun _ i k => g.no k⟩
theorem tz_back {z : Str} {d : PyData} (h : Tz ">" z d) (k : z = "none" ∨ ∃ ps, AllGood ">" (Txt.split z " ") ps) : ∃ ps, d = prsD ps ∧ (∀ p ∈ ps, sm12 p) ∧ ps.length ≤ z.length + 1 ∧ z = txt ">" ps := by
  have ez := join_split (z := z) sp_one sp_low
  have lz := split_len (z := z) sp_one sp_low
  rcases h with ⟨e, rfl⟩ | ⟨e, ps, g, rfl⟩ | ⟨e, i, b, rfl⟩
  · refine ⟨[], rfl, (fun _ h => nomatch h), Nat.zero_le _, ?_⟩
    rw [e]
    decide +kernel
  · obtain ⟨e2, sp⟩ := good_back sg_slide g
    refine ⟨ps, rfl, sp, by rw [g.len]; exact lz, ?_⟩
    rw [← ez, e2]
    unfold txt
    congr 1
    refine (if_neg fun e3 => ?_).symm
    rw [e3] at e2
    exact split_ne (z := z) sp_one sp_low e2
  · rcases k with k | ⟨ps, g⟩
    · exact absurd k e
    · exact (g.no b).elim
theorem pl_dig {i : Int} (h : 0 ≤ i ∧ i ≤ 99) : Pl (dig i) := fun c hc => by
  have := (dig_ok h).1 c hc
  omega
theorem pl_wrd {g : Str} {s : Nat} (G : Sg g s) {p : Int × Int} (h : sm12 p) : Pl (wrd g p) := fun c hc => by
  rw [show wrd g p = dig p.1 ++ g ++ dig p.2 from rfl, tl_append, tl_append, G.one] at hc
  simp only [List.mem_append, List.mem_singleton] at hc
  have := G.is
  rcases hc with (hc | hc) | hc
  · have := (dig_ok h.1).1 c hc
    omega
  · omega
  · have := (dig_ok h.2).1 c hc
    omega
theorem pl_txt {g : Str} {s : Nat} (G : Sg g s) {ps : List (Int × Int)} (h : ∀ p ∈ ps, sm12 p) : Pl (txt g ps) := by
  refine Pl.join fun w hw => ?_
  unfold wds at hw
  by_cases e : ps = []
  · rw [if_pos e] at hw
    rw [List.mem_singleton.mp hw]
    unfold Pl
    decide +kernel
  · rw [if_neg e] at hw
    obtain ⟨p, hp, rfl⟩ := List.mem_map.mp hw
    exact pl_wrd G (h p hp)
theorem pl_ftx {n : Nat} (hn : n ≤ 12) {es : List (Int × Int)} (h : ∀ p ∈ es, sm12 p) : Pl (ftx n es) :=
  Pl.app (Pl.app (pl_dig (by omega)) (by unfold Pl; decide +kernel)) (pl_txt sg_edge h)
theorem ftx_len {n : Nat} (hn : n ≤ 12) {es : List (Int × Int)} (h : ∀ p ∈ es, sm12 p) : (ftx n es).length ≤ 6 * es.length + 10 := by
  have := txt_len sg_edge h
  have l1 := (dig_ok (i := (n : Int)) (by omega)).2
  have l4 : (": " : Str).length = 2 := by decide +kernel
  unfold ftx
  rw [Str.length_append, Str.length_append]
  omega
end
end TL
namespace TL
open PySem PySem.Spec PyProof.Rows L2
section
variable {P : Program} {w : World} {K : PySem.W.Frag} {mg : Str → Option Value} {base : Heap}
theorem zipAK (K : PySem.W.Frag) {X : Cx} {e e2 : Expr} {ta : L2.TA} {p pos tpos : Pos} {elts : List Expr} {kk : Nat} (hg : Gl X "zip") (hm : X.mg "zip" = none) (ha : PA X [e, e2] ta) (h : X.K = K := by rfl)
    (hs : starEach [e, e2] X.env = (false, eval e X.env) :: starEach [e2] X.env := by rfl) (hpl : (backTo pos (starEach [e2] X.env)).any (·.1) = false := by rfl) :
    PI X (.Tuple elts kk tpos) (.Call (.Name "zip" p) [e, e2] [] pos) (RZ.iZipA K ta) := h ▸ RZ.pi_zipA hg hm ha hs hpl
/-! ### the law: two values that look alike -/
section
variable {tt : L2.TT} {te : TE} {vs : List Nat} {σ : L2.St} {H1 : Hp} {D : Addr} {Qd : Hp → Prop}
/-- over zip of two tuples as long, nothing taken -/
theorem lc_zipNo {a b : Addr} {xs ys : List V} {i j : Nat} (nD : H1 D = none) (hSa : SqT K H1 a xs) (hSb : SqT K H1 b ys) (lx : xs.length = ys.length)
    (hw : ∀ v1 v2, wipe (((wipe σ vs).set i (some v1)).set j (some v2)) vs = wipe σ vs)
    (ht : ∀ (t : Nat) (x y : V), xs[t]? = some x → ys[t]? = some y → ∀ H' (Q : Bool → Hp → Prop), Same H1 H' → (∀ H2, Same H' H2 → Q false H2) → tt (((wipe σ vs).set i (some x)).set j (some y)) H' Q)
    (hd : ∀ H', Same H1 H' → H' D = some (.lst []) → Qd H') : LcGoal (RZ.ItzT K a b) (gTup K 2 (gCons (gName i) (gCons (gName j) gNil))) tt te vs σ H1 D Qd := by
  refine lc_by xs.length (fun t H' => Same H1 H' ∧ H' D = some (.lst [])) ?_ ?_ ?_ ?_ ?_
  · exact ⟨same_upd nD, upd_same⟩
  · rintro t H' ht' ⟨s, _⟩
    exact ⟨_, _, _, _, Same.tup s hSa, Same.tup s hSb, List.getElem?_eq_getElem ht', List.getElem?_eq_getElem (by omega)⟩
  · rintro H' ⟨s, _⟩
    exact ⟨_, _, Same.tup s hSa, Same.tup s hSb, .inl (Nat.le_refl _)⟩
  · rintro t v H' H'' ht' ⟨s, eD⟩ yl
    obtain ⟨T, x, y, rfl, nT, rfl, h1, h2⟩ := yl
    have h1 := h1 _ (Same.tup s hSa)
    have h2 := h2 _ (Same.tup s hSb)
    have sT := same_upd (o := .tup [x, y]) nT
    refine ⟨T, _, rfl, SqT.of upd_same, rfl, x, _, rfl, y, _, rfl, rfl, hw _ _, ht t x y h1 h2 _ _ (s.trans sT) fun H2 s2 => ?_⟩
    rw [if_neg Bool.false_ne_true]
    exact ⟨s.trans (sT.trans s2), s2 _ _ (sT _ _ eD)⟩
  · rintro H' ⟨s, eD⟩
    exact hd H' s eD
end
def shS : Nat → PyData → Prop
  | _, .int _ => True
  | _, .none => True
  | _, .str _ => True
  | n + 1, .tuple ds => ds.length ≤ 1000 ∧ ∀ d ∈ ds, shS n d
  | _, _ => False
def spLSame (K : PySem.W.Frag) : Nat → Sp
  | 0 => fun _ _ _ _ => False
  | n + 1 => fun vs H Q _ => ∃ (x y : V) (d : PyData), vs = [x, y] ∧ Dp K H x d ∧ Dp K H y d ∧ shS n d ∧ ∀ H', Same H H' → Q (.bl true) H'
theorem ok_LSameNo {f : Addr} {fd : FuncData} {k : Nat} (F : Fun K "_law_same" "_law_same" sLSame f fd) : FnOk P w K mg base CX0 (k + 1) f fd ["_law_found", "_law_due"] (spLSame K 0) := by
  refine F.ok scLSame (fun vs H Q E h => h.elim) (fun cdv A outer s H vs Q E hr h => h.elim)
theorem ok_LSame {f : Addr} {fd : FuncData} {n : Nat} (F : Fun K "_law_same" "_law_same" sLSame f fd) (m_isinstance : mg "isinstance" = none) (m_int : mg "int" = none) (m_bool : mg "bool" = none) (m_tuple : mg "tuple" = none) (m_str : mg "str" = none) (m_len : mg "len" = none) (m_zip : mg "zip" = none)
    (oLSame : Own P w K mg base "_law_same" (n + 1) ["_law_found", "_law_due"] (spLSame K n)) :
    FnOk P w K mg base CX0 (n + 2) f fd ["_law_found", "_law_due"] (spLSame K (n + 1)) := by
  refine F.ok scLSame (fun vs H Q E h => ?_) (fun cdv A outer s H vs Q E hr h => ?_)
  · obtain ⟨x, y, d, rfl, _⟩ := h
    rfl
  · obtain ⟨x, y, d, rfl, hx, hy, sh, q⟩ := h
    refine ⟨_, (pss_cons (ps_if (pt_val (pe_callB (isiK K) (by rfl) m_isinstance (by decide +kernel) (pa_cons (pv 1) (pa_cons (pe_bltn (v := .ty "tuple") (by rfl) m_tuple (by decide +kernel) rfl) pa_nil)))) (pss_cons (ps_if (PW.pt (pw_or (pt_not (pt_val (pe_callB (isiK K) (by rfl) m_isinstance (by decide +kernel) (pa_cons (pv 0) (pa_cons (pe_bltn (v := .ty "tuple") (by rfl) m_tuple (by decide +kernel) rfl) pa_nil))))) (pw_or1 (pt_cmpR op_ne (pe_callB (lenK K) (by rfl) m_len (by decide +kernel) (pa_cons (pv 0) pa_nil)) (pe_callB (lenK K) (by rfl) m_len (by decide +kernel) (pa_cons (pv 1) pa_nil)) (nomark _))))) (pss_one (ps_ret pe_bl)) pss_nil)
    (pss_one (ps_ret (pe_cmpR (eqDK K hr.units) (pe_lc (own := [("_law_one", 2), ("_law_other", 3)]) (g := (gTup K 2 (gCons (gName 2) (gCons (gName 3) gNil)))) rfl scLSame.nd (zipAK K (by rfl) m_zip (pa_cons (pv 0) (pa_cons (pv 1) pa_nil)))
      (blkOk_by (own := [("_law_one", 2), ("_law_other", 3)]) (N := nLSame) (sc := (defScope sLSame)) (by decide +kernel))
      (fun _ _ _ _ _ => (pgTK K (pgs_cons (pg_name (i := 2) scLSame.nd rfl (Or.inl rfl)) (pgs_cons (pg_name (i := 3) scLSame.nd rfl (Or.inl rfl)) pgs_nil)))) (fun _ _ _ _ _ => (pts_one (pt_not (pt_val (pe_own oLSame hr (by rfl) (pa_cons (pv 2) (pa_cons (pv 3) pa_nil)))))))
      (fun _ _ _ _ _ => pe_int)) (pe_lst pa_nil) (nomark _))))) pss_nil)
    (pss_cons (ps_if (pt_cmpR op_isN (pv 1) pe_non (nomark _)) (pss_one (ps_ret (pe_cmpR op_isN (pv 0) pe_non (nomark _)))) pss_nil)
    (pss_cons (ps_if (pt_val (pe_callB (isiK K) (by rfl) m_isinstance (by decide +kernel) (pa_cons (pv 1) (pa_cons (pe_bltn (v := .ty "str") (by rfl) m_str (by decide +kernel) rfl) pa_nil)))) (pss_one (ps_ret (pe_and (pe_callB (isiK K) (by rfl) m_isinstance (by decide +kernel) (pa_cons (pv 0) (pa_cons (pe_bltn (v := .ty "str") (by rfl) m_str (by decide +kernel) rfl) pa_nil))) (pe_one (pe_cmpR op_eq (pv 0) (pv 1) (nomark _)))))) pss_nil)
    (pss_one (ps_ret (pe_and (pe_callB (isiK K) (by rfl) m_isinstance (by decide +kernel) (pa_cons (pv 0) (pa_cons (pe_bltn (v := .ty "int") (by rfl) m_int (by decide +kernel) rfl) pa_nil))) (pe_and (pe_cmpR op_eq (pe_callB (isiK K) (by rfl) m_isinstance (by decide +kernel) (pa_cons (pv 0) (pa_cons (pe_bltn (v := .ty "bool") (by rfl) m_bool (by decide +kernel) rfl) pa_nil))) (pe_callB (isiK K) (by rfl) m_isinstance (by decide +kernel) (pa_cons (pv 1) (pa_cons (pe_bltn (v := .ty "bool") (by rfl) m_bool (by decide +kernel) rfl) pa_nil))) (nomark _)) (pe_one (pe_cmpR op_eq (pv 0) (pv 1) (nomark _)))))))))), ?_⟩
    cases d with
    | int i =>
      cases hx
      cases hy
      refine ⟨.int i, rfl, _, _, _, _, false, rfl, .ty "tuple", .base (.int _), kit_ty (by decide +kernel), false, rfl, iteF ?_⟩
      refine ⟨.int i, rfl, rfl, false, rfl, iteF ?_⟩
      refine ⟨.int i, rfl, _, _, _, _, false, rfl, .ty "str", .base (.int _), kit_ty (by decide +kernel), false, rfl, iteF ?_⟩
      refine ⟨.int i, rfl, _, _, _, _, true, rfl, .ty "int", .base (.int _), kit_ty (by decide +kernel), true, rfl, ?_⟩
      rw [if_pos rfl]
      refine ⟨.int i, rfl, _, _, _, _, false, rfl, .ty "bool", .base (.int _), kit_ty (by decide +kernel), .int i, rfl, _, _, _, _, false, rfl, .ty "bool", .base (.int _), kit_ty (by decide +kernel), rfl, true, rfl, ?_⟩
      rw [if_pos rfl]
      refine ⟨.int i, rfl, .int i, rfl, rfl, ?_⟩
      rw [decide_eq_true rfl]
      exact q _ (Same.refl _)
    | none =>
      cases hx
      cases hy
      refine ⟨.non, rfl, _, _, _, _, false, rfl, .ty "tuple", .base .non, kit_ty (by decide +kernel), false, rfl, iteF ?_⟩
      refine ⟨.non, rfl, rfl, true, rfl, iteT ?_⟩
      refine ⟨.non, rfl, rfl, ?_⟩
      rw [decide_eq_true rfl]
      exact q _ (Same.refl _)
    | str z =>
      cases hx
      cases hy
      refine ⟨.str z, rfl, _, _, _, _, false, rfl, .ty "tuple", .base (.str _), kit_ty (by decide +kernel), false, rfl, iteF ?_⟩
      refine ⟨.str z, rfl, rfl, false, rfl, iteF ?_⟩
      refine ⟨.str z, rfl, _, _, _, _, true, rfl, .ty "str", .base (.str _), kit_ty (by decide +kernel), true, rfl, iteT ?_⟩
      refine ⟨.str z, rfl, _, _, _, _, true, rfl, .ty "str", .base (.str _), kit_ty (by decide +kernel), true, rfl, ?_⟩
      rw [if_pos rfl]
      refine ⟨.str z, rfl, .str z, rfl, rfl, ?_⟩
      rw [decide_eq_true rfl]
      exact q _ (Same.refl _)
    | tuple ds =>
      obtain ⟨a, xs, rfl, ha, aA⟩ := Dp.tupI hx
      obtain ⟨b, ys, rfl, hb, bA⟩ := Dp.tupI hy
      have lx := DpAll.length aA
      have ly := DpAll.length bA
      cases n with
      | zero => exact sh.elim
      | succ n =>
        obtain ⟨ld, shd⟩ := sh
        refine ⟨.ref b, rfl, _, _, _, _, true, rfl, .ty "tuple", ty_tup hb, kit_ty (by decide +kernel), true, rfl, iteT ?_⟩
        refine ⟨.ref a, rfl, _, _, _, _, true, rfl, .ty "tuple", ty_tup ha, kit_ty (by decide +kernel), true, rfl, iteF ?_⟩
        refine ⟨.ref a, rfl, a, xs, rfl, .inr ha, .ref b, rfl, b, ys, rfl, .inr hb, rfl, _, rfl, ?_⟩
        rw [decInt, decide_eq_true (by omega)]
        refine iteF ⟨.ref a, rfl, .ref b, rfl, a, b, xs, ys, rfl, .inr ⟨ha, hb, fun D nD => ?_⟩⟩
        refine lc_zipNo nD ha hb (by omega) (fun _ _ => rfl) (fun t x y hx' hy' H' R s1 hR => ?_) (fun H1 s1 eD => ?_)
        · obtain ⟨d, hd, dx⟩ := DpAll.get aA hx'
          obtain ⟨d', hd', dy⟩ := DpAll.get bA hy'
          rw [hd] at hd'
          cases hd'
          exact ⟨x, rfl, y, rfl, x, y, d, rfl, Dp.same s1 dx, Dp.same s1 dy, shd d (List.mem_of_getElem? hd), fun H2 s2 => ⟨true, rfl, hR _ s2⟩⟩
        · refine ⟨Nat.zero_le _, fun L nL => ?_⟩
          have sL := same_upd (o := .lst []) nL
          refine ⟨.list [], .list [], .lst (SqL.of (sL _ _ eD)) .nil, .lst (SqL.of upd_same) .nil, by decide +kernel, by decide +kernel, ?_⟩
          rw [show PyData.eqv (.list []) (.list []) = true by decide +kernel]
          exact q _ (s1.trans sL)
    | bool b => exact (by cases n <;> exact sh.elim)
    | list ds => exact (by cases n <;> exact sh.elim)
    | dict ps => exact (by cases n <;> exact sh.elim)
end
end TL
namespace TL
open PySem PySem.Spec PyProof.Rows L2
section
variable {P : Program} {w : World} {K : PySem.W.Frag} {mg : Str → Option Value} {base : Heap}
/-! ### the law: a text bent -/
def spLBent : Sp := fun vs H Q _ => ∃ (d l : Addr) (n : Nat) (z : Str), vs = [.ref d, .str z] ∧ Deck H d l n ∧ n < 800000 ∧ z.length ≤ 440 ∧ Pl z ∧ ∀ (H' : Hp) (y : Str), Fm d l H H' → Deck H' d l (n + 6) → y.length ≤ 2 * z.length + 6 → Pl y → Q (.str y) H'
theorem ok_LBent {f : Addr} {fd : FuncData} (F : Fun K "_law_bent" "_law_bent" sLBent f fd) (m_len : mg "len" = none) (oLDraw : Own P w K mg base "_law_draw" 1 ["_law_deck_here", "_law_many"] spLDraw) :
    FnOk P w K mg base CX0 2 f fd ["_law_deck_here", "_law_text"] spLBent := by
  refine F.ok scLBent (fun vs H Q E h => ?_) (fun cdv A outer s H vs Q E hr h => ?_)
  · obtain ⟨d, l, n, z, rfl, _⟩ := h
    rfl
  · obtain ⟨d, l, n, z, rfl, hD, hn, lz, pz, q⟩ := h
    refine ⟨_, (pss_cons (ps_set (i := 2) scLBent.nd rfl (.inl rfl) (pe_m1 PySem.F.slot_str_split PySem.F.type_str_split mt_split (pv 1) pe_str))
    (pss_cons (ps_set (i := 3) scLBent.nd rfl (.inl rfl) (pe_own oLDraw (hr.mono (by decide)) (by rfl) (pa_cons (pv 0) (pa_cons (pe_callB (lenK K) (by rfl) m_len (by decide +kernel) (pa_cons (pv 2) pa_nil)) pa_nil))))
    (pss_cons (ps_set (i := 4) scLBent.nd rfl (.inl rfl) (pe_own oLDraw (hr.mono (by decide)) (by rfl) (pa_cons (pv 0) (pa_cons pe_int pa_nil))))
    (pss_cons (ps_if (pt_cmpR op_eq (pv 4) pe_int (nomark _)) (pss_one (ps_ret (joinK K pe_str (pe_op op_cat (pe_op op_cat (pe_slice (slLK K) (pv 2) po_none (po_some (pv 3))) (pe_slice (slLK K) (pv 2) (po_some (pv 3)) (po_some (pe_op op_add (pv 3) pe_int)))) (pe_slice (slLK K) (pv 2) (po_some (pv 3)) po_none))))) pss_nil)
    (pss_cons (ps_if (pt_cmpR op_eq (pv 4) pe_int (nomark _)) (pss_one (ps_ret (joinK K pe_str (pe_op op_cat (pe_slice (slLK K) (pv 2) po_none (po_some pe_int)) (revLK K (pe_slice (slLK K) (pv 2) (po_some pe_int) po_none)))))) pss_nil)
    (pss_cons (ps_if (pt_cmpR op_eq (pv 4) pe_int (nomark _)) (pss_one (ps_ret (joinK K pe_str (pe_op op_cat (pe_slice (slLK K) (pv 2) po_none (po_some (pv 3))) (pe_slice (slLK K) (pv 2) (po_some (pe_op op_add (pv 3) pe_int)) po_none))))) pss_nil)
    (pss_cons (ps_set (i := 5) scLBent.nd rfl (.inl rfl) (pe_own oLDraw (hr.mono (by decide)) (by rfl) (pa_cons (pv 0) (pa_cons (pe_op op_add (pe_callB call_len_str (by rfl) m_len (by decide +kernel) (pa_cons (pv 1) pa_nil)) pe_int) pa_nil))))
    (pss_cons (ps_set (i := 6) scLBent.nd rfl (.inl rfl) (pe_ix (ixLK K) (pe_lst (pa_cons pe_str (pa_cons pe_str (pa_cons pe_str (pa_cons pe_str (pa_cons pe_str (pa_cons pe_str (pa_cons pe_str (pa_cons pe_str (pa_cons pe_str (pa_cons pe_str (pa_cons pe_str pa_nil)))))))))))) (pe_own oLDraw (hr.mono (by decide)) (by rfl) (pa_cons (pv 0) (pa_cons pe_int pa_nil))) (fun _ _ => rfl)))
    (pss_one (ps_ret (pe_op op_add_str (pe_op op_add_str (pe_slice sl_str (pv 1) po_none (po_some (pv 5))) (pe_op op_mulS (pv 6) (pe_own oLDraw (hr.mono (by decide)) (by rfl) (pa_cons (pv 0) (pa_cons pe_int pa_nil))))) (pe_slice sl_str (pv 1) (po_some (pe_op op_add (pv 5) (pe_own oLDraw (hr.mono (by decide)) (by rfl) (pa_cons (pv 0) (pa_cons pe_int pa_nil))))) po_none)))))))))))), ?_⟩
    obtain ⟨ws, ew⟩ : ∃ ws, ws = Txt.split z " " := ⟨_, rfl⟩
    have hz : z.length ≤ sizeLine := by rw [sizeLine_eq]; omega
    refine ⟨.str z, rfl, ⟨z, rfl⟩, z, _, rfl, rfl, by decide +kernel, by rw [sizeLine_eq]; omega, fun p np => ?_⟩
    rw [← ew]
    have wz : wSum ws = z.length + 1 := by rw [ew]; exact wSum_split z
    have pw : ∀ w ∈ ws, Pl w := by rw [ew]; exact pz.split sp_one sp_low
    have sw : ∀ w ∈ ws, w.length ≤ z.length := by rw [ew]; exact split_short (z := z) sp_one sp_low
    have wne : ws ≠ [] := by rw [ew]; exact split_ne (z := z) sp_one sp_low
    have lw : ws.length ≤ z.length + 1 := by unfold wSum at wz; omega
    have lw0 := List.length_pos_iff.mpr wne
    have sp := same_upd (o := .lst (ws.map V.str)) np
    have ep := same_at (o := .lst (ws.map V.str)) np
    have op := hD.off np
    have D1 := hD.same sp
    have f1 : Fm d l H _ := Same.fm sp
    generalize upd H p _ = H1 at ep D1 f1 ⊢
    dsimp only [gName]
    refine ⟨.ref d, rfl, .ref p, rfl, p, _, rfl, .inl (SqL.of ep), d, l, n, _, rfl, by rw [List.length_map]; omega, by rw [List.length_map]; omega, D1, by omega, fun H2 x x0 x1 f2 D2 => ?_⟩
    rw [List.length_map] at x1
    have ep2 := f2 _ _ op.1 op.2 ep
    refine ⟨.ref d, rfl, d, l, n + 1, 5, rfl, by decide, by decide, D2, by omega, fun H3 y y0 y1 f3 D3 => ?_⟩
    have ep3 := f3 _ _ op.1 op.2 ep2
    have f03 := (f1.trans f2).trans f3
    -- what is joined
    have fin : ∀ (ys : List Str) (H' : Hp), Same H3 H' → (∀ w ∈ ys, Pl w) → wSum ys ≤ 2 * z.length + 2 → (ys.map (·.length)).sum + ys.length * (" " : Str).length ≤ 16777216 ∧ Q (.str (Txt.join " " ys)) H' := fun ys H' s hp hw => by
      refine ⟨?_, q _ _ (f03.trans (Same.fm s)) ((D3.same s).le (by omega)) (Nat.le_trans (join_len ys) (by omega)) (Pl.join hp)⟩
      have h3 : (" " : Str).length = 1 := by decide +kernel
      rw [h3]
      unfold wSum at hw
      omega
    have subP : ∀ {a b : Option Int}, ∀ w ∈ cutW ws a b, Pl w := fun {a b} w hw => pw w ((cutW_sub ws a b).subset hw)
    have subS : ∀ a b : Option Int, wSum (cutW ws a b) ≤ z.length + 1 := fun a b => wz ▸ wSum_sub (cutW_sub ws a b)
    have subL : ∀ a b : Option Int, (cutW ws a b).length ≤ z.length + 1 := fun a b => Nat.le_trans (cutW_sub ws a b).length_le lw
    refine ⟨.int y, rfl, rfl, _, rfl, ?_⟩
    rw [decInt]
    by_cases e0 : y = 0
    · rw [decide_eq_true e0]
      refine iteT ⟨⟨_, rfl⟩, .ref p, rfl, ?_⟩
      dsimp only [tNoPart]
      refine ⟨.int x, rfl, x, rfl, p, _, rfl, SqL.of ep3, fun q1 n1 => ?_⟩
      rw [cutV_str]
      have s1 := same_upd (o := .lst ((cutW ws none (some x)).map V.str)) n1
      have e1 := same_at (o := .lst ((cutW ws none (some x)).map V.str)) n1
      generalize upd H3 q1 _ = J1 at s1 e1 ⊢
      refine ⟨.ref p, rfl, .int x, rfl, x, rfl, .int x, rfl, _, _, rfl, rfl, x + 1, rfl, p, _, rfl, SqL.of (s1 _ _ ep3), fun q2 n2 => ?_⟩
      rw [cutV_str]
      have s2 := same_upd (o := .lst ((cutW ws (some x) (some (x + 1))).map V.str)) n2
      have e2 := same_at (o := .lst ((cutW ws (some x) (some (x + 1))).map V.str)) n2
      generalize upd J1 q2 _ = J2 at s2 e2 ⊢
      have l1 := subL none (some x)
      have l2 := cutW_one (ws := ws) x0 x1
      refine ⟨q1, q2, _, _, rfl, rfl, s2 _ _ e1, e2, small5k (by rw [List.length_map, List.length_map]; omega), fun q3 n3 => ?_⟩
      rw [← List.map_append]
      have s3 := same_upd (o := .lst ((cutW ws none (some x) ++ cutW ws (some x) (some (x + 1))).map V.str)) n3
      have e3 := same_at (o := .lst ((cutW ws none (some x) ++ cutW ws (some x) (some (x + 1))).map V.str)) n3
      generalize upd J2 q3 _ = J3 at s3 e3 ⊢
      have s13 := (s1.trans s2).trans s3
      refine ⟨.ref p, rfl, .int x, rfl, x, rfl, p, _, rfl, SqL.of (s13 _ _ ep3), fun q4 n4 => ?_⟩
      rw [cutV_str]
      have s4 := same_upd (o := .lst ((cutW ws (some x) none).map V.str)) n4
      have e4 := same_at (o := .lst ((cutW ws (some x) none).map V.str)) n4
      generalize upd J3 q4 _ = J4 at s4 e4 ⊢
      have l4 := subL (some x) none
      refine ⟨q3, q4, _, _, rfl, rfl, s4 _ _ e3, e4, small5k (by rw [List.length_map, List.length_map, List.length_append]; omega), fun q5 n5 => ?_⟩
      rw [← List.map_append]
      have s5 := same_upd (o := .lst (((cutW ws none (some x) ++ cutW ws (some x) (some (x + 1))) ++ cutW ws (some x) none).map V.str)) n5
      have fi := fin ((cutW ws none (some x) ++ cutW ws (some x) (some (x + 1))) ++ cutW ws (some x) none) _ ((s13.trans s4).trans s5) (fun w hw => by
        rcases List.mem_append.mp hw with hw | hw
        · rcases List.mem_append.mp hw with hw | hw
          · exact subP w hw
          · exact subP w hw
        · exact subP w hw) (by
        have b1 := sum_one (cutW ws (some x) (some (x + 1))) z.length (fun w hw => sw w ((cutW_sub ws _ _).subset hw)) l2
        have b2 : wSum (cutW ws none (some x)) + wSum (cutW ws (some x) none) = z.length + 1 := by
          rw [cutW_to x0 (by omega), cutW_from x0 (by omega), ← wSum_app, List.take_append_drop, wz]
        rw [wSum_app, wSum_app]
        omega)
      exact ⟨_, q5, _, rfl, rfl, .inl (SqL.of upd_same), fi⟩
    rw [decide_eq_false e0]
    refine iteF ⟨.int y, rfl, rfl, _, rfl, ?_⟩
    rw [decInt]
    by_cases e1 : y = 1
    · rw [decide_eq_true e1]
      refine iteT ⟨⟨_, rfl⟩, .ref p, rfl, ?_⟩
      dsimp only [tNoPart]
      refine ⟨1, rfl, p, _, rfl, SqL.of ep3, fun q1 n1 => ?_⟩
      rw [cutV_str]
      have s1 := same_upd (o := .lst ((cutW ws none (some 1)).map V.str)) n1
      have e1 := same_at (o := .lst ((cutW ws none (some 1)).map V.str)) n1
      generalize upd H3 q1 _ = J1 at s1 e1 ⊢
      refine ⟨.ref p, rfl, 1, rfl, p, _, rfl, SqL.of (s1 _ _ ep3), fun q2 n2 => ?_⟩
      rw [cutV_str]
      have s2 := same_upd (o := .lst ((cutW ws (some 1) none).map V.str)) n2
      have e2 := same_at (o := .lst ((cutW ws (some 1) none).map V.str)) n2
      generalize upd J1 q2 _ = J2 at s2 e2 ⊢
      refine ⟨q2, _, rfl, SqL.of e2, fun q3 n3 => ?_⟩
      rw [← List.map_reverse]
      have s3 := same_upd (o := .lst ((cutW ws (some 1) none).reverse.map V.str)) n3
      have e3 := same_at (o := .lst ((cutW ws (some 1) none).reverse.map V.str)) n3
      generalize upd J2 q3 _ = J3 at s3 e3 ⊢
      have l1 := subL none (some 1)
      have l3 := subL (some 1) none
      refine ⟨q1, q3, _, _, rfl, rfl, s3 _ _ (s2 _ _ e1), e3, small5k (by rw [List.length_map, List.length_map, List.length_reverse]; omega), fun q5 n5 => ?_⟩
      rw [← List.map_append]
      have s5 := same_upd (o := .lst ((cutW ws none (some 1) ++ (cutW ws (some 1) none).reverse).map V.str)) n5
      have fi := fin (cutW ws none (some 1) ++ (cutW ws (some 1) none).reverse) _ (((s1.trans s2).trans s3).trans s5) (fun w hw => by
        rcases List.mem_append.mp hw with hw | hw
        · exact subP w hw
        · exact subP w (List.mem_reverse.mp hw)) (by
        have b1 := subS none (some 1)
        have b2 := subS (some 1) none
        rw [wSum_app, wSum_rev]
        omega)
      exact ⟨_, q5, _, rfl, rfl, .inl (SqL.of upd_same), fi⟩
    rw [decide_eq_false e1]
    refine iteF ⟨.int y, rfl, rfl, _, rfl, ?_⟩
    rw [decInt]
    by_cases e2 : y = 2
    · rw [decide_eq_true e2]
      refine iteT ⟨⟨_, rfl⟩, .ref p, rfl, ?_⟩
      dsimp only [tNoPart]
      refine ⟨.int x, rfl, x, rfl, p, _, rfl, SqL.of ep3, fun q1 n1 => ?_⟩
      rw [cutV_str]
      have s1 := same_upd (o := .lst ((cutW ws none (some x)).map V.str)) n1
      have e1 := same_at (o := .lst ((cutW ws none (some x)).map V.str)) n1
      generalize upd H3 q1 _ = J1 at s1 e1 ⊢
      refine ⟨.ref p, rfl, .int x, rfl, _, _, rfl, rfl, x + 1, rfl, p, _, rfl, SqL.of (s1 _ _ ep3), fun q2 n2 => ?_⟩
      rw [cutV_str]
      have s2 := same_upd (o := .lst ((cutW ws (some (x + 1)) none).map V.str)) n2
      have e2 := same_at (o := .lst ((cutW ws (some (x + 1)) none).map V.str)) n2
      generalize upd J1 q2 _ = J2 at s2 e2 ⊢
      have l1 := subL none (some x)
      have l3 := subL (some (x + 1)) none
      refine ⟨q1, q2, _, _, rfl, rfl, s2 _ _ e1, e2, small5k (by rw [List.length_map, List.length_map]; omega), fun q5 n5 => ?_⟩
      rw [← List.map_append]
      have s5 := same_upd (o := .lst ((cutW ws none (some x) ++ cutW ws (some (x + 1)) none).map V.str)) n5
      have fi := fin (cutW ws none (some x) ++ cutW ws (some (x + 1)) none) _ ((s1.trans s2).trans s5) (fun w hw => by
        rcases List.mem_append.mp hw with hw | hw
        · exact subP w hw
        · exact subP w hw) (by
        have b1 := subS none (some x)
        have b2 := subS (some (x + 1)) none
        rw [wSum_app]
        omega)
      exact ⟨_, q5, _, rfl, rfl, .inl (SqL.of upd_same), fi⟩
    rw [decide_eq_false e2]
    refine iteF ⟨.ref d, rfl, .str z, rfl, z, rfl, hz, _, 1, rfl, rfl, d, l, n + 1 + 1, _, rfl, by omega, by omega, D3, by omega, fun H4 u u0 u1 f4 D4 => ?_⟩
    refine ⟨by show 11 ≤ sizeLine; decide, fun L nL => ?_⟩
    have sL := same_upd (o := .lst (sgs.map V.str)) nL
    have eL := same_at (o := .lst (sgs.map V.str)) nL
    have oL := D4.off nL
    have D5 := D4.same sL
    have f5 : Fm d l H4 _ := Same.fm sL
    refine ⟨.ref d, rfl, d, l, _, 11, rfl, by decide, by decide, D5, by omega, fun H6 k k0 k1 f6 D6 => ?_⟩
    obtain ⟨g, hg, mg⟩ : ∃ g, atI (sgs.map V.str) k = some (V.str g) ∧ g ∈ sgs := by
      obtain ⟨j, rfl⟩ : ∃ j : Nat, k = (j : Int) := ⟨k.toNat, by omega⟩
      have hj : j < sgs.length := by show j < 11; omega
      exact ⟨sgs[j], atI_nat (by rw [List.getElem?_map, List.getElem?_eq_getElem hj]; rfl), List.getElem_mem hj⟩
    obtain ⟨lg, pg⟩ := sgs_ok g mg
    refine ⟨L, _, _, _, rfl, rfl, SqL.of (f6 _ _ oL.1 oL.2 eL), hg, ?_⟩
    refine ⟨.str z, rfl, ?_⟩
    dsimp only [tNoPart]
    refine ⟨.int u, rfl, u, rfl, z, rfl, hz, .str g, rfl, .ref d, rfl, d, l, _, 2, rfl, by decide, by decide, D6, by omega, fun H7 a a0 a1 f7 D7 => ?_⟩
    have la := cutS_len z none (some u)
    obtain ⟨m, em, pm, lm⟩ : ∃ m : Str, (if a = 1 then g else Str.empty) = m ∧ Pl m ∧ m.length ≤ 4 := by
      by_cases h : a = 1
      · exact ⟨g, if_pos h, pg, lg⟩
      · exact ⟨Str.empty, if_neg h, pl_empty, by decide⟩
    refine ⟨g, a, rfl, rfl, by omega, ?_⟩
    rw [em]
    refine ⟨_, _, rfl, rfl, by rw [sizeLine_eq]; omega, ?_⟩
    refine ⟨.str z, rfl, .int u, rfl, .ref d, rfl, d, l, _, 2, rfl, by decide, by decide, D7, by omega, fun H8 b b0 b1 f8 D8 => ?_⟩
    refine ⟨_, _, rfl, rfl, u + b, rfl, z, rfl, hz, ?_⟩
    have lb := cutS_len z (some (u + b)) none
    refine ⟨_, _, rfl, rfl, by rw [Str.length_append, sizeLine_eq]; omega, ?_⟩
    exact q _ _ ((((f03.trans f4).trans f5).trans f6).trans (f7.trans f8)) (D8.le (by omega)) (by rw [Str.length_append, Str.length_append]; omega) (Pl.app (Pl.app (Pl.cut pz _ _) pm) (Pl.cut pz _ _))
end
end TL
namespace TL
open PySem PySem.Spec PyProof.Rows L2
section
variable {P : Program} {w : World} {K : PySem.W.Frag} {mg : Str → Option Value} {base : Heap}
/-! ### the law: what is accepted is written so -/
def spLAcceptedRight (K : PySem.W.Frag) : Sp := fun vs H Q _ => ∃ (z : Str), vs = [.str z] ∧ z.length ≤ 350 ∧ Pl z ∧ ∀ H', Same H H' → Q (.bl true) H'
theorem ok_LAcceptedRight {f : Addr} {fd : FuncData} {cBadText : Addr} (F : Fun K "_law_accepted_right" "_law_accepted_right" sLAcceptedRight f fd) (m_BadText : mg "BadText" = some (.ref cBadText))
    (xm : PySem.W.exmOne K (.ref cBadText) (.ref cBadText) = some true)
    (xParseForest : OwnX P w K mg base "parse_forest" 5 ["text"] (spParseForest K cBadText)) (xParseSlides : OwnX P w K mg base "parse_slides" 4 ["text"] (spParseSlides K cBadText))
    (oForestText : Own P w K mg base "forest_text" 2 ["forest"] (spForestText K)) (oSlidesText : Own P w K mg base "slides_text" 2 ["slides"] (spSlidesText K)) :
    FnOk P w K mg base CX0 6 f fd ["_law_text"] (spLAcceptedRight K) := by
  refine F.ok scLAcceptedRight (fun vs H Q E h => ?_) (fun cdv A outer s H vs Q E hr h => ?_)
  · obtain ⟨z, rfl, _⟩ := h
    rfl
  · obtain ⟨z, rfl, lz, pz, q⟩ := h
    refine ⟨_, (pss_cons (ps_set (i := 1) scLAcceptedRight.nd rfl (.inl rfl) (pe_lst pa_nil))
    (pss_cons (ps_try_only (Wout := fun _ _ _ _ => False) rfl rfl ⟨by rfl, by decide, .inl m_BadText⟩ takes0
    (fun W pn xe tk pw => (pss_one (ps_expr (bmK K PySem.F.plainAttrs_list PySem.F.slot_list_append PySem.F.type_list_append mt_append (pv 1) (pa_cons (pe_own oForestText (hr.mono (by decide)) (by rfl) (pa_cons (pe_ownX xParseForest (hr.mono (by decide)) tk (by rfl) (pa_cons (pv 0) pa_nil)) pa_nil)) pa_nil)))))
    (fun a0 oe cls d0 pn hz hf => (pss_one (ps_expr (bmK K PySem.F.plainAttrs_list PySem.F.slot_list_append PySem.F.type_list_append mt_append (pv 1) (pa_cons (pv 0) pa_nil))))))
    (pss_cons (ps_try_only (Wout := fun _ _ _ _ => False) rfl rfl ⟨by rfl, by decide, .inl m_BadText⟩ takes0
    (fun W pn xe tk pw => (pss_one (ps_expr (bmK K PySem.F.plainAttrs_list PySem.F.slot_list_append PySem.F.type_list_append mt_append (pv 1) (pa_cons (pe_own oSlidesText (hr.mono (by decide)) (by rfl) (pa_cons (pe_ownX xParseSlides (hr.mono (by decide)) tk (by rfl) (pa_cons (pv 0) pa_nil)) pa_nil)) pa_nil)))))
    (fun a0 oe cls d0 pn hz hf => (pss_one (ps_expr (bmK K PySem.F.plainAttrs_list PySem.F.slot_list_append PySem.F.type_list_append mt_append (pv 1) (pa_cons (pv 0) pa_nil))))))
    (pss_one (ps_ret (pe_cmpR (eqDK K hr.units) (pv 1) (pe_lst (pa_cons (pv 0) (pa_cons (pv 0) pa_nil))) (nomark _))))))), ?_⟩
    have pzz : ∀ w ∈ [z, z], Pl w := fun w hw => by
      simp only [List.mem_cons, List.not_mem_nil, or_false] at hw
      rcases hw with rfl | rfl <;> exact pz
    refine ⟨Nat.zero_le _, fun T nT => ?_⟩
    have s0 := same_upd (o := .lst []) nT
    have e0 := same_at (o := .lst []) nT
    generalize upd H T (.lst []) = H0 at s0 e0 ⊢
    dsimp only [gName]
    refine ⟨.ref T, rfl, .inl ⟨rfl, _, SqL.of e0⟩, .str z, rfl, .str z, rfl, .inl ⟨z, rfl, lz, pz, fun J r d s fz dr ok => ?_, fun i fb J dd s ed => ?_⟩⟩
    · rcases fz_back fz with ⟨i, rfl⟩ | ⟨n, es, rfl, hn, sp, le, ez⟩
      · obtain ⟨n, es, e⟩ := ok
        simp [forD, badD] at e
      refine ⟨r, n, es, rfl, dr, hn, sp, by omega, fun J2 s2 => ?_⟩
      rw [← ez]
      have e2 := (s.trans s2) _ _ e0
      refine ⟨T, [], .str z, rfl, rfl, e2, by show 0 < sizeLine; decide, ?_⟩
      have hs : ∀ b o, H b = some o → J2 b = some o := fun b o eb => (s.trans s2) _ _ (s0 b o eb)
      show tSeq _ _ _ _ (upd J2 T (.lst [V.str z]))
      have e1_1 : upd J2 T (.lst [V.str z]) T = some (.lst [V.str z]) := upd_same
      have sb1 : ∀ b o, H b = some o → upd J2 T (.lst [V.str z]) b = some o := fun b o eb => by
        rw [upd_ne (ne_of_none eb nT)]
        exact hs _ _ eb
      generalize upd J2 T (.lst [V.str z]) = G1 at e1_1 sb1 ⊢
      refine ⟨.ref T, rfl, .inl ⟨rfl, _, SqL.of e1_1⟩, .str z, rfl, .str z, rfl, .inl ⟨z, rfl, by omega, pz, fun J r d s tz dr ok => ?_, fun i zn fb J dd s ed => ?_⟩⟩
      · obtain ⟨ps, rfl, sp, lp, ez⟩ := tz_back tz ok
        refine ⟨r, ps, rfl, dr, sp, by omega, fun J2 s2 => ?_⟩
        rw [← ez]
        have e2 := (s.trans s2) _ _ e1_1
        refine ⟨T, [V.str z], .str z, rfl, rfl, e2, by show 1 < sizeLine; decide, ?_⟩
        have hs : ∀ b o, H b = some o → J2 b = some o := fun b o eb => (s.trans s2) _ _ (sb1 b o eb)
        refine ⟨.ref T, rfl, .str z, rfl, .str z, rfl, by show 2 ≤ sizeLine; decide, fun L nL => ?_⟩
        have sL := same_upd (o := .lst [V.str z, V.str z]) nL
        refine ⟨.list ([z, z].map .str), .list ([z, z].map .str), .lst (SqL.of (sL _ _ upd_same)) (DpAll.ofStrs [z, z]), .lst (SqL.of upd_same) (DpAll.ofStrs [z, z]), shaped_strs _ pzz, shaped_strs _ pzz, ?_⟩
        rw [eqv_strs, decide_eq_true rfl]
        refine q _ (fun b o eb => sL _ _ ?_)
        rw [upd_ne (ne_of_none eb nT)]
        exact hs _ _ eb
      · refine ⟨true, xm, fun _ a0 na => ?_, fun z => nomatch z⟩
        have e2 := s _ _ e1_1
        refine ⟨.ref T, rfl, .inl ⟨rfl, _, SqL.of e2⟩, .str z, rfl, T, [V.str z], .str z, rfl, rfl, e2, by show 1 < sizeLine; decide, ?_⟩
        have hs : ∀ b o, H b = some o → J b = some o := fun b o eb => s _ _ (sb1 b o eb)
        refine ⟨.ref T, rfl, .str z, rfl, .str z, rfl, by show 2 ≤ sizeLine; decide, fun L nL => ?_⟩
        have sL := same_upd (o := .lst [V.str z, V.str z]) nL
        refine ⟨.list ([z, z].map .str), .list ([z, z].map .str), .lst (SqL.of (sL _ _ upd_same)) (DpAll.ofStrs [z, z]), .lst (SqL.of upd_same) (DpAll.ofStrs [z, z]), shaped_strs _ pzz, shaped_strs _ pzz, ?_⟩
        rw [eqv_strs, decide_eq_true rfl]
        refine q _ (fun b o eb => sL _ _ ?_)
        rw [upd_ne (ne_of_none eb nT)]
        exact hs _ _ eb
    · refine ⟨true, xm, fun _ a0 na => ?_, fun z => nomatch z⟩
      have e2 := s _ _ e0
      refine ⟨.ref T, rfl, .inl ⟨rfl, _, SqL.of e2⟩, .str z, rfl, T, [], .str z, rfl, rfl, e2, by show 0 < sizeLine; decide, ?_⟩
      have hs : ∀ b o, H b = some o → J b = some o := fun b o eb => s _ _ (s0 b o eb)
      show tSeq _ _ _ _ (upd J T (.lst [V.str z]))
      have e1_2 : upd J T (.lst [V.str z]) T = some (.lst [V.str z]) := upd_same
      have sb2 : ∀ b o, H b = some o → upd J T (.lst [V.str z]) b = some o := fun b o eb => by
        rw [upd_ne (ne_of_none eb nT)]
        exact hs _ _ eb
      generalize upd J T (.lst [V.str z]) = G2 at e1_2 sb2 ⊢
      refine ⟨.ref T, rfl, .inl ⟨rfl, _, SqL.of e1_2⟩, .str z, rfl, .str z, rfl, .inl ⟨z, rfl, by omega, pz, fun J r d s tz dr ok => ?_, fun i zn fb J dd s ed => ?_⟩⟩
      · obtain ⟨ps, rfl, sp, lp, ez⟩ := tz_back tz ok
        refine ⟨r, ps, rfl, dr, sp, by omega, fun J2 s2 => ?_⟩
        rw [← ez]
        have e2 := (s.trans s2) _ _ e1_2
        refine ⟨T, [V.str z], .str z, rfl, rfl, e2, by show 1 < sizeLine; decide, ?_⟩
        have hs : ∀ b o, H b = some o → J2 b = some o := fun b o eb => (s.trans s2) _ _ (sb2 b o eb)
        refine ⟨.ref T, rfl, .str z, rfl, .str z, rfl, by show 2 ≤ sizeLine; decide, fun L nL => ?_⟩
        have sL := same_upd (o := .lst [V.str z, V.str z]) nL
        refine ⟨.list ([z, z].map .str), .list ([z, z].map .str), .lst (SqL.of (sL _ _ upd_same)) (DpAll.ofStrs [z, z]), .lst (SqL.of upd_same) (DpAll.ofStrs [z, z]), shaped_strs _ pzz, shaped_strs _ pzz, ?_⟩
        rw [eqv_strs, decide_eq_true rfl]
        refine q _ (fun b o eb => sL _ _ ?_)
        rw [upd_ne (ne_of_none eb nT)]
        exact hs _ _ eb
      · refine ⟨true, xm, fun _ a0 na => ?_, fun z => nomatch z⟩
        have e2 := s _ _ e1_2
        refine ⟨.ref T, rfl, .inl ⟨rfl, _, SqL.of e2⟩, .str z, rfl, T, [V.str z], .str z, rfl, rfl, e2, by show 1 < sizeLine; decide, ?_⟩
        have hs : ∀ b o, H b = some o → J b = some o := fun b o eb => s _ _ (sb2 b o eb)
        refine ⟨.ref T, rfl, .str z, rfl, .str z, rfl, by show 2 ≤ sizeLine; decide, fun L nL => ?_⟩
        have sL := same_upd (o := .lst [V.str z, V.str z]) nL
        refine ⟨.list ([z, z].map .str), .list ([z, z].map .str), .lst (SqL.of (sL _ _ upd_same)) (DpAll.ofStrs [z, z]), .lst (SqL.of upd_same) (DpAll.ofStrs [z, z]), shaped_strs _ pzz, shaped_strs _ pzz, ?_⟩
        rw [eqv_strs, decide_eq_true rfl]
        refine q _ (fun b o eb => sL _ _ ?_)
        rw [upd_ne (ne_of_none eb nT)]
        exact hs _ _ eb
def wordsL (z : Str) : List Str := (Txt.split z " ").filter fun w => !decide (V.str w = V.str "none") && !decide (V.str (cutS w (some (-1)) none) = V.str ":")
def spLWords : Sp := fun vs H Q _ => ∃ (z : Str), vs = [.str z] ∧ z.length ≤ 900 ∧ ∀ (H' : Hp) (D : Addr), Same H H' → H D = none → H' D = some (.lst ((wordsL z).map V.str)) → Q (.ref D) H'
theorem ok_LWords {f : Addr} {fd : FuncData} {k : Nat} (F : Fun K "_law_words" "_law_words" sLWords f fd) :
    FnOk P w K mg base CX0 (k + 1) f fd ["_law_text"] spLWords := by
  refine F.ok scLWords (fun vs H Q E h => ?_) (fun cdv A outer s H vs Q E hr h => ?_)
  · obtain ⟨z, rfl, _⟩ := h
    rfl
  · obtain ⟨z, rfl, lz, q⟩ := h
    refine ⟨_, (pss_one (ps_ret (pe_lc (own := [("_law_word", 1)]) (g := (gName 1)) rfl scLWords.nd (piLK K (pe_m1 PySem.F.slot_str_split PySem.F.type_str_split mt_split (pv 0) pe_str))
      (blkOk_by (own := [("_law_word", 1)]) (N := nLWords) (sc := (defScope sLWords)) (by decide +kernel))
      (fun _ _ _ _ _ => (pg_name (i := 1) scLWords.nd rfl (Or.inl rfl))) (fun _ _ _ _ _ => (pts_one (PW.pt (pw_and (pt_cmpR op_ne (pv 1) pe_str (nomark _)) (pw_and1 (pt_cmpR op_ne (pe_slice sl_str (pv 1) (po_some (pe_un un_neg pe_int)) po_none) pe_str (nomark _)))))))
      (fun _ _ _ _ _ => (pv 1))))), ?_⟩
    have hz : z.length ≤ sizeLine := by rw [sizeLine_eq]; omega
    refine ⟨.str z, rfl, ⟨z, rfl⟩, z, _, rfl, rfl, by decide +kernel, by rw [sizeLine_eq]; omega, fun p np => ?_⟩
    obtain ⟨ws, ew⟩ : ∃ ws, ws = Txt.split z " " := ⟨_, rfl⟩
    have lw : ws.length ≤ 901 := by
      have := split_len (z := z) sp_one sp_low
      rw [← ew] at this
      omega
    have sw : ∀ w ∈ ws, w.length ≤ 900 := fun w hw => by
      have := split_short (z := z) sp_one sp_low w (ew ▸ hw)
      omega
    unfold wordsL at q
    rw [← ew] at q ⊢
    have s1 := same_upd (o := .lst (ws.map V.str)) np
    have ep := same_at (o := .lst (ws.map V.str)) np
    generalize upd H p _ = H1 at s1 ep ⊢
    refine ⟨p, rfl, ⟨_, SqL.of ep⟩, fun D nD => ?_⟩
    refine lc_gen (K := K) ws (fun o => [some (.str z), some (.str o)]) (fun w => !decide (V.str w = V.str "none") && !decide (V.str (cutS w (some (-1)) none) = V.str ":")) (fun o => .str o) nD
      (fun k H' hk s => ⟨_, _, SqL.of (s _ _ ep), List.getElem?_eq_getElem (by rw [List.length_map]; exact hk)⟩) (fun H' s => ⟨_, SqL.of (s _ _ ep), by rw [List.length_map]; exact Nat.le_refl _⟩)
      (fun k o y H' H'' ho s yy => ?_) (fun o => rfl) (fun o ho H' R s hR => ?_) (fun o ho _ H' R s hR => ⟨.str o, rfl, hR _ _ (Same.refl _) (.str _)⟩) (fun o => by simp [only]) (by omega) (fun H2 ys s2 eD dy => ?_)
    · obtain ⟨e, hyy⟩ := yy
      have := hyy _ (SqL.of (K := K) (s _ _ ep))
      rw [List.getElem?_map, ho] at this
      cases this
      exact ⟨e, fun Q q => q⟩
    · have hR := hR H' (Same.refl _)
      have so : o.length ≤ sizeLine := by have := sw o ho; rw [sizeLine_eq]; omega
      refine ⟨.str o, rfl, rfl, _, rfl, ite2 (fun h => ?_) (fun h => ?_)⟩
      · rw [h, Bool.true_and] at hR
        refine ⟨.str o, rfl, ?_⟩
        dsimp only [tNoPart]
        exact ⟨1, rfl, -1, rfl, o, rfl, so, rfl, _, rfl, hR⟩
      · rw [Bool.eq_false_iff.mpr h, Bool.false_and] at hR
        exact hR
    · have ey := DpAll.strs dy
      subst ey
      exact q _ D (s1.trans s2) (s1.free nD) eD
end
end TL
namespace TL
open PySem PySem.Spec PyProof.Rows L2
section
variable {P : Program} {w : World} {K : PySem.W.Frag} {mg : Str → Option Value} {base : Heap}
/-! ### the law: words of texts; two forests side by side -/
theorem no_colon {g : Str} {s : Nat} (G : Sg g s) {p : Int × Int} (h : sm12 p) : ¬ ∃ b : Str, wrd g p = b ++ (":" : Str) := fun ⟨b, e⟩ => by
  have hm : 58 ∈ tl (wrd g p) := by rw [e, tl_append, co_one]; simp
  rw [show wrd g p = dig p.1 ++ g ++ dig p.2 from rfl, tl_append, tl_append, G.one] at hm
  simp only [List.mem_append, List.mem_singleton] at hm
  have := G.is
  rcases hm with (hm | hm) | hm
  · have := (dig_ok h.1).1 58 hm
    omega
  · omega
  · have := (dig_ok h.2).1 58 hm
    omega
theorem words_wds {g : Str} {s : Nat} (G : Sg g s) {ps : List (Int × Int)} (h : ∀ p ∈ ps, sm12 p) :
    ((wds g ps).filter fun w => !decide (V.str w = V.str "none") && !decide (V.str (cutS w (some (-1)) none) = V.str ":")) = ps.map (wrd g) := by
  unfold wds
  by_cases e : ps = []
  · subst e
    rw [if_pos rfl, List.filter_cons_of_neg (by simp)]
    rfl
  · rw [if_neg e]
    refine List.filter_eq_self.mpr fun w hw => ?_
    obtain ⟨p, hp, rfl⟩ := List.mem_map.mp hw
    rw [decide_eq_false (fun z => wrd_none G (h p hp) (by injection z)), decide_eq_false (fun z => no_colon G (h p hp) (last_colon.mp (by injection z)))]
    rfl
theorem words_ftx {n : Nat} (hn : n ≤ 12) {es : List (Int × Int)} (sp : ∀ p ∈ es, sm12 p) : wordsL (ftx n es) = es.map (wrd "-") := by
  unfold wordsL
  rw [ftx_split hn sp, List.filter_cons_of_neg ?_, words_wds sg_edge sp]
  rw [decide_eq_true (congrArg V.str (last_colon.mpr ⟨_, rfl⟩))]
  simp
theorem words_txt {ps : List (Int × Int)} (sp : ∀ p ∈ ps, sm12 p) : wordsL (txt ">" ps) = ps.map (wrd ">") := by
  unfold wordsL
  have w := wds_ok sg_slide sp
  rw [show Txt.split (txt ">" ps) " " = wds ">" ps from split_join (s := 32) (S := []) sp_one sp_low w.1 fun p hp => (w.2.1 p hp).1, words_wds sg_slide sp]
def spLBesideRight (K : PySem.W.Frag) : Sp := fun vs H Q _ => ∃ (x y : V) (m n : Nat) (es fs : List (Int × Int)), vs = [x, y] ∧ m + n ≤ 12 ∧ IsFor m es ∧ IsFor n fs ∧ Dp K H x (forD m es) ∧ Dp K H y (forD n fs) ∧ ∀ H', Same H H' → Q (.bl true) H'
theorem ok_LBesideRight {f : Addr} {fd : FuncData} (F : Fun K "_law_beside_right" "_law_beside_right" sLBesideRight f fd) (m_int : mg "int" = none) (m_str : mg "str" = none)
    (oLWords : Own P w K mg base "_law_words" 1 ["_law_text"] spLWords) (oForestText : Own P w K mg base "forest_text" 2 ["forest"] (spForestText K)) (oSideBySide : Own P w K mg base "side_by_side" 1 ["first", "second"] (spSideBySide K)) :
    FnOk P w K mg base CX0 3 f fd ["_law_first", "_law_second"] (spLBesideRight K) := by
  refine F.ok scLBesideRight (fun vs H Q E h => ?_) (fun cdv A outer s H vs Q E hr h => ?_)
  · obtain ⟨x, y, m, n, es, fs, rfl, _⟩ := h
    rfl
  · obtain ⟨x, y, m, n, es, fs, rfl, hmn, f1, f2, hx, hy, q⟩ := h
    obtain ⟨a, b, xs, rfl, ha, hb, hA⟩ := Dp.forI hx
    obtain ⟨a', b', xs', rfl, ha', hb', hA'⟩ := Dp.forI hy
    have c1 := f1.count
    have c2 := f2.count
    have sm1 : ∀ p ∈ es, sm12 p := fun p hp => by
      have := f1.rng p hp
      unfold sm12
      omega
    have sm2 : ∀ p ∈ fs, sm12 p := fun p hp => by
      have := f2.rng p hp
      unfold sm12
      omega
    have lt1 := ftx_len (n := m) (by omega) sm1
    have lt2 := ftx_len (n := n) (by omega) sm2
    refine ⟨_, (pss_cons (ps_set (i := 2) scLBesideRight.nd rfl (.inl rfl) (pe_own oLWords (hr.mono (by decide)) (by rfl) (pa_cons (pe_own oForestText (hr.mono (by decide)) (by rfl) (pa_cons (pv 0) pa_nil)) pa_nil)))
    (pss_cons (ps_for PassesOwn.never rfl (piLK K (pe_own oLWords (hr.mono (by decide)) (by rfl) (pa_cons (pe_own oForestText (hr.mono (by decide)) (by rfl) (pa_cons (pv 1) pa_nil)) pa_nil))) (pg_name (i := 3) scLBesideRight.nd rfl (Or.inl rfl))
    (pss_cons (ps_setLc (i := 4) (own := [("_law_part", 6)]) (g := (gName 6)) (tt := tYes) (by rfl) scLBesideRight.nd rfl rfl (sw_true rfl rfl rfl (by decide +kernel)) (piLK K (pe_m1 PySem.F.slot_str_split PySem.F.type_str_split mt_split (pv 3) pe_str))
      (blkOk_by (own := [("_law_part", 6)]) (N := nLBesideRight) (sc := (defScope sLBesideRight)) (by decide +kernel))
      (fun _ _ _ _ _ => (pg_name (i := 6) scLBesideRight.nd rfl (Or.inl rfl))) (fun _ _ _ _ _ => pts_nil)
      (fun _ _ _ _ _ => (pe_op op_add (pe_callTy call_int_str (by rfl) m_int (by decide +kernel) (pa_cons (pv 6) pa_nil)) (pe_ix (ixTK K) (pv 0) pe_int (fun _ _ => rfl)))))
    (pss_one (ps_expr (bmK K PySem.F.plainAttrs_list PySem.F.slot_list_append PySem.F.type_list_append mt_append (pv 2) (pa_cons (pe_op op_add_str (pe_op op_add_str (pe_callTy call_str_int (by rfl) m_str (by decide +kernel) (pa_cons (pe_ix (ixLK K) (pv 4) pe_int (fun _ _ => rfl)) pa_nil)) pe_str) (pe_callTy call_str_int (by rfl) m_str (by decide +kernel) (pa_cons (pe_ix (ixLK K) (pv 4) pe_int (fun _ _ => rfl)) pa_nil))) pa_nil))))))
    (pss_cons (ps_if (pt_cmpR (eqDK K hr.units) (pv 2) (pe_lst pa_nil) (nomark _)) (pss_one (ps_expr (bmK K PySem.F.plainAttrs_list PySem.F.slot_list_append PySem.F.type_list_append mt_append (pv 2) (pa_cons pe_str pa_nil)))) pss_nil)
    (pss_cons (ps_set (i := 5) scLBesideRight.nd rfl (.inl rfl) (joinK K pe_str (pe_op op_cat (pe_lst (pa_cons (pe_op op_add_str (pe_callTy call_str_int (by rfl) m_str (by decide +kernel) (pa_cons (pe_op op_add (pe_ix (ixTK K) (pv 0) pe_int (fun _ _ => rfl)) (pe_ix (ixTK K) (pv 1) pe_int (fun _ _ => rfl))) pa_nil)) pe_str) pa_nil)) (pv 2))))
    (pss_one (ps_ret (pe_cmpR op_eq (pe_own oForestText (hr.mono (by decide)) (by rfl) (pa_cons (pe_own oSideBySide (hr.mono (by decide)) (by rfl) (pa_cons (pv 0) (pa_cons (pv 1) pa_nil))) pa_nil)) (pv 5) (nomark _)))))))), ?_⟩
    refine ⟨.ref a, rfl, .ref a, m, es, rfl, hx, by omega, sm1, by omega, fun H1 s1 => ⟨ftx m es, rfl, by omega, fun H2 W s2 nW eW => ?_⟩⟩
    rw [words_ftx (by omega) sm1] at eW
    have s12 := s1.trans s2
    have nHW : H W = none := s1.free nW
    refine ⟨.ref a', rfl, .ref a', n, fs, rfl, Dp.same s12 hy, by omega, sm2, by omega, fun H3 s3 => ⟨ftx n fs, rfl, by omega, fun H4 V2 s4 nV eV => ?_⟩⟩
    rw [words_ftx (by omega) sm2] at eV
    have s34 := s3.trans s4
    have s14 := s12.trans s34
    have eW4 := s34 _ _ eW
    have nWV : W ≠ V2 := ne_of_none (s3 _ _ eW) nV
    refine ⟨V2, rfl, ⟨_, SqL.of eV⟩, for_list (K := K) (a := V2) (xs := (fs.map (wrd "-")).map V.str) (fun i σ H' => ∃ (y3 y4 : Option V), σ = [some (.ref a), some (.ref a'), some (.ref W), y3, y4, none, none] ∧ (∀ b o, b ≠ W → H4 b = some o → H' b = some o) ∧
      H' W = some (.lst ((es.map (wrd "-") ++ (fs.take i).map (fun p => wrd "-" (shf m p))).map V.str))) ?_ ?_ ?_ ?_⟩
    · refine ⟨none, none, rfl, fun _ _ _ e => e, ?_⟩
      rw [List.take_zero, List.map_nil, List.append_nil]
      exact eW4
    · rintro i σ H' _ ⟨_, _, rfl, g, _⟩
      exact SqL.of (g _ _ nWV.symm eV)
    · rintro i v σ H5 hv ⟨y3, y4, rfl, g, eW5⟩
      rw [List.getElem?_map, List.getElem?_map] at hv
      cases hp : fs[i]? with
      | none => rw [hp] at hv; cases hv
      | some p =>
      rw [hp] at hv
      cases hv
      have mp := List.mem_of_getElem? hp
      have hi := (List.getElem?_eq_some_iff.mp hp).1
      have sp := sm2 p mp
      have rp := f2.rng p mp
      have tk : fs.take (i + 1) = fs.take i ++ [p] := by rw [List.take_add_one, hp]; rfl
      have lw := (wrd_mem sg_edge sp).2.2
      dsimp only [gName]
      refine ⟨.str (wrd "-" p), rfl, ⟨_, rfl⟩, wrd "-" p, _, rfl, rfl, by decide +kernel, by rw [sizeLine_eq]; omega, fun pp npp => ?_⟩
      rw [wrd_split sg_edge sp]
      have s5 := same_upd (o := .lst ([p.1, p.2].map fun v => V.str (dig v))) npp
      have e5 := same_at (o := .lst ([p.1, p.2].map fun v => V.str (dig v))) npp
      have ha5 : SqT K H5 a [.int m, .ref b] := Same.tup (fun c o ec => g _ _ (ne_of_none ec nHW) (s14 _ _ ec)) ha
      have eW6 := s5 _ _ eW5
      have ha6 := Same.tup s5 ha5
      refine ⟨pp, rfl, ⟨_, SqL.of e5⟩, fun D nD => ?_⟩
      refine lc_gen (K := K) [p.1, p.2] (fun v => [some (.ref a), some (.ref a'), some (.ref W), some (.str (wrd "-" p)), y4, none, some (.str (dig v))]) (fun _ => true) (fun v => .int (v + m)) nD
        (fun k H' hk s => ⟨_, _, SqL.of (s _ _ e5), List.getElem?_eq_getElem (by rw [List.length_map]; exact hk)⟩) (fun H' s => ⟨_, SqL.of (s _ _ e5), by rw [List.length_map]; exact Nat.le_refl _⟩)
        (fun k o y H' H'' ho s yy => ?_) (fun o => rfl) (fun o _ H' R s hR => hR H' (Same.refl _)) (fun o ho _ H' R s hR => ?_) (fun o => by simp [only]) (by show 2 ≤ 1000; decide) (fun H7 ys s7 eD dy => ?_)
      · obtain ⟨e, hyy⟩ := yy
        have := hyy _ (SqL.of (K := K) (s _ _ e5))
        rw [List.getElem?_map, ho] at this
        cases this
        exact ⟨e, fun Q q => q⟩
      · have ro : 0 ≤ o ∧ o ≤ 99 := by
          simp only [List.mem_cons, List.not_mem_nil, or_false] at ho
          rcases ho with rfl | rfl <;> omega
        obtain ⟨k, k1, k2⟩ := dg_int (dg_dig ro)
        rw [numO_dig ro] at k1
        cases k1
        exact ⟨.str (dig o), rfl, dig o, o, rfl, k2, by have := (dig_ok ro).2; omega, .ref a, rfl, a, _, 0, .int m, rfl, rfl, Same.tup s ha6, atI_nat (j := 0) rfl, _, _, rfl, rfl, hR _ _ (Same.refl _) (.int _)⟩
      rw [filt_true] at dy
      have ey : ys = [p.1 + (m : Int), p.2 + (m : Int)].map V.int := DpAll.ints dy
      subst ey
      have eW7 := s7 _ _ eW6
      dsimp only [gName]
      have d1 := (dig_ok (i := p.1 + (m : Int)) (by omega)).2
      have d2 := (dig_ok (i := p.2 + (m : Int)) (by omega)).2
      have l4 : ("-" : Str).length = 1 := by decide +kernel
      refine ⟨.ref W, rfl, .inl ⟨rfl, _, SqL.of eW7⟩, .ref D, rfl, D, _, 0, .int (p.1 + (m : Int)), rfl, rfl, SqL.of eD, atI_nat (j := 0) rfl, p.1 + (m : Int), rfl, small_log (by omega), _, _, rfl, rfl, by rw [sizeLine_eq]; show (dig (p.1 + (m : Int))).length + ("-" : Str).length ≤ _; omega,
        .ref D, rfl, D, _, 1, .int (p.2 + (m : Int)), rfl, rfl, SqL.of eD, atI_nat (j := 1) rfl, p.2 + (m : Int), rfl, small_log (by omega), _, _, rfl, rfl, by rw [sizeLine_eq]; show (dig (p.1 + (m : Int)) ++ ("-" : Str)).length + (dig (p.2 + (m : Int))).length ≤ _; rw [Str.length_append]; omega, ?_⟩
      refine ⟨W, _, _, rfl, rfl, eW7, by rw [List.length_map, List.length_append, List.length_map, List.length_map, List.length_take]; exact Nat.lt_of_lt_of_le (by omega) (small5k (Nat.le_refl _)), _, _, rfl, fun c o n ec => ?_, ?_⟩
      · rw [upd_ne n]
        exact s7 _ _ (s5 _ _ (g _ _ n ec))
      · rw [upd_same, tk, List.map_append (l₁ := fs.take i), ← List.append_assoc, List.map_append (l₂ := [p].map fun p => wrd "-" (shf m p))]
        rfl
    · rintro σ H5 ⟨y3, y4, rfl, g, eW5⟩
      rw [List.length_map, List.length_map, List.take_length] at eW5
      obtain ⟨zs, ezs⟩ : ∃ zs, zs = es ++ fs.map (shf m) := ⟨_, rfl⟩
      have ew : es.map (wrd "-") ++ fs.map (fun p => wrd "-" (shf m p)) = zs.map (wrd "-") := by
        rw [ezs, List.map_append, List.map_map]
        rfl
      rw [ew] at eW5
      have smz : ∀ p ∈ es ++ fs.map (shf m), sm12 p := fun p hp => by
        rcases List.mem_append.mp hp with hp | hp
        · exact sm1 p hp
        · obtain ⟨o, ho, rfl⟩ := List.mem_map.mp hp
          have := f2.rng o ho
          unfold sm12 shf
          simp only
          omega
      have lzs : zs.length ≤ 12 := by rw [ezs, List.length_append, List.length_map]; omega
      have lzs' : (es ++ fs.map (shf m)).length ≤ 500 := by rw [← ezs]; omega
      rw [← ezs] at smz
      have h5 : Same H H5 := fun b o eb => g _ _ (ne_of_none eb nHW) (s14 _ _ eb)
      have wz := wds_ok sg_edge smz
      have lwz : (wds "-" zs).length ≤ 13 := by have := wz.2.2; omega
      have ldig : (dig ((m : Int) + n)).length + (":" : Str).length ≤ sizeLine := by
        have := (dig_ok (i := (m : Int) + n) (by omega)).2
        have l4 : (":" : Str).length = 1 := by decide +kernel
        rw [sizeLine_eq]
        omega
      have sumw : (((dig ((m : Int) + n) ++ (":" : Str)) :: wds "-" zs).map (·.length)).sum + ((dig ((m : Int) + n) ++ (":" : Str)) :: wds "-" zs).length * (" " : Str).length ≤ 16777216 := by
        have h1 := sum_le (ws := (dig ((m : Int) + n) ++ (":" : Str)) :: wds "-" zs) (n := 5) (fun w hw => by
          rcases List.mem_cons.mp hw with rfl | hw
          · have := (dig_ok (i := (m : Int) + n) (by omega)).2
            have l4 : (":" : Str).length = 1 := by decide +kernel
            rw [Str.length_append]
            omega
          · exact (wz.2.1 w hw).2)
        have h3 : (" " : Str).length = 1 := by decide +kernel
        rw [h3]
        rw [List.length_cons] at h1 ⊢
        omega
      have plz : ∀ w ∈ zs.map (wrd "-"), Pl w := fun w hw => by
        obtain ⟨p, hp, rfl⟩ := List.mem_map.mp hw
        exact pl_wrd sg_edge (smz p hp)
      refine ⟨.ref W, rfl, Nat.zero_le _, fun L nL => ?_⟩
      have sL := same_upd (o := .lst []) nL
      have eL := same_at (o := .lst []) nL
      have eW6 := sL _ _ eW5
      have h6 : Same H (upd H5 L (.lst [])) := h5.trans sL
      generalize upd H5 L (.lst []) = H6 at sL eL eW6 h6 ⊢
      refine ⟨.list ((zs.map (wrd "-")).map .str), .list (([] : List Str).map .str), .lst (SqL.of eW6) (DpAll.ofStrs _), .lst (SqL.of eL) .nil, shaped_strs _ plz, shaped_strs [] (fun _ h => nomatch h), _, rfl, ?_⟩
      rw [eqv_strs]
      by_cases e0 : zs = []
      · rw [decide_eq_true (by rw [e0]; rfl)]
        rw [e0] at eW6
        have ewn : wds "-" zs = [("none" : Str)] := if_pos e0
        refine iteT ⟨.ref W, rfl, .inl ⟨rfl, _, SqL.of eW6⟩, W, _, .str "none", rfl, rfl, eW6, by show 0 < sizeLine; decide, ?_⟩
        have eW7 : upd H6 W (.lst ((([] : List (Int × Int)).map (wrd "-")).map V.str ++ [V.str "none"])) W = some (.lst ((wds "-" zs).map V.str)) := by rw [ewn]; exact upd_same
        have h7 : Same H (upd H6 W (.lst ((([] : List (Int × Int)).map (wrd "-")).map V.str ++ [V.str "none"]))) := fun b o eb => by
          rw [upd_ne (ne_of_none eb nHW)]
          exact h6 _ _ eb
        generalize upd H6 W _ = H7 at eW7 h7 ⊢
        have hx9 := Dp.same h7 hx
        have hy9 := Dp.same h7 hy
        refine ⟨⟨_, rfl⟩, .ref a, rfl, a, _, 0, .int m, rfl, rfl, Same.tup h7 ha, atI_nat (j := 0) rfl, .ref a', rfl, a', _, 0, .int n, rfl, rfl, Same.tup h7 ha', atI_nat (j := 0) rfl, _, _, rfl, rfl, _, rfl, small_log (i := (m : Int) + n) (by omega), _, _, rfl, rfl, ldig, by show 1 ≤ sizeLine; decide, fun B nB => ?_⟩
        have sB := same_upd (o := .lst [V.str (dig ((m : Int) + n) ++ (":" : Str))]) nB
        have eB := same_at (o := .lst [V.str (dig ((m : Int) + n) ++ (":" : Str))]) nB
        have eW9 := sB _ _ eW7
        have hs10 : Same H (upd H7 B (.lst [V.str (dig ((m : Int) + n) ++ (":" : Str))])) := fun b o eb => sB _ _ (h7 b o eb)
        refine ⟨.ref W, rfl, B, W, [V.str (dig ((m : Int) + n) ++ (":" : Str))], (wds "-" zs).map V.str, rfl, rfl, eB, eW9, small5k (by rw [List.length_map]; show 1 + _ ≤ _; omega), fun C nC => ?_⟩
        have sC := same_upd (o := .lst ([V.str (dig ((m : Int) + n) ++ (":" : Str))] ++ (wds "-" zs).map V.str)) nC
        refine ⟨_, C, (dig ((m : Int) + n) ++ (":" : Str)) :: wds "-" zs, rfl, rfl, .inl (SqL.of upd_same), sumw, ?_⟩
        have et : Txt.join " " ((dig ((m : Int) + n) ++ (":" : Str)) :: wds "-" zs) = ftx ((m + n : Nat) : Int) zs := by
          rw [ftx_join, show ((m + n : Nat) : Int) = (m : Int) + n by omega]
        rw [et]
        refine ⟨.ref a, rfl, .ref a', rfl, .ref a, .ref a', m, n, es, fs, rfl, hmn, f1, f2, Dp.same (hs10.trans sC) hx, Dp.same (hs10.trans sC) hy, fun J zv sJ dz => ⟨zv, m + n, zs, rfl, (ezs ▸ dz), hmn, smz, by omega, fun J2 sJ2 => ⟨.str _, rfl, rfl, ?_⟩⟩⟩
        rw [decide_eq_true rfl]
        exact q _ ((hs10.trans sC).trans (sJ.trans sJ2))
      · rw [decide_eq_false (fun y => e0 (List.map_eq_nil_iff.mp y))]
        have ewn : wds "-" zs = zs.map (wrd "-") := if_neg e0
        rw [← ewn] at eW6
        refine iteF ?_
        have hx9 := Dp.same h6 hx
        have hy9 := Dp.same h6 hy
        refine ⟨⟨_, rfl⟩, .ref a, rfl, a, _, 0, .int m, rfl, rfl, Same.tup h6 ha, atI_nat (j := 0) rfl, .ref a', rfl, a', _, 0, .int n, rfl, rfl, Same.tup h6 ha', atI_nat (j := 0) rfl, _, _, rfl, rfl, _, rfl, small_log (i := (m : Int) + n) (by omega), _, _, rfl, rfl, ldig, by show 1 ≤ sizeLine; decide, fun B nB => ?_⟩
        have sB := same_upd (o := .lst [V.str (dig ((m : Int) + n) ++ (":" : Str))]) nB
        have eB := same_at (o := .lst [V.str (dig ((m : Int) + n) ++ (":" : Str))]) nB
        have eW9 := sB _ _ eW6
        have hs10 : Same H (upd H6 B (.lst [V.str (dig ((m : Int) + n) ++ (":" : Str))])) := fun b o eb => sB _ _ (h6 b o eb)
        refine ⟨.ref W, rfl, B, W, [V.str (dig ((m : Int) + n) ++ (":" : Str))], (wds "-" zs).map V.str, rfl, rfl, eB, eW9, small5k (by rw [List.length_map]; show 1 + _ ≤ _; omega), fun C nC => ?_⟩
        have sC := same_upd (o := .lst ([V.str (dig ((m : Int) + n) ++ (":" : Str))] ++ (wds "-" zs).map V.str)) nC
        refine ⟨_, C, (dig ((m : Int) + n) ++ (":" : Str)) :: wds "-" zs, rfl, rfl, .inl (SqL.of upd_same), sumw, ?_⟩
        have et : Txt.join " " ((dig ((m : Int) + n) ++ (":" : Str)) :: wds "-" zs) = ftx ((m + n : Nat) : Int) zs := by
          rw [ftx_join, show ((m + n : Nat) : Int) = (m : Int) + n by omega]
        rw [et]
        refine ⟨.ref a, rfl, .ref a', rfl, .ref a, .ref a', m, n, es, fs, rfl, hmn, f1, f2, Dp.same (hs10.trans sC) hx, Dp.same (hs10.trans sC) hy, fun J zv sJ dz => ⟨zv, m + n, zs, rfl, (ezs ▸ dz), hmn, smz, by omega, fun J2 sJ2 => ⟨.str _, rfl, rfl, ?_⟩⟩⟩
        rw [decide_eq_true rfl]
        exact q _ ((hs10.trans sC).trans (sJ.trans sJ2))
end
end TL
namespace TL
open PySem PySem.Spec PyProof.Rows L2
section
variable {P : Program} {w : World} {K : PySem.W.Frag} {mg : Str → Option Value} {base : Heap}
/-! ### the law: slides told and followed -/
theorem eqv_edges (es : List (Int × Int)) : PyData.eqv (.list (es.map prD)) (.list []) = decide (es = []) := by
  cases es with
  | nil => rfl
  | cons _ _ => rfl
theorem shaped_edges (es : List (Int × Int)) : SeqAt.shaped (.list (es.map prD)) = true := by
  have h1 : PyData.depthAll (es.map prD) ≤ 1 := by
    induction es with
    | nil => simp [PyData.depthAll]
    | cons p l ih =>
      simp only [List.map_cons, PyData.depthAll]
      exact Nat.max_le.mpr ⟨by simp [prD, PyData.depth, PyData.depthAll], ih⟩
  unfold SeqAt.shaped
  rw [show (PyData.list (es.map prD)).canLay0 = true from lay_prs es, Bool.true_and]
  refine decide_eq_true ?_
  simp only [PyData.depth]
  omega
theorem shaped_intsD (ns : List Int) : SeqAt.shaped (intsD ns) = true := by
  unfold SeqAt.shaped
  simp only [intsD, PyData.canLay0, PyData.depth, lay_ints, dep_ints]
  decide
theorem fm_put {d l a : Addr} {H H' : Hp} {o : HO} (h : Fm d l H H') (ha : H a = none) : Fm d l H (upd H' a o) := fun b u n1 n2 e => by
  rw [upd_ne (ne_of_none e ha)]
  exact h b u n1 n2 e
theorem bk_words (ps : List (Int × Int)) : ps.reverse.map (fun o => PyData.str (wrd ">" (o.2, o.1))) = ((bk ps).map (wrd ">")).map .str := by
  unfold bk
  rw [List.map_map, List.map_reverse, List.map_reverse, List.map_map]
  rfl
theorem sh_int : ∀ (n : Nat) (i : Int), shS n (.int i)
  | 0, _ => trivial
  | _ + 1, _ => trivial
theorem sh_prs (n : Nat) {ps : List (Int × Int)} (h : ps.length ≤ 1000) : shS (n + 2) (prsD ps) := by
  refine ⟨by rw [List.length_map]; exact h, fun d hd => ?_⟩
  obtain ⟨p, _, rfl⟩ := List.mem_map.mp hd
  refine ⟨by show 2 ≤ 1000; decide, fun d hd => ?_⟩
  simp only [List.mem_cons, List.not_mem_nil, or_false] at hd
  rcases hd with rfl | rfl <;> exact sh_int _ _
theorem Tz.uniq {g z : Str} {d e : PyData} (h : Tz g z d) (k : Tz g z e) : d = e := by
  rcases h with ⟨n, rfl⟩ | ⟨n, ps, a, rfl⟩ | ⟨n, i, a, rfl⟩
  · rcases k with ⟨_, rfl⟩ | ⟨m, _⟩ | ⟨m, _⟩
    · rfl
    · exact absurd n m
    · exact absurd n m
  · rcases k with ⟨m, _⟩ | ⟨m, qs, b, rfl⟩ | ⟨m, j, b, rfl⟩
    · exact absurd m n
    · rw [a.uniq b]
    · exact (a.no b).elim
  · rcases k with ⟨m, _⟩ | ⟨m, qs, b, rfl⟩ | ⟨m, j, b, rfl⟩
    · exact absurd m n
    · exact (b.no a).elim
    · rw [a.uniq b]
def spLSlidesRight (K : PySem.W.Frag) : Sp := fun vs H Q _ => ∃ (d l : Addr) (n : Nat) (x : V) (m : Nat) (es : List (Int × Int)), vs = [.ref d, x] ∧ Deck H d l n ∧ n < 700000 ∧ m ≤ 12 ∧ IsFor m es ∧ Dp K H x (forD m es) ∧
  ∀ (H' : Hp), Fm d l H H' → Deck H' d l (n + 50) → Q (.bl true) H'
theorem ok_LSlidesRight {f : Addr} {fd : FuncData} {cBadText : Addr} (F : Fun K "_law_slides_right" "_law_slides_right" sLSlidesRight f fd) (m_range : mg "range" = none) (m_int : mg "int" = none) (m_tuple : mg "tuple" = none) (m_len : mg "len" = none)
    (oLSetting : Own P w K mg base "_law_setting" 2 ["_law_deck_here", "_law_forest_here"] (spLSetting K)) (oLDraw : Own P w K mg base "_law_draw" 1 ["_law_deck_here", "_law_many"] spLDraw)
    (oLSlides : Own P w K mg base "_law_slides" 2 ["_law_forest_here", "_law_lamps"] (spLSlides K)) (oLMoved : Own P w K mg base "_law_moved" 1 ["_law_lamps", "_law_u", "_law_v"] (spLMoved K))
    (oSlidesText : Own P w K mg base "slides_text" 2 ["slides"] (spSlidesText K)) (xParseSlides : OwnX P w K mg base "parse_slides" 4 ["text"] (spParseSlides K cBadText)) (oLSame : Own P w K mg base "_law_same" 5 ["_law_found", "_law_due"] (spLSame K 4))
    (oFollow : Own P w K mg base "follow" 5 ["forest", "setting", "slides"] (spFollow K)) (oLWords : Own P w K mg base "_law_words" 1 ["_law_text"] spLWords) (oBackward : Own P w K mg base "backward" 1 ["slides"] (spBackward K)) :
    FnOk P w K mg base CX0 6 f fd ["_law_deck_here", "_law_forest_here"] (spLSlidesRight K) := by
  refine F.ok scLSlidesRight (fun vs H Q E h => ?_) (fun cdv A outer s H vs Q E hr h => ?_)
  · obtain ⟨d, l, n, x, m, es, rfl, _⟩ := h
    rfl
  · obtain ⟨d, l, n, x, m, es, rfl, hD, hn, hm, isf, hx, q⟩ := h
    refine ⟨_, (pss_cons (ps_set (i := 2) scLSlidesRight.nd rfl (.inl rfl) (pe_own oLSetting (hr.mono (by decide)) (by rfl) (pa_cons (pv 0) (pa_cons (pv 1) pa_nil))))
    (pss_cons (ps_par (by rfl) scLSlidesRight.nd (i := 3) (j := 4) rfl rfl (by decide) rfl rfl (pa_cons (pv 2) (pa_cons (pe_lst pa_nil) pa_nil)) (by rfl))
    (pss_cons (ps_for PassesOwn.never rfl (pi_range1 (by rfl) m_range (pa_cons (pe_own oLDraw (hr.mono (by decide)) (by rfl) (pa_cons (pv 0) (pa_cons pe_int pa_nil))) pa_nil)) (pg_name (i := 5) scLSlidesRight.nd rfl (Or.inl rfl))
    (pss_cons (ps_set (i := 6) scLSlidesRight.nd rfl (.inl rfl) (pe_own oLSlides (hr.mono (by decide)) (by rfl) (pa_cons (pv 1) (pa_cons (pv 3) pa_nil))))
    (pss_one (ps_if (pt_cmpR (neDK K hr.units) (pv 6) (pe_lst pa_nil) (nomark _)) (pss_cons (ps_asg (pe_ix (ixLK K) (pv 6) (pe_own oLDraw (hr.mono (by decide)) (by rfl) (pa_cons (pv 0) (pa_cons (pe_callB (lenK K) (by rfl) m_len (by decide +kernel) (pa_cons (pv 6) pa_nil)) pa_nil))) (fun _ _ => rfl)) (pgTK K (pgs_cons (pg_name (i := 7) scLSlidesRight.nd rfl (Or.inl rfl)) (pgs_cons (pg_name (i := 8) scLSlidesRight.nd rfl (Or.inl rfl)) pgs_nil))))
    (pss_cons (ps_expr (bmK K PySem.F.plainAttrs_list PySem.F.slot_list_append PySem.F.type_list_append mt_append (pv 4) (pa_cons (pe_tup (pa_cons (pv 7) (pa_cons (pv 8) pa_nil))) pa_nil)))
    (pss_one (ps_set (i := 3) scLSlidesRight.nd rfl (.inl rfl) (pe_own oLMoved (hr.mono (by decide)) (by rfl) (pa_cons (pv 3) (pa_cons (pv 7) (pa_cons (pv 8) pa_nil)))))))) pss_nil))))
    (pss_cons (ps_set (i := 9) scLSlidesRight.nd rfl (.inl rfl) (pe_own oSlidesText (hr.mono (by decide)) (by rfl) (pa_cons (pe_callTy (tupleK K) (by rfl) m_tuple (by decide +kernel) (pa_cons (pv 4) pa_nil)) pa_nil)))
    (pss_cons (ps_if (pt_not (pt_val (pe_own oLSame (hr.mono (by decide)) (by rfl) (pa_cons (pe_ownX xParseSlides (hr.mono (by decide)) takes0 (by rfl) (pa_cons (pv 9) pa_nil)) (pa_cons (pe_callTy (tupleK K) (by rfl) m_tuple (by decide +kernel) (pa_cons (pv 4) pa_nil)) pa_nil))))) (pss_one (ps_ret pe_bl)) pss_nil)
    (pss_cons (ps_if (pt_cmpR (neDK K hr.units) (pe_own oFollow (hr.mono (by decide)) (by rfl) (pa_cons (pv 1) (pa_cons (pv 2) (pa_cons (pe_ownX xParseSlides (hr.mono (by decide)) takes0 (by rfl) (pa_cons (pv 9) pa_nil)) pa_nil)))) (pv 3) (nomark _)) (pss_one (ps_ret pe_bl)) pss_nil)
    (pss_cons (ps_setLc (i := 10) (own := [("_law_word", 12)]) (g := (gName 12)) (tt := tYes) (by rfl) scLSlidesRight.nd rfl rfl (sw_true rfl rfl rfl (by decide +kernel)) (piLK K (revLK K (pe_own oLWords (hr.mono (by decide)) (by rfl) (pa_cons (pv 9) pa_nil))))
      (blkOk_by (own := [("_law_word", 12)]) (N := nLSlidesRight) (sc := (defScope sLSlidesRight)) (by decide +kernel))
      (fun _ _ _ _ _ => (pg_name (i := 12) scLSlidesRight.nd rfl (Or.inl rfl))) (fun _ _ _ _ _ => pts_nil)
      (fun _ _ _ _ _ => (joinK K pe_str (revLK K (pe_m1 PySem.F.slot_str_split PySem.F.type_str_split mt_split (pv 12) pe_str)))))
    (pss_cons (ps_set (i := 11) scLSlidesRight.nd rfl (.inl rfl) (pe_own oSlidesText (hr.mono (by decide)) (by rfl) (pa_cons (pe_own oBackward (hr.mono (by decide)) (by rfl) (pa_cons (pe_callTy (tupleK K) (by rfl) m_tuple (by decide +kernel) (pa_cons (pv 4) pa_nil)) pa_nil)) pa_nil)))
    (pss_cons (ps_if (pt_cmpR op_ne (pv 11) (joinK K pe_str (pe_op op_cat (pv 10) (pe_op op_rep (pe_lst (pa_cons pe_str pa_nil)) (pe_callTy call_int1 (by rfl) m_int (by decide +kernel) (pa_cons (pe_cmpR (eqDK K hr.units) (pv 10) (pe_lst pa_nil) (nomark _)) pa_nil))))) (nomark _)) (pss_one (ps_ret pe_bl)) pss_nil)
    (pss_one (ps_ret (pe_cmpR (eqDK K hr.units) (pe_own oFollow (hr.mono (by decide)) (by rfl) (pa_cons (pv 1) (pa_cons (pv 3) (pa_cons (pe_ownX xParseSlides (hr.mono (by decide)) takes0 (by rfl) (pa_cons (pv 11) pa_nil)) pa_nil)))) (pv 2) (nomark _))))))))))))), ?_⟩
    refine ⟨.ref d, rfl, x, rfl, d, l, n, x, m, es, rfl, hD, by omega, hm, isf, hx, fun H1 t S f1 d1 iss et => ?_⟩
    dsimp only [gName]
    refine ⟨.ref t, rfl, Nat.zero_le _, fun L nL => ?_⟩
    have sL := same_upd (o := .lst []) nL
    have eL := same_at (o := .lst []) nL
    have offL := d1.off nL
    have d2 := d1.same sL
    have hx2 := Dp.same sL (Dp.kt (f1.kt hD) hx (only_forD _ _))
    have ht2 : Dp K _ (.ref t) (intsD S) := Dp.ints (SqT.of (sL _ _ et))
    generalize upd H1 L (.lst []) = H2 at sL eL d2 hx2 ht2 ⊢
    refine ⟨_, _, rfl, .ref d, rfl, d, l, _, 10, rfl, by decide, by decide, d2, by omega, fun H3 r r0 r1 f3 d3 => ?_⟩
    have f13 : Fm d l H1 H3 := (Same.fm sL).trans f3
    have eL3 := f3 _ _ offL.1 offL.2 eL
    have hx3 := Dp.kt (f3.kt d2) hx2 (only_forD _ _)
    have ht3 := Dp.kt (f3.kt d2) ht2 (only_intsD _)
    refine ⟨r, rfl, by omega, by omega, for_range (lo := 0) (n := r.toNat) (fun j σ H' => ∃ (y5 y6 y7 y8 : Option V) (r : V) (R : List Int) (zs : List V) (ps : List (Int × Int)), σ = [some (.ref d), some x, some (.ref t), some r, some (.ref L), y5, y6, y7, y8, none, none, none, none] ∧
      Fm d l H1 H' ∧ Deck H' d l (n + 31 + j) ∧ Dp K H' x (forD m es) ∧ Dp K H' (.ref t) (intsD S) ∧ Dp K H' r (intsD R) ∧ IsSet m es R ∧ walk m es S ps = some R ∧ H' L = some (.lst zs) ∧ DpAll K H' zs (ps.map prD) ∧ ps.length ≤ j ∧ ∀ p ∈ ps, sm12 p) ?_ ?_ ?_⟩
    · exact ⟨none, none, none, none, .ref t, S, [], [], rfl, f13, d3, hx3, ht3, ht3, iss, rfl, eL3, .nil, Nat.le_refl _, fun _ h => nomatch h⟩
    · rintro j σ J hj ⟨y5, y6, y7, y8, rr, R, zs, ps, rfl, g, dj, hxj, htj, drj, isr, wk, eLj, aLj, lp, sp⟩
      have hsl := slides_len isr hm
      dsimp only [gName]
      refine ⟨x, rfl, rr, rfl, x, rr, m, es, R, rfl, hm, isf, hxj, drj, isr, fun H4 G gs s4 nG eG dG => ?_⟩
      refine ⟨.ref G, rfl, Nat.zero_le _, fun e2 ne2 => ?_⟩
      have se := same_upd (o := .lst []) ne2
      have s5 := s4.trans se
      refine ⟨.list ((srtP (slidesP m es R)).map prD), .list [], .lst (SqL.of (se _ _ eG)) (DpAll.same se dG), .lst (SqL.of upd_same) .nil, shaped_edges _, shaped_ints [], _, rfl, ?_⟩
      rw [eqv_edges]
      have oG := dj.off nG
      have d4 := dj.same s5
      have eG4 := se _ _ eG
      have dG4 := DpAll.same se dG
      have eL4 := s5 _ _ eLj
      have g4 := g.trans (Same.fm s5)
      have hx4 := Dp.same s5 hxj
      have ht4 := Dp.same s5 htj
      have dr4 := Dp.same s5 drj
      have aL4 := DpAll.same s5 aLj
      generalize upd H4 e2 _ = H5 at d4 eG4 dG4 eL4 g4 hx4 ht4 dr4 aL4 ⊢
      clear se s5 s4 ne2 eG dG dj eLj g hxj htj drj aLj
      refine ite2 (fun h => ?_) (fun h => ?_)
      · have hne : srtP (slidesP m es R) ≠ [] := fun e => by
          rw [decide_eq_true e] at h
          cases h
        have gl : gs.length = (srtP (slidesP m es R)).length := by rw [DpAll.length dG4, List.length_map]
        have hl0 : 0 < (srtP (slidesP m es R)).length := List.length_pos_iff.mpr hne
        rw [srtP_length] at gl hl0
        refine ⟨.ref G, rfl, .ref d, rfl, .ref G, rfl, G, _, rfl, .inl (SqL.of eG4), d, l, _, _, rfl, by omega, by omega, d4, by omega, fun H6 k k0 k1 f6 d6 => ?_⟩
        have hk : k.toNat < gs.length := by omega
        have kt6 : KT K H5 H6 := f6.kt d4
        have hg : gs[k.toNat]? = some gs[k.toNat] := List.getElem?_eq_getElem hk
        obtain ⟨w3, hw3, dw3⟩ := DpAll.get (DpAll.kt kt6 dG4 (only_prs _)) hg
        rw [List.getElem?_map] at hw3
        obtain ⟨⟨u, v⟩, hp3, rfl⟩ := Option.map_eq_some_iff.mp hw3
        have hpin := mem_srtP.mp (List.mem_of_getElem? hp3)
        obtain ⟨hu, hv, ho⟩ := mem_slidesP.mp hpin
        have eL6 := f6 _ _ offL.1 offL.2 eL4
        have zl := DpAll.length aL4
        rw [List.length_map] at zl
        obtain ⟨pt, ept, hpt⟩ := Dp.prI dw3
        refine ⟨G, gs, _, _, rfl, rfl, SqL.of (f6 _ _ oG.1 oG.2 eG4), at_of (j := k.toNat) (by omega) hg, ?_⟩
        rw [ept]
        have kt5 := kt6
        have g6 := g4.trans f6
        have hx6 := Dp.kt kt6 hx4 (only_forD _ _)
        have ht6 := Dp.kt kt6 ht4 (only_intsD _)
        have dr6 := Dp.kt kt6 dr4 (only_intsD _)
        have aL6 := DpAll.kt kt6 aL4 (only_prs _)
        dsimp only
        refine ⟨pt, _, rfl, hpt, rfl, .int u, _, rfl, .int v, _, rfl, rfl, ?_⟩
        refine ⟨.ref L, rfl, .inl ⟨rfl, _, SqL.of eL6⟩, .int u, rfl, .int v, rfl, by show 2 ≤ sizeLine; decide, fun t7 nt7 => ?_⟩
        have s7 := same_upd (o := .tup [V.int u, V.int v]) nt7
        have et7 := same_at (o := .tup [V.int u, V.int v]) nt7
        have eL7 := s7 _ _ eL6
        have d7 := d6.same s7
        have g7 := g6.trans (Same.fm s7)
        have hx7 := Dp.same s7 hx6
        have ht7 := Dp.same s7 ht6
        have dr7 := Dp.same s7 dr6
        have aL7 := DpAll.same s7 aL6
        generalize upd H6 t7 (.tup [V.int u, V.int v]) = H7 at et7 eL7 d7 g7 hx7 ht7 dr7 aL7 ⊢
        refine ⟨L, _, _, rfl, rfl, eL7, small1000 (by omega), ?_⟩
        have k8 : KT K H7 (upd H7 L (.lst (zs ++ [V.ref t7]))) := kt_lst eL7
        have eL8 : upd H7 L (.lst (zs ++ [V.ref t7])) L = some (.lst (zs ++ [V.ref t7])) := upd_same
        have g8 : Fm d l H1 (upd H7 L (.lst (zs ++ [V.ref t7]))) := fm_put g7 nL
        have d8 := d7.put (o := .lst (zs ++ [V.ref t7])) offL.1 offL.2
        have hx8 := Dp.kt k8 hx7 (only_forD _ _)
        have ht8 := Dp.kt k8 ht7 (only_intsD _)
        have dr8 := Dp.kt k8 dr7 (only_intsD _)
        have aL8 : DpAll K (upd H7 L (.lst (zs ++ [V.ref t7]))) (zs ++ [V.ref t7]) ((ps ++ [(u, v)]).map prD) := by
          rw [List.map_append]
          exact DpAll.append (DpAll.kt k8 aL7 (only_prs _)) (.cons (Dp.pr (k8 _ _ (SqT.of et7))) .nil)
        generalize upd H7 L _ = H8 at k8 eL8 g8 d8 hx8 ht8 dr8 aL8 ⊢
        have lR := isr.len
        refine ⟨rr, rfl, .int u, rfl, .int v, rfl, rr, R, u, v, rfl, dr8, by omega, fun H9 t9 s9 et9 => ?_⟩
        refine ⟨_, _, _, _, .ref t9, after R u v, zs ++ [V.ref t7], ps ++ [(u, v)], rfl, g8.trans (Same.fm s9), (d8.same s9).le (by omega), Dp.same s9 hx8, Dp.same s9 ht8, Dp.ints (SqT.of et9), IsSet.slide isf isr hpin, ?_, s9 _ _ eL8, DpAll.same s9 aL8, by rw [List.length_append, List.length_singleton]; omega, fun p hp => ?_⟩
        · rw [walk_app wk, walk_push hpin]
          rfl
        · rcases List.mem_append.mp hp with hp | hp
          · exact sp p hp
          · rw [List.mem_singleton.mp hp]
            have h1 := isr.rng _ hu
            have h2 := (mem_nearL.mp hv).1
            unfold sm12
            simp only
            omega
      · exact ⟨_, _, _, _, rr, R, zs, ps, rfl, g4, d4.le (by omega), hx4, ht4, dr4, isr, wk, eL4, aL4, by omega, sp⟩
    · rintro σ J ⟨y5, y6, y7, y8, rr, R, zs, ps, rfl, g, dj, hxj, htj, drj, isr, wk, eLj, aLj, lp, sp⟩
      have lz := DpAll.length aLj
      rw [List.length_map] at lz
      have lps : ps.length ≤ 9 := by omega
      dsimp only [gName]
      refine ⟨.ref L, rfl, L, zs, rfl, .inl ⟨SqL.of eLj, fun c nc => ?_⟩⟩
      have sc := same_upd (o := .tup zs) nc
      have dc : Dp K (upd J c (.tup zs)) (.ref c) (prsD ps) := .tup (SqT.of upd_same) (DpAll.same sc aLj)
      have eLc := sc _ _ eLj
      have aLc := DpAll.same sc aLj
      have dj1 := dj.same sc
      have g1 := g.trans (Same.fm sc)
      have hx1 := Dp.same sc hxj
      have ht1 := Dp.same sc htj
      have dr1 := Dp.same sc drj
      generalize upd J c (.tup zs) = J1 at dc eLc aLc dj1 g1 hx1 ht1 dr1 ⊢
      refine ⟨.ref c, ps, rfl, dc, sp, by omega, fun J2 s2 => ?_⟩
      obtain ⟨z, ez⟩ : ∃ z, z = txt ">" ps := ⟨_, rfl⟩
      have tt := tz_txt sp
      have lz2 : z.length ≤ 900 := by
        have := txt_len sg_slide sp
        rw [ez]
        omega
      have pz : Pl z := by rw [ez]; exact pl_txt sg_slide sp
      have wz : wordsL z = ps.map (wrd ">") := by rw [ez]; exact words_txt sp
      rw [← ez] at tt ⊢
      have eL2 := s2 _ _ eLc
      have aL2 := DpAll.same s2 aLc
      have T2 : (∀ r : Prop, False → r) := fun _ h => h.elim
      refine ⟨.str z, rfl, .str z, rfl, .inl ⟨z, rfl, lz2, pz, fun J3 r3 dd s3 tz3 dr3 _ => ?_, fun i nz fb => absurd fb (tt.2.2 nz i)⟩⟩
      rw [tz3.uniq tt.1] at dr3
      refine ⟨.ref L, rfl, L, zs, rfl, .inl ⟨SqL.of (s3 _ _ eL2), fun c4 nc4 => ?_⟩⟩
      have s4 := same_upd (o := .tup zs) nc4
      have dc4 : Dp K (upd J3 c4 (.tup zs)) (.ref c4) (prsD ps) := .tup (SqT.of upd_same) (DpAll.same (s3.trans s4) aL2)
      refine ⟨r3, .ref c4, prsD ps, rfl, Dp.same s4 dr3, dc4, sh_prs 1 (by omega), fun J5 s5 => ⟨true, rfl, iteF ?_⟩⟩
      have s15 := (((s2.trans s3).trans s4).trans s5)
      have hx5 := Dp.same s15 hx1
      have ht5 := Dp.same s15 ht1
      have dr5 := Dp.same s15 dr1
      refine ⟨x, rfl, .ref t, rfl, .str z, rfl, .str z, rfl, .inl ⟨z, rfl, lz2, pz, fun J6 r6 dd6 s6 tz6 dr6 _ => ?_, fun i nz fb => absurd fb (tt.2.2 nz i)⟩⟩
      rw [tz6.uniq tt.1] at dr6
      refine ⟨x, .ref t, r6, m, es, S, R, ps, rfl, hm, isf, Dp.same s6 hx5, Dp.same s6 ht5, iss, dr6, wk, fun J7 w7 s7 _ dw7 => ?_⟩
      have s17 := (s15.trans s6).trans s7
      have rf : ∀ R : List Int, PyData.eqv (intsD R) (intsD R) = true := fun R => SeqAt.eqv_refl _ (SeqAt.canLay_of_shaped (shaped_intsD _))
      refine ⟨rr, rfl, intsD R, intsD R, dw7, Dp.same s17 dr1, shaped_intsD _, shaped_intsD _, _, rfl, ?_⟩
      rw [rf]
      refine iteF ?_
      refine ⟨.str z, rfl, z, rfl, lz2, fun J8 W s8 nW eW => ?_⟩
      rw [wz] at eW
      refine ⟨W, _, rfl, SqL.of eW, fun V2 nV => ?_⟩
      rw [← List.map_reverse, ← List.map_reverse]
      have s9 := same_upd (o := .lst ((ps.reverse.map (wrd ">")).map V.str)) nV
      have e9 := same_at (o := .lst ((ps.reverse.map (wrd ">")).map V.str)) nV
      have s19 := (s17.trans s8).trans s9
      generalize upd J8 V2 _ = J9 at s9 e9 s19 ⊢
      refine ⟨V2, rfl, ⟨_, SqL.of e9⟩, fun D nD => ?_⟩
      refine lc_gen (K := K) ps.reverse (fun o => [some (.ref d), some x, some (.ref t), some rr, some (.ref L), y5, y6, y7, y8, some (.str z), none, none, some (.str (wrd ">" o))]) (fun _ => true) (fun o => .str (wrd ">" (o.2, o.1))) nD
        (fun k H' hk s => ⟨_, _, SqL.of (s _ _ e9), List.getElem?_eq_getElem (by rw [List.length_map, List.length_map]; exact hk)⟩) (fun H' s => ⟨_, SqL.of (s _ _ e9), by rw [List.length_map, List.length_map]; exact Nat.le_refl _⟩)
        (fun k o y H' H'' ho s yy => ?_) (fun o => rfl) (fun o _ H' R s hR => hR H' (Same.refl _)) (fun o ho _ H' R s hR => ?_) (fun o => by simp [only]) (by rw [List.length_reverse]; omega) (fun H10 ys s10 eD dy => ?_)
      · obtain ⟨e, hyy⟩ := yy
        have := hyy _ (SqL.of (K := K) (s _ _ e9))
        rw [List.getElem?_map, List.getElem?_map, ho] at this
        cases this
        exact ⟨e, fun Q q => q⟩
      · have so := sp o (List.mem_reverse.mp ho)
        have lw := (wrd_mem sg_slide so).2.2
        refine ⟨⟨_, rfl⟩, .str (wrd ">" o), rfl, ⟨_, rfl⟩, wrd ">" o, _, rfl, rfl, by decide +kernel, by rw [sizeLine_eq]; omega, fun pp npp => ?_⟩
        rw [wrd_split sg_slide so]
        refine ⟨pp, _, rfl, SqL.of upd_same, fun p2 np2 => ?_⟩
        have l1 := (dig_ok so.1).2
        have l2 := (dig_ok so.2).2
        have l3 : (">" : Str).length = 1 := by decide +kernel
        refine ⟨_, p2, [dig o.2, dig o.1], rfl, rfl, .inl (SqL.of upd_same), ?_, ?_⟩
        · rw [l3]
          simp only [List.map_cons, List.map_nil, List.sum_cons, List.sum_nil, List.length_cons, List.length_nil]
          omega
        · exact hR _ _ ((same_upd npp).trans (same_upd np2)) (.str _)
      rw [filt_true, bk_words] at dy
      have ey := DpAll.strs dy
      subst ey
      have spb : ∀ p ∈ bk ps, sm12 p := fun p hp => by
        unfold bk at hp
        obtain ⟨o, ho, rfl⟩ := List.mem_map.mp (List.mem_reverse.mp hp)
        exact ⟨(sp o ho).2, (sp o ho).1⟩
      have lbk : (bk ps).length ≤ 9 := by rw [bk_length]; exact lps
      have s1A := s19.trans s10
      dsimp only [gName]
      have eLA := s1A _ _ eLc
      have aLA := DpAll.same s1A aLc
      refine ⟨.ref L, rfl, L, zs, rfl, .inl ⟨SqL.of eLA, fun c5 nc5 => ?_⟩⟩
      have s11 := same_upd (o := .tup zs) nc5
      have dc5 : Dp K (upd H10 c5 (.tup zs)) (.ref c5) (prsD ps) := .tup (SqT.of upd_same) (DpAll.same s11 aLA)
      refine ⟨.ref c5, ps, rfl, dc5, by omega, fun J12 y s12 dy2 => ⟨y, bk ps, rfl, dy2, spb, by omega, fun J13 s13 => ?_⟩⟩
      obtain ⟨z2, ez2⟩ : ∃ z, z = txt ">" (bk ps) := ⟨_, rfl⟩
      have tt2 := tz_txt spb
      have lz3 : z2.length ≤ 900 := by
        have := txt_len sg_slide spb
        rw [ez2]
        omega
      have pz2 : Pl z2 := by rw [ez2]; exact pl_txt sg_slide spb
      rw [← ez2] at tt2 ⊢
      have sAD := (s11.trans s12).trans s13
      have s1D := s1A.trans sAD
      have eD13 := sAD _ _ eD
      refine ⟨.str z2, rfl, ⟨_, rfl⟩, .ref D, rfl, by show 1 ≤ sizeLine; decide, fun N nN => ?_⟩
      have sN := same_upd (o := .lst [V.str "none"]) nN
      have eN := same_at (o := .lst [V.str "none"]) nN
      refine ⟨.ref D, rfl, Nat.zero_le _, fun Z nZ => ?_⟩
      have sZ := same_upd (o := .lst []) nZ
      have eZ := same_at (o := .lst []) nZ
      have eN2 := sZ _ _ eN
      have eD2 := sZ _ _ (sN _ _ eD13)
      have s1Z := (s1D.trans sN).trans sZ
      generalize upd (upd J13 N (.lst [V.str "none"])) Z (.lst []) = J14 at eZ eN2 eD2 s1Z ⊢
      have plb : ∀ w ∈ (bk ps).map (wrd ">"), Pl w := fun w hw => by
        obtain ⟨p, hp, rfl⟩ := List.mem_map.mp hw
        exact pl_wrd sg_slide (spb p hp)
      refine ⟨.list (((bk ps).map (wrd ">")).map .str), .list (([] : List Str).map .str), .lst (SqL.of eD2) (DpAll.ofStrs _), .lst (SqL.of eZ) .nil, shaped_strs _ plb, shaped_strs [] (fun _ h => nomatch h), ?_⟩
      rw [eqv_strs]
      obtain ⟨b, eb⟩ : ∃ b, b = decide ((bk ps).map (wrd ">") = []) := ⟨_, rfl⟩
      rw [← eb]
      have key : ((bk ps).map (wrd ">")).map V.str ++ (List.replicate (if b = true then (1 : Int) else 0).toNat [V.str "none"]).flatten = (wds ">" (bk ps)).map V.str := by
        rw [eb]
        by_cases h0 : bk ps = []
        · rw [h0]
          rfl
        · rw [decide_eq_false (fun y => h0 (List.map_eq_nil_iff.mp y)), show wds ">" (bk ps) = (bk ps).map (wrd ">") from if_neg h0]
          simp
      have wz2 := wds_ok sg_slide spb
      have lwz : (wds ">" (bk ps)).length ≤ 10 := by have := wz2.2.2; omega
      refine .inr ⟨b, rfl, N, _, [V.str "none"], rfl, rfl, eN2, by cases b <;> decide, by cases b <;> decide, by cases b <;> decide, fun p np => ?_⟩
      have sp9 := same_upd (o := .lst (List.replicate (if b = true then (1 : Int) else 0).toNat [V.str "none"]).flatten) np
      refine ⟨D, p, _, _, rfl, rfl, sp9 _ _ eD2, upd_same, ?_, fun C nC => ?_⟩
      · have : (List.replicate (if b = true then (1 : Int) else 0).toNat [V.str "none"]).flatten.length ≤ 1 := by cases b <;> decide
        exact small5k (by rw [List.length_map, List.length_map]; omega)
      rw [key]
      have sC := same_upd (o := .lst ((wds ">" (bk ps)).map V.str)) nC
      refine ⟨_, C, wds ">" (bk ps), rfl, rfl, .inl (SqL.of upd_same), ?_, ?_⟩
      · have h1 := sum_le (ws := wds ">" (bk ps)) (n := 5) (fun w hw => (wz2.2.1 w hw).2)
        have h3 : (" " : Str).length = 1 := by decide +kernel
        rw [h3]
        omega
      rw [show Txt.join " " (wds ">" (bk ps)) = z2 from ez2.symm]
      refine ⟨rfl, _, rfl, ?_⟩
      rw [decide_eq_true rfl]
      refine iteF ?_
      have s1C := (s1Z.trans sp9).trans sC
      refine ⟨x, rfl, rr, rfl, .str z2, rfl, .str z2, rfl, .inl ⟨z2, rfl, lz3, pz2, fun J15 r15 dd15 s15' tz15 dr15 _ => ?_, fun i nz fb => absurd fb (tt2.2.2 nz i)⟩⟩
      rw [tz15.uniq tt2.1] at dr15
      have s1E := s1C.trans s15'
      refine ⟨x, rr, r15, m, es, R, S, bk ps, rfl, hm, isf, Dp.same s1E hx1, Dp.same s1E dr1, isr, dr15, walk_bk isf iss wk, fun J16 w16 s16 _ dw16 => ?_⟩
      have s1F := s1E.trans s16
      refine ⟨.ref t, rfl, intsD S, intsD S, dw16, Dp.same s1F ht1, shaped_intsD _, shaped_intsD _, ?_⟩
      rw [rf]
      exact q _ (f1.trans (g1.trans (Same.fm s1F))) ((dj1.same s1F).le (by omega))
end
end TL
namespace TL
open PySem PySem.Spec PyProof.Rows L2
section
variable {P : Program} {w : World} {K : PySem.W.Frag} {mg : Str → Option Value} {base : Heap}
/-! ### the law: the small forests -/
theorem for_of {m : Nat} {es : List (Int × Int)} {nm : List Int} {ks : List (Nat × Nat)} (a : AscP es) (r : ∀ p ∈ es, 0 ≤ p.1 ∧ p.1 < p.2 ∧ p.2 < (m : Int)) (n : nm.Perm (rng m)) (u : ks.Pairwise fun a b => a.1 < b.1)
    (d : ∀ q ∈ ks, q.2 < q.1 ∧ q.1 < m) (e : es = ks.map (edgeOf nm)) : IsFor m es := ⟨a, r, nm, ks, ⟨n, u, d⟩, e ▸ List.Perm.refl _⟩
def fq (q : Nat × List (Int × Int)) : PyData := forD q.1 q.2
def gq (q : Nat × List (Int × Int)) : Prop := q.1 ≤ 12 ∧ IsFor q.1 q.2
def small1 : List (Nat × List (Int × Int)) := [(0, []), (1, []), (2, []), (2, [(0, 1)]), (3, [])]
def small2 : List (Nat × List (Int × Int)) := [(3, [(0, 1)]), (3, [(0, 2)]), (3, [(1, 2)])]
def small3 : List (Nat × List (Int × Int)) := [(3, [(0, 1), (0, 2)]), (3, [(0, 1), (1, 2)]), (3, [(0, 2), (1, 2)])]
def small : List (Nat × List (Int × Int)) := small1 ++ small2 ++ small3
theorem small_ok : ∀ q ∈ small, gq q := by
  have p0 : ([] : List Int).Perm (rng 0) := by decide
  have p1 : ([0] : List Int).Perm (rng 1) := by decide
  have p2 : ([0, 1] : List Int).Perm (rng 2) := by decide
  have p3 : ([0, 1, 2] : List Int).Perm (rng 3) := by decide
  have p4 : ([0, 2, 1] : List Int).Perm (rng 3) := by decide
  intro q hq
  simp only [small, small1, small2, small3, List.mem_append, List.mem_cons, List.not_mem_nil, or_false] at hq
  rcases hq with ((rfl | rfl | rfl | rfl | rfl) | rfl | rfl | rfl) | rfl | rfl | rfl
  · exact ⟨by decide, for_of (ks := []) (by unfold AscP; simp [LtP]) (by simp) p0 (by simp) (by simp) rfl⟩
  · exact ⟨by decide, for_of (ks := []) (by unfold AscP; simp [LtP]) (by simp) p1 (by simp) (by simp) rfl⟩
  · exact ⟨by decide, for_of (ks := []) (by unfold AscP; simp [LtP]) (by simp) p2 (by simp) (by simp) rfl⟩
  · exact ⟨by decide, for_of (ks := [(1, 0)]) (by unfold AscP; simp [LtP]) (by simp) p2 (by simp) (by simp) (by decide)⟩
  · exact ⟨by decide, for_of (ks := []) (by unfold AscP; simp [LtP]) (by simp) p3 (by simp) (by simp) rfl⟩
  · exact ⟨by decide, for_of (ks := [(1, 0)]) (by unfold AscP; simp [LtP]) (by simp) p3 (by simp) (by simp) (by decide)⟩
  · exact ⟨by decide, for_of (ks := [(2, 0)]) (by unfold AscP; simp [LtP]) (by simp) p3 (by simp) (by simp) (by decide)⟩
  · exact ⟨by decide, for_of (ks := [(2, 1)]) (by unfold AscP; simp [LtP]) (by simp) p3 (by simp) (by simp) (by decide)⟩
  · exact ⟨by decide, for_of (ks := [(1, 0), (2, 0)]) (by unfold AscP; simp [LtP]) (by simp) p3 (by simp) (by simp) (by decide)⟩
  · exact ⟨by decide, for_of (ks := [(1, 0), (2, 1)]) (by unfold AscP; simp [LtP]) (by simp) p3 (by simp) (by simp) (by decide)⟩
  · exact ⟨by decide, for_of (ks := [(1, 0), (2, 1)]) (by unfold AscP; simp [LtP]) (by simp) p4 (by simp) (by simp) (by decide)⟩
theorem only_fors : ∀ fs : List (Nat × List (Int × Int)), onlyAll (fs.map fq) = true
  | [] => by simp [onlyAll]
  | q :: fs => by
    simp only [List.map_cons, onlyAll, only_fors fs, Bool.and_true]
    exact only_forD _ _
def spLSmall (K : PySem.W.Frag) : Sp := fun vs H Q _ => vs = [] ∧ ∀ (H' : Hp) (D : Addr) (xs : List V), Same H H' → H D = none → H' D = some (.lst xs) → DpAll K H' xs (small.map fq) → Q (.ref D) H'
theorem ok_LSmall {f : Addr} {fd : FuncData} {k : Nat} (F : Fun K "_law_small" "_law_small" sLSmall f fd) : FnOk P w K mg base CX0 (k + 1) f fd [] (spLSmall K) := by
  refine F.ok scLSmall (fun vs H Q E h => ?_) (fun cdv A outer s H vs Q E hr h => ?_)
  · obtain ⟨rfl, _⟩ := h
    rfl
  · obtain ⟨rfl, q⟩ := h
    refine ⟨_, (pss_cons (ps_set (i := 0) scLSmall.nd rfl (.inl rfl) (pe_lst (pa_cons (pe_tup (pa_cons pe_int (pa_cons pe_int pa_nil))) (pa_cons (pe_tup (pa_cons pe_int (pa_cons pe_int pa_nil))) (pa_cons (pe_tup (pa_cons pe_int (pa_cons pe_int pa_nil))) pa_nil)))))
    (pss_cons (ps_set (i := 1) scLSmall.nd rfl (.inl rfl) (pe_op op_cat (pe_lst (pa_cons (pe_tup (pa_cons pe_int (pa_cons (pe_tup pa_nil) pa_nil))) (pa_cons (pe_tup (pa_cons pe_int (pa_cons (pe_tup pa_nil) pa_nil))) (pa_cons (pe_tup (pa_cons pe_int (pa_cons (pe_tup pa_nil) pa_nil))) (pa_cons (pe_tup (pa_cons pe_int (pa_cons (pe_tup (pa_cons (pe_tup (pa_cons pe_int (pa_cons pe_int pa_nil))) pa_nil)) pa_nil))) (pa_cons (pe_tup (pa_cons pe_int (pa_cons (pe_tup pa_nil) pa_nil))) pa_nil)))))) (pe_lc (own := [("_law_pair", 2)]) (g := (gName 2)) (tt := tYes) rfl scLSmall.nd (piLK K (pv 0))
      (blkOk_by (own := [("_law_pair", 2)]) (N := nLSmall) (sc := (defScope sLSmall)) (by decide +kernel))
      (fun _ _ _ _ _ => (pg_name (i := 2) scLSmall.nd rfl (Or.inl rfl))) (fun _ _ _ _ _ => pts_nil)
      (fun _ _ _ _ _ => (pe_tup (pa_cons pe_int (pa_cons (pe_tup (pa_cons (pv 2) pa_nil)) pa_nil)))))))
    (pss_one (ps_ret (pe_op op_cat (pv 1) (pe_lst (pa_cons (pe_tup (pa_cons pe_int (pa_cons (pe_tup (pa_cons (pe_ix (ixLK K) (pv 0) pe_int (fun _ _ => rfl)) (pa_cons (pe_ix (ixLK K) (pv 0) pe_int (fun _ _ => rfl)) pa_nil))) pa_nil))) (pa_cons (pe_tup (pa_cons pe_int (pa_cons (pe_tup (pa_cons (pe_ix (ixLK K) (pv 0) pe_int (fun _ _ => rfl)) (pa_cons (pe_ix (ixLK K) (pv 0) pe_int (fun _ _ => rfl)) pa_nil))) pa_nil))) (pa_cons (pe_tup (pa_cons pe_int (pa_cons (pe_tup (pa_cons (pe_ix (ixLK K) (pv 0) pe_int (fun _ _ => rfl)) (pa_cons (pe_ix (ixLK K) (pv 0) pe_int (fun _ _ => rfl)) pa_nil))) pa_nil))) pa_nil))))))))), ?_⟩
    refine ⟨by show 2 ≤ sizeLine; decide, fun t1 z1 => ?_⟩
    have s1 := same_upd (o := (.tup [V.int 0, V.int 1])) z1
    have dp0 : Dp K (upd H t1 (.tup [V.int 0, V.int 1])) (.ref t1) (prD (0, 1)) := Dp.pr (SqT.of upd_same)
    have S1 := s1
    generalize upd H t1 (.tup [V.int 0, V.int 1]) = H1 at s1 S1 dp0 ⊢
    clear s1
    refine ⟨by show 2 ≤ sizeLine; decide, fun t2 z2 => ?_⟩
    have s2 := same_upd (o := (.tup [V.int 0, V.int 2])) z2
    have dp0' := Dp.same s2 dp0
    have dp1 : Dp K (upd H1 t2 (.tup [V.int 0, V.int 2])) (.ref t2) (prD (0, 2)) := Dp.pr (SqT.of upd_same)
    have S2 := S1.trans s2
    clear dp0
    generalize upd H1 t2 (.tup [V.int 0, V.int 2]) = H2 at s2 S2 dp0' dp1 ⊢
    have dp0 := dp0'
    clear dp0'
    clear s2
    refine ⟨by show 2 ≤ sizeLine; decide, fun t3 z3 => ?_⟩
    have s3 := same_upd (o := (.tup [V.int 1, V.int 2])) z3
    have dp0' := Dp.same s3 dp0
    have dp1' := Dp.same s3 dp1
    have dp2 : Dp K (upd H2 t3 (.tup [V.int 1, V.int 2])) (.ref t3) (prD (1, 2)) := Dp.pr (SqT.of upd_same)
    have S3 := S2.trans s3
    clear dp0 dp1
    generalize upd H2 t3 (.tup [V.int 1, V.int 2]) = H3 at s3 S3 dp0' dp1' dp2 ⊢
    have dp0 := dp0'
    clear dp0'
    have dp1 := dp1'
    clear dp1'
    clear s3
    refine ⟨by show 3 ≤ sizeLine; decide, fun t4 z4 => ?_⟩
    have s4 := same_upd (o := (.lst [V.ref t1, V.ref t2, V.ref t3])) z4
    have dp0' := Dp.same s4 dp0
    have dp1' := Dp.same s4 dp1
    have dp2' := Dp.same s4 dp2
    have eL : upd H3 t4 (.lst [V.ref t1, V.ref t2, V.ref t3]) t4 = some (.lst [V.ref t1, V.ref t2, V.ref t3]) := upd_same
    have S4 := S3.trans s4
    clear dp0 dp1 dp2
    generalize upd H3 t4 (.lst [V.ref t1, V.ref t2, V.ref t3]) = H4 at s4 S4 dp0' dp1' dp2' eL ⊢
    have dp0 := dp0'
    clear dp0'
    have dp1 := dp1'
    clear dp1'
    have dp2 := dp2'
    clear dp2'
    clear s4
    dsimp only [gName]
    refine ⟨Nat.zero_le _, fun t5 z5 => ?_⟩
    have s5 := same_upd (o := (.tup [])) z5
    have dp0' := Dp.same s5 dp0
    have dp1' := Dp.same s5 dp1
    have dp2' := Dp.same s5 dp2
    have eL' := s5 _ _ eL
    have de0 : Dp K (upd H4 t5 (.tup [])) (.ref t5) (prsD []) := .tup (SqT.of upd_same) .nil
    have S5 := S4.trans s5
    clear dp0 dp1 dp2 eL
    generalize upd H4 t5 (.tup []) = H5 at s5 S5 dp0' dp1' dp2' eL' de0 ⊢
    have dp0 := dp0'
    clear dp0'
    have dp1 := dp1'
    clear dp1'
    have dp2 := dp2'
    clear dp2'
    have eL := eL'
    clear eL'
    clear s5
    refine ⟨by show 2 ≤ sizeLine; decide, fun t6 z6 => ?_⟩
    have s6 := same_upd (o := (.tup [V.int 0, V.ref t5])) z6
    have dp0' := Dp.same s6 dp0
    have dp1' := Dp.same s6 dp1
    have dp2' := Dp.same s6 dp2
    have de0' := Dp.same s6 de0
    have eL' := s6 _ _ eL
    have df0 : Dp K (upd H5 t6 (.tup [V.int 0, V.ref t5])) (.ref t6) (forD 0 []) := .tup (SqT.of upd_same) (.cons (.int _) (.cons de0' .nil))
    have S6 := S5.trans s6
    clear dp0 dp1 dp2 de0 eL
    generalize upd H5 t6 (.tup [V.int 0, V.ref t5]) = H6 at s6 S6 dp0' dp1' dp2' de0' eL' df0 ⊢
    have dp0 := dp0'
    clear dp0'
    have dp1 := dp1'
    clear dp1'
    have dp2 := dp2'
    clear dp2'
    have de0 := de0'
    clear de0'
    have eL := eL'
    clear eL'
    clear s6
    refine ⟨Nat.zero_le _, fun t7 z7 => ?_⟩
    have s7 := same_upd (o := (.tup [])) z7
    have dp0' := Dp.same s7 dp0
    have dp1' := Dp.same s7 dp1
    have dp2' := Dp.same s7 dp2
    have de0' := Dp.same s7 de0
    have df0' := Dp.same s7 df0
    have eL' := s7 _ _ eL
    have de1 : Dp K (upd H6 t7 (.tup [])) (.ref t7) (prsD []) := .tup (SqT.of upd_same) .nil
    have S7 := S6.trans s7
    clear dp0 dp1 dp2 de0 df0 eL
    generalize upd H6 t7 (.tup []) = H7 at s7 S7 dp0' dp1' dp2' de0' df0' eL' de1 ⊢
    have dp0 := dp0'
    clear dp0'
    have dp1 := dp1'
    clear dp1'
    have dp2 := dp2'
    clear dp2'
    have de0 := de0'
    clear de0'
    have df0 := df0'
    clear df0'
    have eL := eL'
    clear eL'
    clear s7
    refine ⟨by show 2 ≤ sizeLine; decide, fun t8 z8 => ?_⟩
    have s8 := same_upd (o := (.tup [V.int 1, V.ref t7])) z8
    have dp0' := Dp.same s8 dp0
    have dp1' := Dp.same s8 dp1
    have dp2' := Dp.same s8 dp2
    have de0' := Dp.same s8 de0
    have df0' := Dp.same s8 df0
    have de1' := Dp.same s8 de1
    have eL' := s8 _ _ eL
    have df1 : Dp K (upd H7 t8 (.tup [V.int 1, V.ref t7])) (.ref t8) (forD 1 []) := .tup (SqT.of upd_same) (.cons (.int _) (.cons de1' .nil))
    have S8 := S7.trans s8
    clear dp0 dp1 dp2 de0 df0 de1 eL
    generalize upd H7 t8 (.tup [V.int 1, V.ref t7]) = H8 at s8 S8 dp0' dp1' dp2' de0' df0' de1' eL' df1 ⊢
    have dp0 := dp0'
    clear dp0'
    have dp1 := dp1'
    clear dp1'
    have dp2 := dp2'
    clear dp2'
    have de0 := de0'
    clear de0'
    have df0 := df0'
    clear df0'
    have de1 := de1'
    clear de1'
    have eL := eL'
    clear eL'
    clear s8
    refine ⟨Nat.zero_le _, fun t9 z9 => ?_⟩
    have s9 := same_upd (o := (.tup [])) z9
    have dp0' := Dp.same s9 dp0
    have dp1' := Dp.same s9 dp1
    have dp2' := Dp.same s9 dp2
    have de0' := Dp.same s9 de0
    have df0' := Dp.same s9 df0
    have de1' := Dp.same s9 de1
    have df1' := Dp.same s9 df1
    have eL' := s9 _ _ eL
    have de2 : Dp K (upd H8 t9 (.tup [])) (.ref t9) (prsD []) := .tup (SqT.of upd_same) .nil
    have S9 := S8.trans s9
    clear dp0 dp1 dp2 de0 df0 de1 df1 eL
    generalize upd H8 t9 (.tup []) = H9 at s9 S9 dp0' dp1' dp2' de0' df0' de1' df1' eL' de2 ⊢
    have dp0 := dp0'
    clear dp0'
    have dp1 := dp1'
    clear dp1'
    have dp2 := dp2'
    clear dp2'
    have de0 := de0'
    clear de0'
    have df0 := df0'
    clear df0'
    have de1 := de1'
    clear de1'
    have df1 := df1'
    clear df1'
    have eL := eL'
    clear eL'
    clear s9
    refine ⟨by show 2 ≤ sizeLine; decide, fun t10 z10 => ?_⟩
    have s10 := same_upd (o := (.tup [V.int 2, V.ref t9])) z10
    have dp0' := Dp.same s10 dp0
    have dp1' := Dp.same s10 dp1
    have dp2' := Dp.same s10 dp2
    have de0' := Dp.same s10 de0
    have df0' := Dp.same s10 df0
    have de1' := Dp.same s10 de1
    have df1' := Dp.same s10 df1
    have de2' := Dp.same s10 de2
    have eL' := s10 _ _ eL
    have df2 : Dp K (upd H9 t10 (.tup [V.int 2, V.ref t9])) (.ref t10) (forD 2 []) := .tup (SqT.of upd_same) (.cons (.int _) (.cons de2' .nil))
    have S10 := S9.trans s10
    clear dp0 dp1 dp2 de0 df0 de1 df1 de2 eL
    generalize upd H9 t10 (.tup [V.int 2, V.ref t9]) = H10 at s10 S10 dp0' dp1' dp2' de0' df0' de1' df1' de2' eL' df2 ⊢
    have dp0 := dp0'
    clear dp0'
    have dp1 := dp1'
    clear dp1'
    have dp2 := dp2'
    clear dp2'
    have de0 := de0'
    clear de0'
    have df0 := df0'
    clear df0'
    have de1 := de1'
    clear de1'
    have df1 := df1'
    clear df1'
    have de2 := de2'
    clear de2'
    have eL := eL'
    clear eL'
    clear s10
    refine ⟨by show 2 ≤ sizeLine; decide, fun t11 z11 => ?_⟩
    have s11 := same_upd (o := (.tup [V.int 0, V.int 1])) z11
    have dp0' := Dp.same s11 dp0
    have dp1' := Dp.same s11 dp1
    have dp2' := Dp.same s11 dp2
    have de0' := Dp.same s11 de0
    have df0' := Dp.same s11 df0
    have de1' := Dp.same s11 de1
    have df1' := Dp.same s11 df1
    have de2' := Dp.same s11 de2
    have df2' := Dp.same s11 df2
    have eL' := s11 _ _ eL
    have dq : Dp K (upd H10 t11 (.tup [V.int 0, V.int 1])) (.ref t11) (prD (0, 1)) := Dp.pr (SqT.of upd_same)
    have S11 := S10.trans s11
    clear dp0 dp1 dp2 de0 df0 de1 df1 de2 df2 eL
    generalize upd H10 t11 (.tup [V.int 0, V.int 1]) = H11 at s11 S11 dp0' dp1' dp2' de0' df0' de1' df1' de2' df2' eL' dq ⊢
    have dp0 := dp0'
    clear dp0'
    have dp1 := dp1'
    clear dp1'
    have dp2 := dp2'
    clear dp2'
    have de0 := de0'
    clear de0'
    have df0 := df0'
    clear df0'
    have de1 := de1'
    clear de1'
    have df1 := df1'
    clear df1'
    have de2 := de2'
    clear de2'
    have df2 := df2'
    clear df2'
    have eL := eL'
    clear eL'
    clear s11
    refine ⟨by show 1 ≤ sizeLine; decide, fun t12 z12 => ?_⟩
    have s12 := same_upd (o := (.tup [V.ref t11])) z12
    have dp0' := Dp.same s12 dp0
    have dp1' := Dp.same s12 dp1
    have dp2' := Dp.same s12 dp2
    have de0' := Dp.same s12 de0
    have df0' := Dp.same s12 df0
    have de1' := Dp.same s12 de1
    have df1' := Dp.same s12 df1
    have de2' := Dp.same s12 de2
    have df2' := Dp.same s12 df2
    have dq' := Dp.same s12 dq
    have eL' := s12 _ _ eL
    have de3 : Dp K (upd H11 t12 (.tup [V.ref t11])) (.ref t12) (prsD [(0, 1)]) := .tup (SqT.of upd_same) (.cons dq' .nil)
    have S12 := S11.trans s12
    clear dp0 dp1 dp2 de0 df0 de1 df1 de2 df2 dq eL
    generalize upd H11 t12 (.tup [V.ref t11]) = H12 at s12 S12 dp0' dp1' dp2' de0' df0' de1' df1' de2' df2' dq' eL' de3 ⊢
    have dp0 := dp0'
    clear dp0'
    have dp1 := dp1'
    clear dp1'
    have dp2 := dp2'
    clear dp2'
    have de0 := de0'
    clear de0'
    have df0 := df0'
    clear df0'
    have de1 := de1'
    clear de1'
    have df1 := df1'
    clear df1'
    have de2 := de2'
    clear de2'
    have df2 := df2'
    clear df2'
    have dq := dq'
    clear dq'
    have eL := eL'
    clear eL'
    clear s12
    refine ⟨by show 2 ≤ sizeLine; decide, fun t13 z13 => ?_⟩
    have s13 := same_upd (o := (.tup [V.int 2, V.ref t12])) z13
    have dp0' := Dp.same s13 dp0
    have dp1' := Dp.same s13 dp1
    have dp2' := Dp.same s13 dp2
    have de0' := Dp.same s13 de0
    have df0' := Dp.same s13 df0
    have de1' := Dp.same s13 de1
    have df1' := Dp.same s13 df1
    have de2' := Dp.same s13 de2
    have df2' := Dp.same s13 df2
    have dq' := Dp.same s13 dq
    have de3' := Dp.same s13 de3
    have eL' := s13 _ _ eL
    have df3 : Dp K (upd H12 t13 (.tup [V.int 2, V.ref t12])) (.ref t13) (forD 2 [(0, 1)]) := .tup (SqT.of upd_same) (.cons (.int _) (.cons de3' .nil))
    have S13 := S12.trans s13
    clear dp0 dp1 dp2 de0 df0 de1 df1 de2 df2 dq de3 eL
    generalize upd H12 t13 (.tup [V.int 2, V.ref t12]) = H13 at s13 S13 dp0' dp1' dp2' de0' df0' de1' df1' de2' df2' dq' de3' eL' df3 ⊢
    have dp0 := dp0'
    clear dp0'
    have dp1 := dp1'
    clear dp1'
    have dp2 := dp2'
    clear dp2'
    have de0 := de0'
    clear de0'
    have df0 := df0'
    clear df0'
    have de1 := de1'
    clear de1'
    have df1 := df1'
    clear df1'
    have de2 := de2'
    clear de2'
    have df2 := df2'
    clear df2'
    have dq := dq'
    clear dq'
    have de3 := de3'
    clear de3'
    have eL := eL'
    clear eL'
    clear s13
    refine ⟨Nat.zero_le _, fun t14 z14 => ?_⟩
    have s14 := same_upd (o := (.tup [])) z14
    have dp0' := Dp.same s14 dp0
    have dp1' := Dp.same s14 dp1
    have dp2' := Dp.same s14 dp2
    have de0' := Dp.same s14 de0
    have df0' := Dp.same s14 df0
    have de1' := Dp.same s14 de1
    have df1' := Dp.same s14 df1
    have de2' := Dp.same s14 de2
    have df2' := Dp.same s14 df2
    have dq' := Dp.same s14 dq
    have de3' := Dp.same s14 de3
    have df3' := Dp.same s14 df3
    have eL' := s14 _ _ eL
    have de4 : Dp K (upd H13 t14 (.tup [])) (.ref t14) (prsD []) := .tup (SqT.of upd_same) .nil
    have S14 := S13.trans s14
    clear dp0 dp1 dp2 de0 df0 de1 df1 de2 df2 dq de3 df3 eL
    generalize upd H13 t14 (.tup []) = H14 at s14 S14 dp0' dp1' dp2' de0' df0' de1' df1' de2' df2' dq' de3' df3' eL' de4 ⊢
    have dp0 := dp0'
    clear dp0'
    have dp1 := dp1'
    clear dp1'
    have dp2 := dp2'
    clear dp2'
    have de0 := de0'
    clear de0'
    have df0 := df0'
    clear df0'
    have de1 := de1'
    clear de1'
    have df1 := df1'
    clear df1'
    have de2 := de2'
    clear de2'
    have df2 := df2'
    clear df2'
    have dq := dq'
    clear dq'
    have de3 := de3'
    clear de3'
    have df3 := df3'
    clear df3'
    have eL := eL'
    clear eL'
    clear s14
    refine ⟨by show 2 ≤ sizeLine; decide, fun t15 z15 => ?_⟩
    have s15 := same_upd (o := (.tup [V.int 3, V.ref t14])) z15
    have dp0' := Dp.same s15 dp0
    have dp1' := Dp.same s15 dp1
    have dp2' := Dp.same s15 dp2
    have de0' := Dp.same s15 de0
    have df0' := Dp.same s15 df0
    have de1' := Dp.same s15 de1
    have df1' := Dp.same s15 df1
    have de2' := Dp.same s15 de2
    have df2' := Dp.same s15 df2
    have dq' := Dp.same s15 dq
    have de3' := Dp.same s15 de3
    have df3' := Dp.same s15 df3
    have de4' := Dp.same s15 de4
    have eL' := s15 _ _ eL
    have df4 : Dp K (upd H14 t15 (.tup [V.int 3, V.ref t14])) (.ref t15) (forD 3 []) := .tup (SqT.of upd_same) (.cons (.int _) (.cons de4' .nil))
    have S15 := S14.trans s15
    clear dp0 dp1 dp2 de0 df0 de1 df1 de2 df2 dq de3 df3 de4 eL
    generalize upd H14 t15 (.tup [V.int 3, V.ref t14]) = H15 at s15 S15 dp0' dp1' dp2' de0' df0' de1' df1' de2' df2' dq' de3' df3' de4' eL' df4 ⊢
    have dp0 := dp0'
    clear dp0'
    have dp1 := dp1'
    clear dp1'
    have dp2 := dp2'
    clear dp2'
    have de0 := de0'
    clear de0'
    have df0 := df0'
    clear df0'
    have de1 := de1'
    clear de1'
    have df1 := df1'
    clear df1'
    have de2 := de2'
    clear de2'
    have df2 := df2'
    clear df2'
    have dq := dq'
    clear dq'
    have de3 := de3'
    clear de3'
    have df3 := df3'
    clear df3'
    have de4 := de4'
    clear de4'
    have eL := eL'
    clear eL'
    clear s15
    refine ⟨by show 5 ≤ sizeLine; decide, fun t16 z16 => ?_⟩
    have s16 := same_upd (o := (.lst [V.ref t6, V.ref t8, V.ref t10, V.ref t13, V.ref t15])) z16
    have dp0' := Dp.same s16 dp0
    have dp1' := Dp.same s16 dp1
    have dp2' := Dp.same s16 dp2
    have de0' := Dp.same s16 de0
    have df0' := Dp.same s16 df0
    have de1' := Dp.same s16 de1
    have df1' := Dp.same s16 df1
    have de2' := Dp.same s16 de2
    have df2' := Dp.same s16 df2
    have dq' := Dp.same s16 dq
    have de3' := Dp.same s16 de3
    have df3' := Dp.same s16 df3
    have de4' := Dp.same s16 de4
    have df4' := Dp.same s16 df4
    have eL' := s16 _ _ eL
    have eA : upd H15 t16 (.lst [V.ref t6, V.ref t8, V.ref t10, V.ref t13, V.ref t15]) t16 = some (.lst [V.ref t6, V.ref t8, V.ref t10, V.ref t13, V.ref t15]) := upd_same
    have S16 := S15.trans s16
    clear dp0 dp1 dp2 de0 df0 de1 df1 de2 df2 dq de3 df3 de4 df4 eL
    generalize upd H15 t16 (.lst [V.ref t6, V.ref t8, V.ref t10, V.ref t13, V.ref t15]) = H16 at s16 S16 dp0' dp1' dp2' de0' df0' de1' df1' de2' df2' dq' de3' df3' de4' df4' eL' eA ⊢
    have dp0 := dp0'
    clear dp0'
    have dp1 := dp1'
    clear dp1'
    have dp2 := dp2'
    clear dp2'
    have de0 := de0'
    clear de0'
    have df0 := df0'
    clear df0'
    have de1 := de1'
    clear de1'
    have df1 := df1'
    clear df1'
    have de2 := de2'
    clear de2'
    have df2 := df2'
    clear df2'
    have dq := dq'
    clear dq'
    have de3 := de3'
    clear de3'
    have df3 := df3'
    clear df3'
    have de4 := de4'
    clear de4'
    have df4 := df4'
    clear df4'
    have eL := eL'
    clear eL'
    clear s16
    refine ⟨.ref t4, rfl, t4, rfl, ⟨_, SqL.of eL⟩, fun D nD => ?_⟩
    have ns1 := eL
    refine lc_gen (K := K) [(V.ref t1, ((0 : Int), (1 : Int))), (V.ref t2, (0, 2)), (V.ref t3, (1, 2))] (fun o => [some (.ref t4), none, some o.1]) (fun _ => true) (fun o => forD 3 [o.2]) nD
      (fun k H' hk s => ⟨_, _, SqL.of (s _ _ eL), List.getElem?_eq_getElem (by exact hk)⟩) (fun H' s => ⟨_, SqL.of (s _ _ eL), Nat.le_refl _⟩)
      (fun k o y H' H'' ho s yy => ?_) (fun o => rfl) (fun o _ H' R s hR => hR H' (Same.refl _)) (fun o ho _ H' R s hR => ?_) (fun o => only_forD _ _) (by show 3 ≤ 1000; decide) (fun HD ys sD eD dy => ?_)
    · obtain ⟨e, hyy⟩ := yy
      have := hyy _ (SqL.of (K := K) (s _ _ eL))
      have e2 : [V.ref t1, V.ref t2, V.ref t3][k]? = some o.1 := by
        have := congrArg (Option.map Prod.fst) ho
        rw [← List.getElem?_map] at this
        exact this
      rw [e2] at this
      cases this
      exact ⟨e, fun Q q => q⟩
    · have d0 : Dp K H' o.1 (prD o.2) := by
        simp only [List.mem_cons, List.not_mem_nil, or_false] at ho
        rcases ho with rfl | rfl | rfl
        · exact Dp.same s dp0
        · exact Dp.same s dp1
        · exact Dp.same s dp2
      refine ⟨o.1, rfl, by show 1 ≤ sizeLine; decide, fun a na => ?_⟩
      have sa := same_upd (o := .tup [o.1]) na
      have ea : Dp K (upd H' a (.tup [o.1])) (.ref a) (prsD [o.2]) := .tup (SqT.of upd_same) (.cons (Dp.same sa d0) .nil)
      refine ⟨by show 2 ≤ sizeLine; decide, fun b nb => ?_⟩
      have sb := same_upd (o := .tup [V.int 3, V.ref a]) nb
      exact hR _ _ (sa.trans sb) (.tup (SqT.of upd_same) (.cons (.int _) (.cons (Dp.same sb ea) .nil)))
    rw [filt_true] at dy
    replace dp0 := Dp.same sD dp0
    replace dp1 := Dp.same sD dp1
    replace dp2 := Dp.same sD dp2
    replace de0 := Dp.same sD de0
    replace df0 := Dp.same sD df0
    replace de1 := Dp.same sD de1
    replace df1 := Dp.same sD df1
    replace de2 := Dp.same sD de2
    replace df2 := Dp.same sD df2
    replace dq := Dp.same sD dq
    replace de3 := Dp.same sD de3
    replace df3 := Dp.same sD df3
    replace de4 := Dp.same sD de4
    replace df4 := Dp.same sD df4
    replace eL := sD _ _ eL
    replace eA := sD _ _ eA
    have SD := S16.trans sD
    have ly := DpAll.length dy
    have dA : DpAll K HD [V.ref t6, V.ref t8, V.ref t10, V.ref t13, V.ref t15] (small1.map fq) := (.cons df0 (.cons df1 (.cons df2 (.cons df3 (.cons df4 .nil)))))
    refine ⟨_, D, _, _, rfl, rfl, eA, eD, small5k (by rw [ly]; show 5 + 3 ≤ 5000; decide), fun B nB => ?_⟩
    have dB : DpAll K HD ([V.ref t6, V.ref t8, V.ref t10, V.ref t13, V.ref t15] ++ ys) ((small1 ++ small2).map fq) := by
      rw [List.map_append]
      exact DpAll.append dA dy
    have lB := DpAll.length dB
    generalize [V.ref t6, V.ref t8, V.ref t10, V.ref t13, V.ref t15] ++ ys = bs at dB lB ⊢
    have sB := same_upd (o := .lst bs) nB
    have eB := same_at (o := .lst bs) nB
    replace dB := DpAll.same sB dB
    replace dp0 := Dp.same sB dp0
    replace dp1 := Dp.same sB dp1
    replace dp2 := Dp.same sB dp2
    replace eL := sB _ _ eL
    replace SD := SD.trans sB
    generalize upd HD B (.lst bs) = HB at eB dB dp0 dp1 dp2 eL SD ⊢
    dsimp only [gName]
    refine ⟨.ref B, rfl, .ref t4, rfl, t4, _, 0, _, rfl, rfl, SqL.of eL, atI_nat (j := 0) rfl, .ref t4, rfl, t4, _, 1, _, rfl, rfl, SqL.of eL, atI_nat (j := 1) rfl, by show 2 ≤ sizeLine; decide, fun t17 z17 => ?_⟩
    have s17 := same_upd (o := (.tup [V.ref t1, V.ref t2])) z17
    have dp0' := Dp.same s17 dp0
    have dp1' := Dp.same s17 dp1
    have dp2' := Dp.same s17 dp2
    have eL' := s17 _ _ eL
    have eB' := s17 _ _ eB
    have dB' := DpAll.same s17 dB
    have dg0 : Dp K (upd HB t17 (.tup [V.ref t1, V.ref t2])) (.ref t17) (prsD [(0, 1), (0, 2)]) := .tup (SqT.of upd_same) (.cons dp0' (.cons dp1' .nil))
    have S17 := SD.trans s17
    clear dp0 dp1 dp2 eL eB
    clear dB
    generalize upd HB t17 (.tup [V.ref t1, V.ref t2]) = H17 at s17 S17 dp0' dp1' dp2' eL' eB' dg0 dB' ⊢
    have dp0 := dp0'
    clear dp0'
    have dp1 := dp1'
    clear dp1'
    have dp2 := dp2'
    clear dp2'
    have eL := eL'
    clear eL'
    have eB := eB'
    clear eB'
    have dB := dB'
    clear dB'
    clear s17
    refine ⟨by show 2 ≤ sizeLine; decide, fun t18 z18 => ?_⟩
    have s18 := same_upd (o := (.tup [V.int 3, V.ref t17])) z18
    have dp0' := Dp.same s18 dp0
    have dp1' := Dp.same s18 dp1
    have dp2' := Dp.same s18 dp2
    have dg0' := Dp.same s18 dg0
    have eL' := s18 _ _ eL
    have eB' := s18 _ _ eB
    have dB' := DpAll.same s18 dB
    have dh0 : Dp K (upd H17 t18 (.tup [V.int 3, V.ref t17])) (.ref t18) (forD 3 [(0, 1), (0, 2)]) := .tup (SqT.of upd_same) (.cons (.int _) (.cons dg0' .nil))
    have S18 := S17.trans s18
    clear dp0 dp1 dp2 dg0 eL eB
    clear dB
    generalize upd H17 t18 (.tup [V.int 3, V.ref t17]) = H18 at s18 S18 dp0' dp1' dp2' dg0' eL' eB' dh0 dB' ⊢
    have dp0 := dp0'
    clear dp0'
    have dp1 := dp1'
    clear dp1'
    have dp2 := dp2'
    clear dp2'
    have dg0 := dg0'
    clear dg0'
    have eL := eL'
    clear eL'
    have eB := eB'
    clear eB'
    have dB := dB'
    clear dB'
    clear s18
    refine ⟨.ref t4, rfl, t4, _, 0, _, rfl, rfl, SqL.of eL, atI_nat (j := 0) rfl, .ref t4, rfl, t4, _, 2, _, rfl, rfl, SqL.of eL, atI_nat (j := 2) rfl, by show 2 ≤ sizeLine; decide, fun t19 z19 => ?_⟩
    have s19 := same_upd (o := (.tup [V.ref t1, V.ref t3])) z19
    have dp0' := Dp.same s19 dp0
    have dp1' := Dp.same s19 dp1
    have dp2' := Dp.same s19 dp2
    have dg0' := Dp.same s19 dg0
    have dh0' := Dp.same s19 dh0
    have eL' := s19 _ _ eL
    have eB' := s19 _ _ eB
    have dB' := DpAll.same s19 dB
    have dg1 : Dp K (upd H18 t19 (.tup [V.ref t1, V.ref t3])) (.ref t19) (prsD [(0, 1), (1, 2)]) := .tup (SqT.of upd_same) (.cons dp0' (.cons dp2' .nil))
    have S19 := S18.trans s19
    clear dp0 dp1 dp2 dg0 dh0 eL eB
    clear dB
    generalize upd H18 t19 (.tup [V.ref t1, V.ref t3]) = H19 at s19 S19 dp0' dp1' dp2' dg0' dh0' eL' eB' dg1 dB' ⊢
    have dp0 := dp0'
    clear dp0'
    have dp1 := dp1'
    clear dp1'
    have dp2 := dp2'
    clear dp2'
    have dg0 := dg0'
    clear dg0'
    have dh0 := dh0'
    clear dh0'
    have eL := eL'
    clear eL'
    have eB := eB'
    clear eB'
    have dB := dB'
    clear dB'
    clear s19
    refine ⟨by show 2 ≤ sizeLine; decide, fun t20 z20 => ?_⟩
    have s20 := same_upd (o := (.tup [V.int 3, V.ref t19])) z20
    have dp0' := Dp.same s20 dp0
    have dp1' := Dp.same s20 dp1
    have dp2' := Dp.same s20 dp2
    have dg0' := Dp.same s20 dg0
    have dh0' := Dp.same s20 dh0
    have dg1' := Dp.same s20 dg1
    have eL' := s20 _ _ eL
    have eB' := s20 _ _ eB
    have dB' := DpAll.same s20 dB
    have dh1 : Dp K (upd H19 t20 (.tup [V.int 3, V.ref t19])) (.ref t20) (forD 3 [(0, 1), (1, 2)]) := .tup (SqT.of upd_same) (.cons (.int _) (.cons dg1' .nil))
    have S20 := S19.trans s20
    clear dp0 dp1 dp2 dg0 dh0 dg1 eL eB
    clear dB
    generalize upd H19 t20 (.tup [V.int 3, V.ref t19]) = H20 at s20 S20 dp0' dp1' dp2' dg0' dh0' dg1' eL' eB' dh1 dB' ⊢
    have dp0 := dp0'
    clear dp0'
    have dp1 := dp1'
    clear dp1'
    have dp2 := dp2'
    clear dp2'
    have dg0 := dg0'
    clear dg0'
    have dh0 := dh0'
    clear dh0'
    have dg1 := dg1'
    clear dg1'
    have eL := eL'
    clear eL'
    have eB := eB'
    clear eB'
    have dB := dB'
    clear dB'
    clear s20
    refine ⟨.ref t4, rfl, t4, _, 1, _, rfl, rfl, SqL.of eL, atI_nat (j := 1) rfl, .ref t4, rfl, t4, _, 2, _, rfl, rfl, SqL.of eL, atI_nat (j := 2) rfl, by show 2 ≤ sizeLine; decide, fun t21 z21 => ?_⟩
    have s21 := same_upd (o := (.tup [V.ref t2, V.ref t3])) z21
    have dp0' := Dp.same s21 dp0
    have dp1' := Dp.same s21 dp1
    have dp2' := Dp.same s21 dp2
    have dg0' := Dp.same s21 dg0
    have dh0' := Dp.same s21 dh0
    have dg1' := Dp.same s21 dg1
    have dh1' := Dp.same s21 dh1
    have eL' := s21 _ _ eL
    have eB' := s21 _ _ eB
    have dB' := DpAll.same s21 dB
    have dg2 : Dp K (upd H20 t21 (.tup [V.ref t2, V.ref t3])) (.ref t21) (prsD [(0, 2), (1, 2)]) := .tup (SqT.of upd_same) (.cons dp1' (.cons dp2' .nil))
    have S21 := S20.trans s21
    clear dp0 dp1 dp2 dg0 dh0 dg1 dh1 eL eB
    clear dB
    generalize upd H20 t21 (.tup [V.ref t2, V.ref t3]) = H21 at s21 S21 dp0' dp1' dp2' dg0' dh0' dg1' dh1' eL' eB' dg2 dB' ⊢
    have dp0 := dp0'
    clear dp0'
    have dp1 := dp1'
    clear dp1'
    have dp2 := dp2'
    clear dp2'
    have dg0 := dg0'
    clear dg0'
    have dh0 := dh0'
    clear dh0'
    have dg1 := dg1'
    clear dg1'
    have dh1 := dh1'
    clear dh1'
    have eL := eL'
    clear eL'
    have eB := eB'
    clear eB'
    have dB := dB'
    clear dB'
    clear s21
    refine ⟨by show 2 ≤ sizeLine; decide, fun t22 z22 => ?_⟩
    have s22 := same_upd (o := (.tup [V.int 3, V.ref t21])) z22
    have dp0' := Dp.same s22 dp0
    have dp1' := Dp.same s22 dp1
    have dp2' := Dp.same s22 dp2
    have dg0' := Dp.same s22 dg0
    have dh0' := Dp.same s22 dh0
    have dg1' := Dp.same s22 dg1
    have dh1' := Dp.same s22 dh1
    have dg2' := Dp.same s22 dg2
    have eL' := s22 _ _ eL
    have eB' := s22 _ _ eB
    have dB' := DpAll.same s22 dB
    have dh2 : Dp K (upd H21 t22 (.tup [V.int 3, V.ref t21])) (.ref t22) (forD 3 [(0, 2), (1, 2)]) := .tup (SqT.of upd_same) (.cons (.int _) (.cons dg2' .nil))
    have S22 := S21.trans s22
    clear dp0 dp1 dp2 dg0 dh0 dg1 dh1 dg2 eL eB
    clear dB
    generalize upd H21 t22 (.tup [V.int 3, V.ref t21]) = H22 at s22 S22 dp0' dp1' dp2' dg0' dh0' dg1' dh1' dg2' eL' eB' dh2 dB' ⊢
    have dp0 := dp0'
    clear dp0'
    have dp1 := dp1'
    clear dp1'
    have dp2 := dp2'
    clear dp2'
    have dg0 := dg0'
    clear dg0'
    have dh0 := dh0'
    clear dh0'
    have dg1 := dg1'
    clear dg1'
    have dh1 := dh1'
    clear dh1'
    have dg2 := dg2'
    clear dg2'
    have eL := eL'
    clear eL'
    have eB := eB'
    clear eB'
    have dB := dB'
    clear dB'
    clear s22
    refine ⟨by show 3 ≤ sizeLine; decide, fun t23 z23 => ?_⟩
    have s23 := same_upd (o := (.lst [V.ref t18, V.ref t20, V.ref t22])) z23
    have dp0' := Dp.same s23 dp0
    have dp1' := Dp.same s23 dp1
    have dp2' := Dp.same s23 dp2
    have dg0' := Dp.same s23 dg0
    have dh0' := Dp.same s23 dh0
    have dg1' := Dp.same s23 dg1
    have dh1' := Dp.same s23 dh1
    have dg2' := Dp.same s23 dg2
    have dh2' := Dp.same s23 dh2
    have eL' := s23 _ _ eL
    have eB' := s23 _ _ eB
    have dB' := DpAll.same s23 dB
    have eC : upd H22 t23 (.lst [V.ref t18, V.ref t20, V.ref t22]) t23 = some (.lst [V.ref t18, V.ref t20, V.ref t22]) := upd_same
    have S23 := S22.trans s23
    clear dp0 dp1 dp2 dg0 dh0 dg1 dh1 dg2 dh2 eL eB
    clear dB
    generalize upd H22 t23 (.lst [V.ref t18, V.ref t20, V.ref t22]) = H23 at s23 S23 dp0' dp1' dp2' dg0' dh0' dg1' dh1' dg2' dh2' eL' eB' eC dB' ⊢
    have dp0 := dp0'
    clear dp0'
    have dp1 := dp1'
    clear dp1'
    have dp2 := dp2'
    clear dp2'
    have dg0 := dg0'
    clear dg0'
    have dh0 := dh0'
    clear dh0'
    have dg1 := dg1'
    clear dg1'
    have dh1 := dh1'
    clear dh1'
    have dg2 := dg2'
    clear dg2'
    have dh2 := dh2'
    clear dh2'
    have eL := eL'
    clear eL'
    have eB := eB'
    clear eB'
    have dB := dB'
    clear dB'
    clear s23
    refine ⟨B, t23, bs, _, rfl, rfl, eB, eC, small5k (by rw [lB]; show 8 + 3 ≤ 5000; decide), fun R nR => ?_⟩
    have sR := same_upd (o := .lst (bs ++ [V.ref t18, V.ref t20, V.ref t22])) nR
    refine q _ R _ (S23.trans sR) (S23.free nR) upd_same ?_
    have dC : DpAll K H23 [V.ref t18, V.ref t20, V.ref t22] (small3.map fq) := .cons dh0 (.cons dh1 (.cons dh2 .nil))
    unfold small
    rw [List.map_append (l₂ := small3)]
    exact DpAll.same sR (DpAll.append dB dC)
/-! ### the law -/
theorem sh_for {m : Nat} {es : List (Int × Int)} (h : es.length ≤ 1000) : shS 3 (forD m es) := by
  refine ⟨by show 2 ≤ 1000; decide, fun d hd => ?_⟩
  simp only [List.mem_cons, List.not_mem_nil, or_false] at hd
  rcases hd with rfl | rfl
  · exact sh_int _ _
  · exact sh_prs 0 h
theorem gq.sm {q : Nat × List (Int × Int)} (h : gq q) : (∀ p ∈ q.2, sm12 p) ∧ q.2.length ≤ 12 := by
  refine ⟨fun p hp => ?_, Nat.le_trans h.2.count h.1⟩
  have := h.2.rng p hp
  have := h.1
  unfold sm12
  omega
def spLaw (K : PySem.W.Frag) : Sp := fun vs H Q _ => ∃ (a : Addr) (ns : List Int), vs = [.ref a] ∧ SqL K H a (ns.map V.int) ∧ ns.length ≤ 63 ∧ ∀ H', Q (.bl true) H'
theorem ok_Law {f : Addr} {fd : FuncData} {cBadText : Addr} (F : Fun K "law" "law" sLaw f fd) (m_range : mg "range" = none) (m_tuple : mg "tuple" = none) (m_len : mg "len" = none)
    (oLDeck : Own P w K mg base "_law_deck" 1 ["_law_script"] (spLDeck K)) (oLDraw : Own P w K mg base "_law_draw" 1 ["_law_deck_here", "_law_many"] spLDraw)
    (oLSmall : Own P w K mg base "_law_small" 1 [] (spLSmall K)) (oLForest : Own P w K mg base "_law_forest" 2 ["_law_deck_here", "_law_most"] (spLForest K))
    (oLSame : Own P w K mg base "_law_same" 5 ["_law_found", "_law_due"] (spLSame K 4)) (oForestText : Own P w K mg base "forest_text" 2 ["forest"] (spForestText K)) (oSlidesText : Own P w K mg base "slides_text" 2 ["slides"] (spSlidesText K))
    (xParseForest : OwnX P w K mg base "parse_forest" 5 ["text"] (spParseForest K cBadText)) (oLSlidesRight : Own P w K mg base "_law_slides_right" 6 ["_law_deck_here", "_law_forest_here"] (spLSlidesRight K))
    (oLBesideRight : Own P w K mg base "_law_beside_right" 3 ["_law_first", "_law_second"] (spLBesideRight K)) (oLAcceptedRight : Own P w K mg base "_law_accepted_right" 6 ["_law_text"] (spLAcceptedRight K))
    (oLBent : Own P w K mg base "_law_bent" 2 ["_law_deck_here", "_law_text"] spLBent) :
    FnG P w K mg base 7 f fd ["_law_script"] (spLaw K) := by
  refine okG F scLaw (fun vs H Q E h => ?_) (fun cdv A outer s H vs Q E hr gd h => ?_)
  · obtain ⟨a, ns, rfl, _⟩ := h
    rfl
  · obtain ⟨a, ns, rfl, hS, hlen, q⟩ := h
    refine ⟨_, (pss_cons (ps_set (i := 1) scLaw.nd rfl (.inr rfl) (pe_own oLDeck (hr.mono (by decide)) (by rfl) (pa_cons (pv 0) pa_nil)))
    (pss_cons (ps_set (i := 2) scLaw.nd rfl (.inl rfl) (pe_op op_cat (pe_own0 oLSmall (hr.mono (by decide)) (by rfl)) (pe_lc (own := [("_law_k", 4)]) (g := (gName 4)) (tt := tYes) rfl scLaw.nd (pi_range1 (by rfl) m_range (pa_cons pe_int pa_nil))
      (blkOk_by (own := [("_law_k", 4)]) (N := nLaw) (sc := (defScope sLaw)) (by decide +kernel))
      (fun _ _ _ _ _ => (pg_name (i := 4) scLaw.nd rfl (Or.inl rfl))) (fun _ _ _ _ _ => pts_nil)
      (fun _ _ _ _ _ => (pe_own oLForest (hr.mono (by decide)) (by rfl) (pa_cons (pv 1) (pa_cons pe_int pa_nil)))))))
    (pss_cons (ps_for PassesOwn.never rfl (piLK K (pv 2)) (pg_name (i := 3) scLaw.nd rfl (Or.inl rfl))
    (pss_one (ps_if (PW.pt (pw_or (pt_not (pt_val (pe_own oLSame (hr.mono (by decide)) (by rfl) (pa_cons (pe_ownX xParseForest (hr.mono (by decide)) takes0 (by rfl) (pa_cons (pe_own oForestText (hr.mono (by decide)) (by rfl) (pa_cons (pv 3) pa_nil)) pa_nil)) (pa_cons (pv 3) pa_nil))))) (pw_or1 (pt_not (pt_val (pe_own oLSlidesRight (hr.mono (by decide)) (by rfl) (pa_cons (pv 1) (pa_cons (pv 3) pa_nil)))))))) (pss_one (ps_ret pe_bl)) pss_nil)))
    (pss_cons (ps_for PassesOwn.never rfl (pi_range1 (by rfl) m_range (pa_cons pe_int pa_nil)) (pg_name (i := 4) scLaw.nd rfl (Or.inl rfl))
    (pss_cons (ps_set (i := 5) scLaw.nd rfl (.inl rfl) (pe_own oLForest (hr.mono (by decide)) (by rfl) (pa_cons (pv 1) (pa_cons pe_int pa_nil))))
    (pss_one (ps_if (pt_not (pt_val (pe_own oLBesideRight (hr.mono (by decide)) (by rfl) (pa_cons (pv 5) (pa_cons (pe_own oLForest (hr.mono (by decide)) (by rfl) (pa_cons (pv 1) (pa_cons (pe_op op_sub pe_int (pe_ix (ixTK K) (pv 5) pe_int (fun _ _ => rfl))) pa_nil))) pa_nil))))) (pss_one (ps_ret pe_bl)) pss_nil))))
    (pss_cons (ps_for PassesOwn.never rfl (pi_range1 (by rfl) m_range (pa_cons pe_int pa_nil)) (pg_name (i := 4) scLaw.nd rfl (Or.inl rfl))
    (pss_cons (ps_set (i := 6) scLaw.nd rfl (.inl rfl) (pe_own oForestText (hr.mono (by decide)) (by rfl) (pa_cons (pe_ix (ixLK K) (pv 2) (pe_own oLDraw (hr.mono (by decide)) (by rfl) (pa_cons (pv 1) (pa_cons (pe_callB (lenK K) (by rfl) m_len (by decide +kernel) (pa_cons (pv 2) pa_nil)) pa_nil))) (fun _ _ => rfl)) pa_nil)))
    (pss_cons (ps_set (i := 7) scLaw.nd rfl (.inl rfl) (pe_callTy (tupleK K) (by rfl) m_tuple (by decide +kernel) (pa_cons (pe_lc (own := [("_law_turn", 8)]) (g := (gName 8)) (tt := tYes) rfl scLaw.nd (pi_range1 (by rfl) m_range (pa_cons (pe_own oLDraw (hr.mono (by decide)) (by rfl) (pa_cons (pv 1) (pa_cons pe_int pa_nil))) pa_nil))
      (blkOk_by (own := [("_law_turn", 8)]) (N := nLaw) (sc := (defScope sLaw)) (by decide +kernel))
      (fun _ _ _ _ _ => (pg_name (i := 8) scLaw.nd rfl (Or.inl rfl))) (fun _ _ _ _ _ => pts_nil)
      (fun _ _ _ _ _ => (pe_tup (pa_cons (pe_own oLDraw (hr.mono (by decide)) (by rfl) (pa_cons (pv 1) (pa_cons pe_int pa_nil))) (pa_cons (pe_own oLDraw (hr.mono (by decide)) (by rfl) (pa_cons (pv 1) (pa_cons pe_int pa_nil))) pa_nil))))) pa_nil)))
    (pss_cons (ps_if (pt_not (pt_val (pe_own oLAcceptedRight (hr.mono (by decide)) (by rfl) (pa_cons (pe_own oLBent (hr.mono (by decide)) (by rfl) (pa_cons (pv 1) (pa_cons (pv 6) pa_nil))) pa_nil)))) (pss_one (ps_ret pe_bl)) pss_nil)
    (pss_one (ps_if (pt_not (pt_val (pe_own oLAcceptedRight (hr.mono (by decide)) (by rfl) (pa_cons (pe_own oLBent (hr.mono (by decide)) (by rfl) (pa_cons (pv 1) (pa_cons (pe_own oSlidesText (hr.mono (by decide)) (by rfl) (pa_cons (pv 7) pa_nil)) pa_nil))) pa_nil)))) (pss_one (ps_ret pe_bl)) pss_nil))))))
    (pss_one (ps_ret pe_bl))))))), ?_⟩
    refine ⟨.ref a, rfl, a, ns, rfl, hS, hlen, fun H1 d l s1 D1 => ?_⟩
    dsimp only [gName]
    refine ⟨rfl, fun H2 A xs s2 nA eA dA => ?_⟩
    have D2 := D1.same s2
    have oA := D1.off nA
    refine ⟨4, rfl, by decide, by decide, fun D nD => ?_⟩
    have offD := D2.off nD
    have sD := same_upd (o := .lst []) nD
    refine lc_range (lo := 0) (n := 4) (fun k H'' => ∃ (ys : List V) (fs : List (Nat × List (Int × Int))), Fm d l H2 H'' ∧ Deck H'' d l (60 * k) ∧ H'' D = some (.lst ys) ∧ DpAll K H'' ys (fs.map fq) ∧ (∀ q ∈ fs, gq q) ∧ fs.length = k) ?_ ?_ ?_
    · exact ⟨[], [], Same.fm sD, D2.same sD, upd_same, .nil, (fun _ h => nomatch h), rfl⟩
    · rintro k H'' hk ⟨ys, fs, g1, v1, eD, dp, pp, lp⟩
      refine ⟨rfl, yesI (iteT ?_)⟩
      refine ⟨.ref d, rfl, d, l, _, 12, rfl, by decide, v1, by omega, fun K1 x m es g2 v2 hm isf dx => ?_⟩
      have eD2 := g2 _ _ offD.1 offD.2 eD
      have ly : ys.length = fs.length := by rw [DpAll.length dp, List.length_map]
      have ktd : KT K K1 (upd K1 D (.lst (ys ++ [x]))) := kt_lst eD2
      refine ⟨ys, eD2, small1000 (by omega), ys ++ [x], fs ++ [(m, es)], fm_put (g1.trans g2) nD, (v2.put offD.1 offD.2).le (by omega), upd_same, ?_, fun q hq => ?_, by rw [List.length_append, lp]; rfl⟩
      · rw [List.map_append]
        exact DpAll.append (DpAll.kt ktd (DpAll.kt (g2.kt v1) dp (only_fors _)) (only_fors _)) (.cons (Dp.kt ktd dx (only_forD _ _)) .nil)
      · rcases List.mem_append.mp hq with hq | hq
        · exact pp q hq
        · rw [List.mem_singleton.mp hq]
          exact ⟨hm, isf⟩
    rintro H3 ⟨ys, fs, g3, v3, eD, dp, pp, lp⟩
    have eA3 := g3 _ _ oA.1 oA.2 eA
    have dA3 := DpAll.kt (g3.kt D2) dA (only_fors _)
    have lx := DpAll.length dA3
    have ly := DpAll.length dp
    rw [List.length_map] at lx ly
    have l11 : small.length = 11 := rfl
    refine ⟨A, D, _, _, rfl, rfl, eA3, eD, small5k (by omega), fun F nF => ?_⟩
    have sF := same_upd (o := .lst (xs ++ ys)) nF
    have eF := same_at (o := .lst (xs ++ ys)) nF
    have oF := v3.off nF
    have v4 := v3.same sF
    have dF : DpAll K (upd H3 F (.lst (xs ++ ys))) (xs ++ ys) ((small ++ fs).map fq) := by
      rw [List.map_append]
      exact DpAll.same sF (DpAll.append dA3 dp)
    have hFS : ∀ q ∈ small ++ fs, gq q := fun q hq => by
      rcases List.mem_append.mp hq with hq | hq
      · exact small_ok q hq
      · exact pp q hq
    have lz : (xs ++ ys).length = 15 := by rw [List.length_append]; omega
    generalize upd H3 F (.lst (xs ++ ys)) = H4 at eF v4 dF ⊢
    generalize xs ++ ys = zs at eF dF lz ⊢
    generalize small ++ fs = FS at dF hFS
    have get : ∀ {H' : Hp} {i : Nat} {v : V}, Fm d l H4 H' → zs[i]? = some v → ∃ m es, Dp K H' v (forD m es) ∧ m ≤ 12 ∧ IsFor m es ∧ (∀ p ∈ es, sm12 p) ∧ es.length ≤ 12 := fun f hv => by
      obtain ⟨w, hw, dw⟩ := DpAll.get (DpAll.kt (f.kt v4) dF (only_fors _)) hv
      rw [List.getElem?_map] at hw
      obtain ⟨⟨m, es⟩, hq, rfl⟩ := Option.map_eq_some_iff.mp hw
      have g := hFS _ (List.mem_of_getElem? hq)
      exact ⟨m, es, dw, g.1, g.2, g.sm.1, g.sm.2⟩
    dsimp only [gName]
    refine ⟨.ref F, rfl, F, rfl, ⟨_, SqL.of eF⟩, for_list (K := K) (a := F) (xs := zs) (fun i σ H' => ∃ (y3 : Option V), σ = [some (.ref a), some (.ref d), some (.ref F), y3, none, none, none, none, none] ∧ Fm d l H4 H' ∧ Deck H' d l (240 + 50 * i)) ?_ ?_ ?_ ?_⟩
    · exact ⟨none, rfl, Same.fm (Same.refl _), v4⟩
    · rintro i σ H' _ ⟨_, rfl, f, _⟩
      exact SqL.of (f _ _ oF.1 oF.2 eF)
    · rintro i v σ H' hv ⟨y3, rfl, f, DD⟩
      have hi := (List.getElem?_eq_some_iff.mp hv).1
      obtain ⟨m, es, dw, hm, isf, sm, les⟩ := get f hv
      dsimp only [gName]
      refine ⟨v, rfl, v, m, es, rfl, dw, hm, sm, by omega, fun H5 s5 => ?_⟩
      have lt := ftx_len hm sm
      have fz := fz_ftx hm isf.fr sm
      refine ⟨.str (ftx m es), rfl, .inl ⟨ftx m es, rfl, by omega, pl_ftx hm sm, fun H6 r dd s6 fz2 dr _ => ?_, fun i hb => absurd rfl ((fz_one fz hb).2 i)⟩⟩
      rw [(fz_one fz fz2).1] at dr
      have s56 := s5.trans s6
      refine ⟨v, rfl, r, v, forD m es, rfl, dr, Dp.same s56 dw, sh_for (by omega), fun H7 s7 => ⟨true, rfl, iteF ?_⟩⟩
      have s57 := s56.trans s7
      refine ⟨.ref d, rfl, v, rfl, d, l, _, v, m, es, rfl, DD.same s57, by omega, hm, isf, Dp.same s57 dw, fun H8 f8 D8 => ⟨true, rfl, iteF ⟨_, rfl, (f.trans (Same.fm s57)).trans f8, D8.le (by omega)⟩⟩⟩
    rintro σ H5 ⟨y3, rfl, f5, D5⟩
    refine ⟨5, rfl, by decide, by decide, for_range (lo := 0) (n := 5) (fun j σ H' => ∃ (y4 y5 : Option V), σ = [some (.ref a), some (.ref d), some (.ref F), y3, y4, y5, none, none, none] ∧ Fm d l H4 H' ∧ Deck H' d l (1000 + 120 * j)) ?_ ?_ ?_⟩
    · exact ⟨none, none, rfl, f5, D5.le (by omega)⟩
    · rintro j σ H' hj ⟨y4, y5, rfl, f, DD⟩
      dsimp only [gName]
      refine ⟨.ref d, rfl, d, l, _, 12, rfl, by decide, DD, by omega, fun H6 x m es f6 D6 hm isf dx => ?_⟩
      dsimp only [gName]
      obtain ⟨b, c, ws, rfl, hb, hc, hA⟩ := Dp.forI dx
      refine ⟨.ref b, rfl, .ref d, rfl, .ref b, rfl, b, _, 0, .int m, rfl, rfl, hb, atI_nat (j := 0) rfl, _, _, rfl, rfl, d, l, _, 12 - m, by rw [Int.ofNat_sub hm]; rfl, by omega, D6, by omega, fun H7 y n fs f7 D7 hn isf2 dy => ?_⟩
      refine ⟨.ref b, y, m, n, es, fs, rfl, by omega, isf, isf2, Dp.kt (f7.kt D6) dx (only_forD _ _), dy, fun H8 s8 => ⟨true, rfl, iteF ⟨_, _, rfl, ((f.trans f6).trans f7).trans (Same.fm s8), (D7.same s8).le (by omega)⟩⟩⟩
    rintro σ H6 ⟨y4, y5, rfl, f6, D6⟩
    refine ⟨30, rfl, by decide, by decide, for_range (lo := 0) (n := 30) (fun j σ H' => ∃ (y4 y6 y7 : Option V), σ = [some (.ref a), some (.ref d), some (.ref F), y3, y4, y5, y6, y7, none] ∧ Fm d l H4 H' ∧ Deck H' d l (1600 + 20 * j)) ?_ ?_ ?_⟩
    · exact ⟨_, _, _, rfl, f6, D6.le (by omega)⟩
    · rintro j σ H' hj ⟨y4, y6, y7, rfl, f, DD⟩
      dsimp only [gName]
      have eF1 := f _ _ oF.1 oF.2 eF
      refine ⟨.ref F, rfl, .ref d, rfl, .ref F, rfl, F, _, rfl, .inl (SqL.of eF1), d, l, _, _, rfl, by omega, by omega, DD, by omega, fun H7 k k0 k1 f7 D7 => ?_⟩
      have hk : k.toNat < zs.length := by omega
      have hg : zs[k.toNat]? = some zs[k.toNat] := List.getElem?_eq_getElem hk
      have f07 := f.trans f7
      obtain ⟨m, es, dw, hm, isf, sm, les⟩ := get f07 hg
      refine ⟨F, zs, _, _, rfl, rfl, SqL.of (f7 _ _ oF.1 oF.2 eF1), at_of (j := k.toNat) (by omega) hg, zs[k.toNat], m, es, rfl, dw, hm, sm, by omega, fun H8 s8 => ?_⟩
      have lt := ftx_len hm sm
      have pt := pl_ftx hm sm
      generalize ftx m es = z at lt pt ⊢
      have D8 := D7.same s8
      dsimp only [gName]
      refine ⟨.ref d, rfl, d, l, _, 4, rfl, by decide, by decide, D8, by omega, fun K1 mm m0 m1 h1 v1 => ?_⟩
      refine ⟨mm, rfl, by omega, by omega, fun D nD => ?_⟩
      have offD := v1.off nD
      have sD := same_upd (o := .lst []) nD
      refine lc_range (lo := 0) (n := mm.toNat) (fun k H'' => ∃ (ys : List V) (ps : List (Int × Int)), Fm d l K1 H'' ∧ Deck H'' d l (1602 + 20 * j + 2 * k) ∧ H'' D = some (.lst ys) ∧ DpAll K H'' ys (ps.map prD) ∧ (∀ p ∈ ps, sm12 p) ∧ ps.length = k) ?_ ?_ ?_
      · exact ⟨[], [], Same.fm sD, (v1.same sD).le (by omega), upd_same, .nil, (fun _ h => nomatch h), rfl⟩
      · rintro k H'' hk ⟨ys, ps, g1, v1, eD, dp, pp, lp⟩
        refine ⟨rfl, yesI (iteT ?_)⟩
        refine ⟨.ref d, rfl, d, l, _, 12, rfl, by decide, by decide, v1, by omega, fun K1 r1 h0 h1 g2 v2 => ?_⟩
        refine ⟨.ref d, rfl, d, l, _, 12, rfl, by decide, by decide, v2, by omega, fun K2 r2 h2 h3 g3 v3 => ?_⟩
        refine ⟨by show 2 ≤ sizeLine; decide, fun t nt => ?_⟩
        have st := same_upd (o := .tup [V.int r1, V.int r2]) nt
        have g4 : Fm d l H'' (upd K2 t (.tup [V.int r1, V.int r2])) := (g2.trans g3).trans (Same.fm st)
        have eD4 := g4 _ _ offD.1 offD.2 eD
        have v4 := v3.same st
        have ly : ys.length = ps.length := by rw [DpAll.length dp, List.length_map]
        have ktd : KT K (upd K2 t (.tup [V.int r1, V.int r2])) (upd (upd K2 t (.tup [V.int r1, V.int r2])) D (.lst (ys ++ [V.ref t]))) := kt_lst eD4
        refine ⟨ys, eD4, small1000 (by omega), ys ++ [V.ref t], ps ++ [(r1, r2)], fm_put (g1.trans g4) nD, (v4.put offD.1 offD.2).le (by omega), upd_same, ?_, fun p hp => ?_, by rw [List.length_append, lp]; rfl⟩
        · rw [List.map_append]
          exact DpAll.append (DpAll.kt ktd (DpAll.kt (g4.kt v1) dp (only_prs _)) (only_prs _)) (.cons (Dp.kt ktd (Dp.pr (SqT.of upd_same)) (only_pr _)) .nil)
        · rcases List.mem_append.mp hp with hp | hp
          · exact pp p hp
          · rw [List.mem_singleton.mp hp]
            show (0 ≤ r1 ∧ r1 ≤ 99) ∧ 0 ≤ r2 ∧ r2 ≤ 99
            omega
      rintro J0 ⟨ys, ps, g1, w2, eD, dp, sp, lp⟩
      have lps : ps.length ≤ 3 := by omega
      refine ⟨D, ys, rfl, .inl ⟨SqL.of eD, fun c nc => ?_⟩⟩
      have sc := same_upd (o := .tup ys) nc
      have gc : Fm d l H4 (upd J0 c (.tup ys)) := ((f07.trans (Same.fm s8)).trans (h1.trans g1)).trans (Same.fm sc)
      have vc := w2.same sc
      have dc : Dp K (upd J0 c (.tup ys)) (.ref c) (prsD ps) := .tup (SqT.of upd_same) (DpAll.same sc dp)
      generalize upd J0 c (.tup ys) = J1 at gc vc dc ⊢
      dsimp only [gName]
      refine ⟨.ref d, rfl, .str z, rfl, d, l, _, z, rfl, vc, by omega, by omega, pt, fun J2 x1 h2 v2 lx1 px1 => ⟨x1, rfl, by omega, px1, fun J3 s3 => ⟨true, rfl, iteF ?_⟩⟩⟩
      have D3 := v2.same s3
      have dc3 := Dp.same s3 (Dp.kt (h2.kt vc) dc (only_prsD _))
      refine ⟨.ref d, rfl, .ref c, rfl, .ref c, ps, rfl, dc3, sp, by omega, fun J4 s4 => ?_⟩
      have lt2 := txt_len sg_slide sp
      have pt2 := pl_txt sg_slide sp
      refine ⟨d, l, _, txt ">" ps, rfl, D3.same s4, by omega, by omega, pt2, fun J5 x2 h5 v5 lx2 px2 => ⟨x2, rfl, by omega, px2, fun J6 s6 => ⟨true, rfl, iteF ?_⟩⟩⟩
      exact ⟨_, _, _, rfl, (((gc.trans h2).trans (Same.fm (s3.trans s4))).trans h5).trans (Same.fm s6), (v5.same s6).le (by omega)⟩
    rintro σ H7 _
    exact q _
end
end TL
namespace TL
open PySem PySem.Spec PyProof.Rows L2
section
variable {P : Program} {w : World} {K : PySem.W.Frag} {mg : Str → Option Value} {base : Heap}
end
theorem all_mk {l : PySem.W.OpenLaw} {w : World} {K : PySem.W.Frag} {h : Heap} {mg : Str → Option Value} {fa f0 f1 f2 f3 f4 f5 f6 f7 f8 f9 f10 f11 f12 f13 f14 f15 f16 f17 f18 f19 f20 f21 f22 f23 f24 f25 f26 f27 f28 f29 f30 f31 f32 f33 f34 f35 f36 f37 f38 : Addr} (X : K.In h) (G : h.Ns mainGlobals mg) (hfa : mg "law" = some (.ref fa))
    {od0 an0 od1 an1 od2 an2 od3 an3 od4 an4 od5 an5 od6 an6 od7 an7 od8 an8 od9 an9 od10 an10 od11 an11 od12 an12 od13 an13 od14 an14 od15 an15 od16 an16 od17 an17 od18 an18 od19 an19 od20 an20 od21 an21 od22 an22 od23 an23 od24 an24 od25 an25 od26 an26 od27 an27 od28 an28 od29 an29 od30 an30 od31 an31 od32 an32 od33 an33 od34 an34 od35 an35 od36 an36 od37 an37 od38 an38 : Option Addr} {sl0 sl1 sl2 sl3 sl4 sl5 sl6 sl7 sl8 sl9 sl10 sl11 sl12 sl13 sl14 sl15 sl16 sl17 sl18 sl19 sl20 sl21 sl22 sl23 sl24 sl25 sl26 sl27 sl28 sl29 sl30 sl31 sl32 sl33 sl34 sl35 sl36 sl37 sl38 : Array (Option Value)} {oc0 kV0 dc0 pm0 cd0 ct0 oc1 kV1 dc1 pm1 cd1 ct1 oc2 kV2 dc2 pm2 cd2 ct2 oc3 kV3 dc3 pm3 cd3 ct3 oc4 kV4 dc4 pm4 cd4 ct4 oc5 kV5 dc5 pm5 cd5 ct5 oc6 kV6 dc6 pm6 cd6 ct6 oc7 kV7 dc7 pm7 cd7 ct7 oc8 kV8 dc8 pm8 cd8 ct8 oc9 kV9 dc9 pm9 cd9 ct9 oc10 kV10 dc10 pm10 cd10 ct10 oc11 kV11 dc11 pm11 cd11 ct11 oc12 kV12 dc12 pm12 cd12 ct12 oc13 kV13 dc13 pm13 cd13 ct13 oc14 kV14 dc14 pm14 cd14 ct14 oc15 kV15 dc15 pm15 cd15 ct15 oc16 kV16 dc16 pm16 cd16 ct16 oc17 kV17 dc17 pm17 cd17 ct17 oc18 kV18 dc18 pm18 cd18 ct18 oc19 kV19 dc19 pm19 cd19 ct19 oc20 kV20 dc20 pm20 cd20 ct20 oc21 kV21 dc21 pm21 cd21 ct21 oc22 kV22 dc22 pm22 cd22 ct22 oc23 kV23 dc23 pm23 cd23 ct23 oc24 kV24 dc24 pm24 cd24 ct24 oc25 kV25 dc25 pm25 cd25 ct25 oc26 kV26 dc26 pm26 cd26 ct26 oc27 kV27 dc27 pm27 cd27 ct27 oc28 kV28 dc28 pm28 cd28 ct28 oc29 kV29 dc29 pm29 cd29 ct29 oc30 kV30 dc30 pm30 cd30 ct30 oc31 kV31 dc31 pm31 cd31 ct31 oc32 kV32 dc32 pm32 cd32 ct32 oc33 kV33 dc33 pm33 cd33 ct33 oc34 kV34 dc34 pm34 cd34 ct34 oc35 kV35 dc35 pm35 cd35 ct35 oc36 kV36 dc36 pm36 cd36 ct36 oc37 kV37 dc37 pm37 cd37 ct37 oc38 kV38 dc38 pm38 cd38 ct38 : Value}
    (a0 : PySem.W.nsIn K mainGlobals "is_number" = some (some (.ref f0))) (l0 : K.lookup f0 = some ⟨oc0, od0, .func (PySem.W.fnOf "is_number" "is_number" (defArgs sIsNumber) (defBody sIsNumber) (defScope sIsNumber) .none kV0 dc0 pm0 an0 cd0 ct0), sl0⟩) (c0 : PySem.W.codeIn K cd0 "is_number" = true) (k0 : PySem.W.keepIn K (.ref f0) = true)
    (a1 : PySem.W.nsIn K mainGlobals "is_pair" = some (some (.ref f1))) (l1 : K.lookup f1 = some ⟨oc1, od1, .func (PySem.W.fnOf "is_pair" "is_pair" (defArgs sIsPair) (defBody sIsPair) (defScope sIsPair) .none kV1 dc1 pm1 an1 cd1 ct1), sl1⟩) (c1 : PySem.W.codeIn K cd1 "is_pair" = true) (k1 : PySem.W.keepIn K (.ref f1) = true)
    (a2 : PySem.W.nsIn K mainGlobals "is_vertex" = some (some (.ref f2))) (l2 : K.lookup f2 = some ⟨oc2, od2, .func (PySem.W.fnOf "is_vertex" "is_vertex" (defArgs sIsVertex) (defBody sIsVertex) (defScope sIsVertex) .none kV2 dc2 pm2 an2 cd2 ct2), sl2⟩) (c2 : PySem.W.codeIn K cd2 "is_vertex" = true) (k2 : PySem.W.keepIn K (.ref f2) = true)
    (a3 : PySem.W.nsIn K mainGlobals "is_edge" = some (some (.ref f3))) (l3 : K.lookup f3 = some ⟨oc3, od3, .func (PySem.W.fnOf "is_edge" "is_edge" (defArgs sIsEdge) (defBody sIsEdge) (defScope sIsEdge) .none kV3 dc3 pm3 an3 cd3 ct3), sl3⟩) (c3 : PySem.W.codeIn K cd3 "is_edge" = true) (k3 : PySem.W.keepIn K (.ref f3) = true)
    (a4 : PySem.W.nsIn K mainGlobals "merged" = some (some (.ref f4))) (l4 : K.lookup f4 = some ⟨oc4, od4, .func (PySem.W.fnOf "merged" "merged" (defArgs sMerged) (defBody sMerged) (defScope sMerged) .none kV4 dc4 pm4 an4 cd4 ct4), sl4⟩) (c4 : PySem.W.codeIn K cd4 "merged" = true) (k4 : PySem.W.keepIn K (.ref f4) = true)
    (a5 : PySem.W.nsIn K mainGlobals "edges_error" = some (some (.ref f5))) (l5 : K.lookup f5 = some ⟨oc5, od5, .func (PySem.W.fnOf "edges_error" "edges_error" (defArgs sEdgesError) (defBody sEdgesError) (defScope sEdgesError) .none kV5 dc5 pm5 an5 cd5 ct5), sl5⟩) (c5 : PySem.W.codeIn K cd5 "edges_error" = true) (k5 : PySem.W.keepIn K (.ref f5) = true)
    (a6 : PySem.W.nsIn K mainGlobals "neighbours_of" = some (some (.ref f6))) (l6 : K.lookup f6 = some ⟨oc6, od6, .func (PySem.W.fnOf "neighbours_of" "neighbours_of" (defArgs sNeighboursOf) (defBody sNeighboursOf) (defScope sNeighboursOf) .none kV6 dc6 pm6 an6 cd6 ct6), sl6⟩) (c6 : PySem.W.codeIn K cd6 "neighbours_of" = true) (k6 : PySem.W.keepIn K (.ref f6) = true)
    (a7 : PySem.W.nsIn K mainGlobals "list_text" = some (some (.ref f7))) (l7 : K.lookup f7 = some ⟨oc7, od7, .func (PySem.W.fnOf "list_text" "list_text" (defArgs sListText) (defBody sListText) (defScope sListText) .none kV7 dc7 pm7 an7 cd7 ct7), sl7⟩) (c7 : PySem.W.codeIn K cd7 "list_text" = true) (k7 : PySem.W.keepIn K (.ref f7) = true)
    (a8 : PySem.W.nsIn K mainGlobals "slides_text" = some (some (.ref f8))) (l8 : K.lookup f8 = some ⟨oc8, od8, .func (PySem.W.fnOf "slides_text" "slides_text" (defArgs sSlidesText) (defBody sSlidesText) (defScope sSlidesText) .none kV8 dc8 pm8 an8 cd8 ct8), sl8⟩) (c8 : PySem.W.codeIn K cd8 "slides_text" = true) (k8 : PySem.W.keepIn K (.ref f8) = true)
    (a9 : PySem.W.nsIn K mainGlobals "forest_text" = some (some (.ref f9))) (l9 : K.lookup f9 = some ⟨oc9, od9, .func (PySem.W.fnOf "forest_text" "forest_text" (defArgs sForestText) (defBody sForestText) (defScope sForestText) .none kV9 dc9 pm9 an9 cd9 ct9), sl9⟩) (c9 : PySem.W.codeIn K cd9 "forest_text" = true) (k9 : PySem.W.keepIn K (.ref f9) = true)
    (a10 : PySem.W.nsIn K mainGlobals "number_in" = some (some (.ref f10))) (l10 : K.lookup f10 = some ⟨oc10, od10, .func (PySem.W.fnOf "number_in" "number_in" (defArgs sNumberIn) (defBody sNumberIn) (defScope sNumberIn) .none kV10 dc10 pm10 an10 cd10 ct10), sl10⟩) (c10 : PySem.W.codeIn K cd10 "number_in" = true) (k10 : PySem.W.keepIn K (.ref f10) = true)
    (a11 : PySem.W.nsIn K mainGlobals "pair_in" = some (some (.ref f11))) (l11 : K.lookup f11 = some ⟨oc11, od11, .func (PySem.W.fnOf "pair_in" "pair_in" (defArgs sPairIn) (defBody sPairIn) (defScope sPairIn) .none kV11 dc11 pm11 an11 cd11 ct11), sl11⟩) (c11 : PySem.W.codeIn K cd11 "pair_in" = true) (k11 : PySem.W.keepIn K (.ref f11) = true)
    (a12 : PySem.W.nsIn K mainGlobals "words_of" = some (some (.ref f12))) (l12 : K.lookup f12 = some ⟨oc12, od12, .func (PySem.W.fnOf "words_of" "words_of" (defArgs sWordsOf) (defBody sWordsOf) (defScope sWordsOf) .none kV12 dc12 pm12 an12 cd12 ct12), sl12⟩) (c12 : PySem.W.codeIn K cd12 "words_of" = true) (k12 : PySem.W.keepIn K (.ref f12) = true)
    (a13 : PySem.W.nsIn K mainGlobals "size_in" = some (some (.ref f13))) (l13 : K.lookup f13 = some ⟨oc13, od13, .func (PySem.W.fnOf "size_in" "size_in" (defArgs sSizeIn) (defBody sSizeIn) (defScope sSizeIn) .none kV13 dc13 pm13 an13 cd13 ct13), sl13⟩) (c13 : PySem.W.codeIn K cd13 "size_in" = true) (k13 : PySem.W.keepIn K (.ref f13) = true)
    (a14 : PySem.W.nsIn K mainGlobals "parse_forest" = some (some (.ref f14))) (l14 : K.lookup f14 = some ⟨oc14, od14, .func (PySem.W.fnOf "parse_forest" "parse_forest" (defArgs sParseForest) (defBody sParseForest) (defScope sParseForest) .none kV14 dc14 pm14 an14 cd14 ct14), sl14⟩) (c14 : PySem.W.codeIn K cd14 "parse_forest" = true) (k14 : PySem.W.keepIn K (.ref f14) = true)
    (a15 : PySem.W.nsIn K mainGlobals "parse_slides" = some (some (.ref f15))) (l15 : K.lookup f15 = some ⟨oc15, od15, .func (PySem.W.fnOf "parse_slides" "parse_slides" (defArgs sParseSlides) (defBody sParseSlides) (defScope sParseSlides) .none kV15 dc15 pm15 an15 cd15 ct15), sl15⟩) (c15 : PySem.W.codeIn K cd15 "parse_slides" = true) (k15 : PySem.W.keepIn K (.ref f15) = true)
    (a16 : PySem.W.nsIn K mainGlobals "side_by_side" = some (some (.ref f16))) (l16 : K.lookup f16 = some ⟨oc16, od16, .func (PySem.W.fnOf "side_by_side" "side_by_side" (defArgs sSideBySide) (defBody sSideBySide) (defScope sSideBySide) .none kV16 dc16 pm16 an16 cd16 ct16), sl16⟩) (c16 : PySem.W.codeIn K cd16 "side_by_side" = true) (k16 : PySem.W.keepIn K (.ref f16) = true)
    (a17 : PySem.W.nsIn K mainGlobals "blocking_lamps" = some (some (.ref f17))) (l17 : K.lookup f17 = some ⟨oc17, od17, .func (PySem.W.fnOf "blocking_lamps" "blocking_lamps" (defArgs sBlockingLamps) (defBody sBlockingLamps) (defScope sBlockingLamps) .none kV17 dc17 pm17 an17 cd17 ct17), sl17⟩) (c17 : PySem.W.codeIn K cd17 "blocking_lamps" = true) (k17 : PySem.W.keepIn K (.ref f17) = true)
    (a18 : PySem.W.nsIn K mainGlobals "check_lamp" = some (some (.ref f18))) (l18 : K.lookup f18 = some ⟨oc18, od18, .func (PySem.W.fnOf "check_lamp" "check_lamp" (defArgs sCheckLamp) (defBody sCheckLamp) (defScope sCheckLamp) .none kV18 dc18 pm18 an18 cd18 ct18), sl18⟩) (c18 : PySem.W.codeIn K cd18 "check_lamp" = true) (k18 : PySem.W.keepIn K (.ref f18) = true)
    (a19 : PySem.W.nsIn K mainGlobals "slide_lamp" = some (some (.ref f19))) (l19 : K.lookup f19 = some ⟨oc19, od19, .func (PySem.W.fnOf "slide_lamp" "slide_lamp" (defArgs sSlideLamp) (defBody sSlideLamp) (defScope sSlideLamp) .none kV19 dc19 pm19 an19 cd19 ct19), sl19⟩) (c19 : PySem.W.codeIn K cd19 "slide_lamp" = true) (k19 : PySem.W.keepIn K (.ref f19) = true)
    (a20 : PySem.W.nsIn K mainGlobals "possible_slides" = some (some (.ref f20))) (l20 : K.lookup f20 = some ⟨oc20, od20, .func (PySem.W.fnOf "possible_slides" "possible_slides" (defArgs sPossibleSlides) (defBody sPossibleSlides) (defScope sPossibleSlides) .none kV20 dc20 pm20 an20 cd20 ct20), sl20⟩) (c20 : PySem.W.codeIn K cd20 "possible_slides" = true) (k20 : PySem.W.keepIn K (.ref f20) = true)
    (a21 : PySem.W.nsIn K mainGlobals "is_possible" = some (some (.ref f21))) (l21 : K.lookup f21 = some ⟨oc21, od21, .func (PySem.W.fnOf "is_possible" "is_possible" (defArgs sIsPossible) (defBody sIsPossible) (defScope sIsPossible) .none kV21 dc21 pm21 an21 cd21 ct21), sl21⟩) (c21 : PySem.W.codeIn K cd21 "is_possible" = true) (k21 : PySem.W.keepIn K (.ref f21) = true)
    (a22 : PySem.W.nsIn K mainGlobals "follow" = some (some (.ref f22))) (l22 : K.lookup f22 = some ⟨oc22, od22, .func (PySem.W.fnOf "follow" "follow" (defArgs sFollow) (defBody sFollow) (defScope sFollow) .none kV22 dc22 pm22 an22 cd22 ct22), sl22⟩) (c22 : PySem.W.codeIn K cd22 "follow" = true) (k22 : PySem.W.keepIn K (.ref f22) = true)
    (a23 : PySem.W.nsIn K mainGlobals "backward" = some (some (.ref f23))) (l23 : K.lookup f23 = some ⟨oc23, od23, .func (PySem.W.fnOf "backward" "backward" (defArgs sBackward) (defBody sBackward) (defScope sBackward) .none kV23 dc23 pm23 an23 cd23 ct23), sl23⟩) (c23 : PySem.W.codeIn K cd23 "backward" = true) (k23 : PySem.W.keepIn K (.ref f23) = true)
    (a24 : PySem.W.nsIn K mainGlobals "_law_deck" = some (some (.ref f24))) (l24 : K.lookup f24 = some ⟨oc24, od24, .func (PySem.W.fnOf "_law_deck" "_law_deck" (defArgs sLDeck) (defBody sLDeck) (defScope sLDeck) .none kV24 dc24 pm24 an24 cd24 ct24), sl24⟩) (c24 : PySem.W.codeIn K cd24 "_law_deck" = true) (k24 : PySem.W.keepIn K (.ref f24) = true)
    (a25 : PySem.W.nsIn K mainGlobals "_law_draw" = some (some (.ref f25))) (l25 : K.lookup f25 = some ⟨oc25, od25, .func (PySem.W.fnOf "_law_draw" "_law_draw" (defArgs sLDraw) (defBody sLDraw) (defScope sLDraw) .none kV25 dc25 pm25 an25 cd25 ct25), sl25⟩) (c25 : PySem.W.codeIn K cd25 "_law_draw" = true) (k25 : PySem.W.keepIn K (.ref f25) = true)
    (a26 : PySem.W.nsIn K mainGlobals "_law_same" = some (some (.ref f26))) (l26 : K.lookup f26 = some ⟨oc26, od26, .func (PySem.W.fnOf "_law_same" "_law_same" (defArgs sLSame) (defBody sLSame) (defScope sLSame) .none kV26 dc26 pm26 an26 cd26 ct26), sl26⟩) (c26 : PySem.W.codeIn K cd26 "_law_same" = true) (k26 : PySem.W.keepIn K (.ref f26) = true)
    (a27 : PySem.W.nsIn K mainGlobals "_law_forest" = some (some (.ref f27))) (l27 : K.lookup f27 = some ⟨oc27, od27, .func (PySem.W.fnOf "_law_forest" "_law_forest" (defArgs sLForest) (defBody sLForest) (defScope sLForest) .none kV27 dc27 pm27 an27 cd27 ct27), sl27⟩) (c27 : PySem.W.codeIn K cd27 "_law_forest" = true) (k27 : PySem.W.keepIn K (.ref f27) = true)
    (a28 : PySem.W.nsIn K mainGlobals "_law_near" = some (some (.ref f28))) (l28 : K.lookup f28 = some ⟨oc28, od28, .func (PySem.W.fnOf "_law_near" "_law_near" (defArgs sLNear) (defBody sLNear) (defScope sLNear) .none kV28 dc28 pm28 an28 cd28 ct28), sl28⟩) (c28 : PySem.W.codeIn K cd28 "_law_near" = true) (k28 : PySem.W.keepIn K (.ref f28) = true)
    (a29 : PySem.W.nsIn K mainGlobals "_law_setting" = some (some (.ref f29))) (l29 : K.lookup f29 = some ⟨oc29, od29, .func (PySem.W.fnOf "_law_setting" "_law_setting" (defArgs sLSetting) (defBody sLSetting) (defScope sLSetting) .none kV29 dc29 pm29 an29 cd29 ct29), sl29⟩) (c29 : PySem.W.codeIn K cd29 "_law_setting" = true) (k29 : PySem.W.keepIn K (.ref f29) = true)
    (a30 : PySem.W.nsIn K mainGlobals "_law_slides" = some (some (.ref f30))) (l30 : K.lookup f30 = some ⟨oc30, od30, .func (PySem.W.fnOf "_law_slides" "_law_slides" (defArgs sLSlides) (defBody sLSlides) (defScope sLSlides) .none kV30 dc30 pm30 an30 cd30 ct30), sl30⟩) (c30 : PySem.W.codeIn K cd30 "_law_slides" = true) (k30 : PySem.W.keepIn K (.ref f30) = true)
    (a31 : PySem.W.nsIn K mainGlobals "_law_moved" = some (some (.ref f31))) (l31 : K.lookup f31 = some ⟨oc31, od31, .func (PySem.W.fnOf "_law_moved" "_law_moved" (defArgs sLMoved) (defBody sLMoved) (defScope sLMoved) .none kV31 dc31 pm31 an31 cd31 ct31), sl31⟩) (c31 : PySem.W.codeIn K cd31 "_law_moved" = true) (k31 : PySem.W.keepIn K (.ref f31) = true)
    (a32 : PySem.W.nsIn K mainGlobals "_law_bent" = some (some (.ref f32))) (l32 : K.lookup f32 = some ⟨oc32, od32, .func (PySem.W.fnOf "_law_bent" "_law_bent" (defArgs sLBent) (defBody sLBent) (defScope sLBent) .none kV32 dc32 pm32 an32 cd32 ct32), sl32⟩) (c32 : PySem.W.codeIn K cd32 "_law_bent" = true) (k32 : PySem.W.keepIn K (.ref f32) = true)
    (a33 : PySem.W.nsIn K mainGlobals "_law_small" = some (some (.ref f33))) (l33 : K.lookup f33 = some ⟨oc33, od33, .func (PySem.W.fnOf "_law_small" "_law_small" (defArgs sLSmall) (defBody sLSmall) (defScope sLSmall) .none kV33 dc33 pm33 an33 cd33 ct33), sl33⟩) (c33 : PySem.W.codeIn K cd33 "_law_small" = true) (k33 : PySem.W.keepIn K (.ref f33) = true)
    (a34 : PySem.W.nsIn K mainGlobals "_law_words" = some (some (.ref f34))) (l34 : K.lookup f34 = some ⟨oc34, od34, .func (PySem.W.fnOf "_law_words" "_law_words" (defArgs sLWords) (defBody sLWords) (defScope sLWords) .none kV34 dc34 pm34 an34 cd34 ct34), sl34⟩) (c34 : PySem.W.codeIn K cd34 "_law_words" = true) (k34 : PySem.W.keepIn K (.ref f34) = true)
    (a35 : PySem.W.nsIn K mainGlobals "_law_beside_right" = some (some (.ref f35))) (l35 : K.lookup f35 = some ⟨oc35, od35, .func (PySem.W.fnOf "_law_beside_right" "_law_beside_right" (defArgs sLBesideRight) (defBody sLBesideRight) (defScope sLBesideRight) .none kV35 dc35 pm35 an35 cd35 ct35), sl35⟩) (c35 : PySem.W.codeIn K cd35 "_law_beside_right" = true) (k35 : PySem.W.keepIn K (.ref f35) = true)
    (a36 : PySem.W.nsIn K mainGlobals "_law_slides_right" = some (some (.ref f36))) (l36 : K.lookup f36 = some ⟨oc36, od36, .func (PySem.W.fnOf "_law_slides_right" "_law_slides_right" (defArgs sLSlidesRight) (defBody sLSlidesRight) (defScope sLSlidesRight) .none kV36 dc36 pm36 an36 cd36 ct36), sl36⟩) (c36 : PySem.W.codeIn K cd36 "_law_slides_right" = true) (k36 : PySem.W.keepIn K (.ref f36) = true)
    (a37 : PySem.W.nsIn K mainGlobals "_law_accepted_right" = some (some (.ref f37))) (l37 : K.lookup f37 = some ⟨oc37, od37, .func (PySem.W.fnOf "_law_accepted_right" "_law_accepted_right" (defArgs sLAcceptedRight) (defBody sLAcceptedRight) (defScope sLAcceptedRight) .none kV37 dc37 pm37 an37 cd37 ct37), sl37⟩) (c37 : PySem.W.codeIn K cd37 "_law_accepted_right" = true) (k37 : PySem.W.keepIn K (.ref f37) = true)
    (a38 : PySem.W.nsIn K mainGlobals "law" = some (some (.ref f38))) (l38 : K.lookup f38 = some ⟨oc38, od38, .func (PySem.W.fnOf "law" "law" (defArgs sLaw) (defBody sLaw) (defScope sLaw) .none kV38 dc38 pm38 an38 cd38 ct38), sl38⟩) (c38 : PySem.W.codeIn K cd38 "law" = true) (k38 : PySem.W.keepIn K (.ref f38) = true)
    {cBadText iBadText eN0 : Addr} {en0 eq0 : Str} {eb0 em0 eu0 : List Value} {es0 : List Str} {ea0 : Bool} {ec0 : Option Bool} {ed0 : Option Addr} {e00 e10 e20 e30 e50 : Option Value}
    {iod0 ian0 : Option Addr} {isl0 : Array (Option Value)} {ioc0 ikV0 idc0 ipm0 icd0 ict0 : Value}
    (eaBadText : PySem.W.nsIn K mainGlobals "BadText" = some (some (.ref cBadText))) (elBadText : K.lookup cBadText = some (excClassObj en0 eq0 cBadText eN0 eb0 em0 true es0 eu0 ea0 ec0 ed0 e00 e10 e20 e30 e50 "ValueError.__new__")) (erBadText : PySem.HandSPX.refsVE em0 = true)
    (e1BadText : PySem.W.findIn K (.ref cBadText) "__setattr__" = some (some (.builtin "object.__setattr__"))) (e2BadText : PySem.W.subIn K (.ref cBadText) (.type "BaseException") = some true) (e3BadText : PySem.W.typeIn K (.ref cBadText) = some (.type "type")) (e4BadText : PySem.W.keepIn K (.ref cBadText) = true)
    (e5BadText : PySem.W.findIn K (.ref cBadText) "__getattribute__" = some (some (.builtin "BaseException.__getattribute__"))) (e6BadText : PySem.W.findIn K (.ref cBadText) "__getattr__" = some none) (e7BadText : PySem.W.hasDictIn K cBadText = true)
    (e8BadText : PySem.W.findIn K (.ref cBadText) "__class__" = some (some (.builtin "object.__class__"))) (e9BadText : PySem.W.specialIn K (.builtin "object.__class__") "__get__" = some (some (.builtin "getset_descriptor.__get__"))) (eABadText : PySem.W.takesIn K (.builtin "object.__class__") = some true) (eBBadText : PySem.W.mroIn K cBadText (.type "object") = some true)
    (eCBadText : PySem.W.findIn K (.ref cBadText) "__init__" = some (some (.ref iBadText))) (eDBadText : PySem.W.typeIn K (.ref iBadText) = some (.type "function")) (eEBadText : PySem.W.findIn K (.ref cBadText) "index" = some none) (eFBadText : PySem.W.subIn K (.ref cBadText) (.ref cBadText) = some true) (eGBadText : PySem.W.subIn K (.ref cBadText) (.type "ValueError") = some true)
    (eHBadText : K.lookup iBadText = some ⟨ioc0, iod0, .func (PySem.W.fnOf "__init__" "BadText.__init__" (defArgs sBadtextInit) (defBody sBadtextInit) (defScope sBadtextInit) .none ikV0 idc0 ipm0 ian0 icd0 ict0), isl0⟩) (eIBadText : PySem.W.codeIn K icd0 "BadText.__init__" = true) (eJBadText : PySem.W.keepIn K (.ref iBadText) = true)

    {yt0 : Tok} (y0 : PySem.W.nsIn K mainGlobals "NONE" = some (some (.str "none" yt0)))
    {yt1 : Tok} (y1 : PySem.W.nsIn K mainGlobals "MAX_VERTICES" = some (some (.int 12 yt1)))
    (z0 : PySem.W.nsIn K mainGlobals "abs" = some none) (z1 : PySem.W.nsIn K mainGlobals "len" = some none) (z2 : PySem.W.nsIn K mainGlobals "int" = some none) (z3 : PySem.W.nsIn K mainGlobals "bool" = some none) (z4 : PySem.W.nsIn K mainGlobals "str" = some none) (z5 : PySem.W.nsIn K mainGlobals "list" = some none) (z6 : PySem.W.nsIn K mainGlobals "tuple" = some none) (z7 : PySem.W.nsIn K mainGlobals "isinstance" = some none) (z8 : PySem.W.nsIn K mainGlobals "range" = some none) (z9 : PySem.W.nsIn K mainGlobals "zip" = some none) (z10 : PySem.W.nsIn K mainGlobals "enumerate" = some none) (z11 : PySem.W.nsIn K mainGlobals "max" = some none) (z12 : PySem.W.nsIn K mainGlobals "min" = some none) (z13 : PySem.W.nsIn K mainGlobals "sorted" = some none) (z14 : PySem.W.nsIn K mainGlobals "reversed" = some none) :
    ∃ fd : FuncData, (∀ (s : Shared) (v : Value), BindsTo s fd ⟨[v], []⟩ [("_law_script", v)]) ∧ ∀ base : Heap, K.In base → base.Ns mainGlobals mg → FnG l.prog w K mg base 7 fa fd ["_law_script"] (spLaw K) := by
  cases hfa.symm.trans (PySem.W.mg_of X G a38)
  have FIsNumber := fun_mk (st := sIsNumber) l0 c0 k0
  have FIsPair := fun_mk (st := sIsPair) l1 c1 k1
  have FIsVertex := fun_mk (st := sIsVertex) l2 c2 k2
  have FIsEdge := fun_mk (st := sIsEdge) l3 c3 k3
  have FMerged := fun_mk (st := sMerged) l4 c4 k4
  have FEdgesError := fun_mk (st := sEdgesError) l5 c5 k5
  have FNeighboursOf := fun_mk (st := sNeighboursOf) l6 c6 k6
  have FListText := fun_mk (st := sListText) l7 c7 k7
  have FSlidesText := fun_mk (st := sSlidesText) l8 c8 k8
  have FForestText := fun_mk (st := sForestText) l9 c9 k9
  have FNumberIn := fun_mk (st := sNumberIn) l10 c10 k10
  have FPairIn := fun_mk (st := sPairIn) l11 c11 k11
  have FWordsOf := fun_mk (st := sWordsOf) l12 c12 k12
  have FSizeIn := fun_mk (st := sSizeIn) l13 c13 k13
  have FParseForest := fun_mk (st := sParseForest) l14 c14 k14
  have FParseSlides := fun_mk (st := sParseSlides) l15 c15 k15
  have FSideBySide := fun_mk (st := sSideBySide) l16 c16 k16
  have FBlockingLamps := fun_mk (st := sBlockingLamps) l17 c17 k17
  have FCheckLamp := fun_mk (st := sCheckLamp) l18 c18 k18
  have FSlideLamp := fun_mk (st := sSlideLamp) l19 c19 k19
  have FPossibleSlides := fun_mk (st := sPossibleSlides) l20 c20 k20
  have FIsPossible := fun_mk (st := sIsPossible) l21 c21 k21
  have FFollow := fun_mk (st := sFollow) l22 c22 k22
  have FBackward := fun_mk (st := sBackward) l23 c23 k23
  have FLDeck := fun_mk (st := sLDeck) l24 c24 k24
  have FLDraw := fun_mk (st := sLDraw) l25 c25 k25
  have FLSame := fun_mk (st := sLSame) l26 c26 k26
  have FLForest := fun_mk (st := sLForest) l27 c27 k27
  have FLNear := fun_mk (st := sLNear) l28 c28 k28
  have FLSetting := fun_mk (st := sLSetting) l29 c29 k29
  have FLSlides := fun_mk (st := sLSlides) l30 c30 k30
  have FLMoved := fun_mk (st := sLMoved) l31 c31 k31
  have FLBent := fun_mk (st := sLBent) l32 c32 k32
  have FLSmall := fun_mk (st := sLSmall) l33 c33 k33
  have FLWords := fun_mk (st := sLWords) l34 c34 k34
  have FLBesideRight := fun_mk (st := sLBesideRight) l35 c35 k35
  have FLSlidesRight := fun_mk (st := sLSlidesRight) l36 c36 k36
  have FLAcceptedRight := fun_mk (st := sLAcceptedRight) l37 c37 k37
  have FLaw := fun_mk (st := sLaw) l38 c38 k38
  have bIsNumber := FIsNumber.binds (ps := ["value"]) fun _ _ _ _ _ _ us hl => match us, hl with | [_], _ => rfl
  have bIsPair := FIsPair.binds (ps := ["value"]) fun _ _ _ _ _ _ us hl => match us, hl with | [_], _ => rfl
  have bIsVertex := FIsVertex.binds (ps := ["n", "value"]) fun _ _ _ _ _ _ us hl => match us, hl with | [_, _], _ => rfl
  have bIsEdge := FIsEdge.binds (ps := ["n", "value"]) fun _ _ _ _ _ _ us hl => match us, hl with | [_, _], _ => rfl
  have bMerged := FMerged.binds (ps := ["labels", "a", "b"]) fun _ _ _ _ _ _ us hl => match us, hl with | [_, _, _], _ => rfl
  have bEdgesError := FEdgesError.binds (ps := ["n", "edges"]) fun _ _ _ _ _ _ us hl => match us, hl with | [_, _], _ => rfl
  have bNeighboursOf := FNeighboursOf.binds (ps := ["forest", "vertex"]) fun _ _ _ _ _ _ us hl => match us, hl with | [_, _], _ => rfl
  have bListText := FListText.binds (ps := ["words"]) fun _ _ _ _ _ _ us hl => match us, hl with | [_], _ => rfl
  have bSlidesText := FSlidesText.binds (ps := ["slides"]) fun _ _ _ _ _ _ us hl => match us, hl with | [_], _ => rfl
  have bForestText := FForestText.binds (ps := ["forest"]) fun _ _ _ _ _ _ us hl => match us, hl with | [_], _ => rfl
  have bNumberIn := FNumberIn.binds (ps := ["word"]) fun _ _ _ _ _ _ us hl => match us, hl with | [_], _ => rfl
  have bPairIn := FPairIn.binds (ps := ["word", "sign"]) fun _ _ _ _ _ _ us hl => match us, hl with | [_, _], _ => rfl
  have bWordsOf := FWordsOf.binds (ps := ["text"]) fun _ _ _ _ _ _ us hl => match us, hl with | [_], _ => rfl
  have bSizeIn := FSizeIn.binds (ps := ["word"]) fun _ _ _ _ _ _ us hl => match us, hl with | [_], _ => rfl
  have bParseForest := FParseForest.binds (ps := ["text"]) fun _ _ _ _ _ _ us hl => match us, hl with | [_], _ => rfl
  have bParseSlides := FParseSlides.binds (ps := ["text"]) fun _ _ _ _ _ _ us hl => match us, hl with | [_], _ => rfl
  have bSideBySide := FSideBySide.binds (ps := ["first", "second"]) fun _ _ _ _ _ _ us hl => match us, hl with | [_, _], _ => rfl
  have bBlockingLamps := FBlockingLamps.binds (ps := ["forest", "setting", "u", "v"]) fun _ _ _ _ _ _ us hl => match us, hl with | [_, _, _, _], _ => rfl
  have bCheckLamp := FCheckLamp.binds (ps := ["setting", "value"]) fun _ _ _ _ _ _ us hl => match us, hl with | [_, _], _ => rfl
  have bSlideLamp := FSlideLamp.binds (ps := ["forest", "setting", "u", "v"]) fun _ _ _ _ _ _ us hl => match us, hl with | [_, _, _, _], _ => rfl
  have bPossibleSlides := FPossibleSlides.binds (ps := ["forest", "setting"]) fun _ _ _ _ _ _ us hl => match us, hl with | [_, _], _ => rfl
  have bIsPossible := FIsPossible.binds (ps := ["forest", "setting", "value"]) fun _ _ _ _ _ _ us hl => match us, hl with | [_, _, _], _ => rfl
  have bFollow := FFollow.binds (ps := ["forest", "setting", "slides"]) fun _ _ _ _ _ _ us hl => match us, hl with | [_, _, _], _ => rfl
  have bBackward := FBackward.binds (ps := ["slides"]) fun _ _ _ _ _ _ us hl => match us, hl with | [_], _ => rfl
  have bLDeck := FLDeck.binds (ps := ["_law_script"]) fun _ _ _ _ _ _ us hl => match us, hl with | [_], _ => rfl
  have bLDraw := FLDraw.binds (ps := ["_law_deck_here", "_law_many"]) fun _ _ _ _ _ _ us hl => match us, hl with | [_, _], _ => rfl
  have bLSame := FLSame.binds (ps := ["_law_found", "_law_due"]) fun _ _ _ _ _ _ us hl => match us, hl with | [_, _], _ => rfl
  have bLForest := FLForest.binds (ps := ["_law_deck_here", "_law_most"]) fun _ _ _ _ _ _ us hl => match us, hl with | [_, _], _ => rfl
  have bLNear := FLNear.binds (ps := ["_law_forest_here", "_law_vertex"]) fun _ _ _ _ _ _ us hl => match us, hl with | [_, _], _ => rfl
  have bLSetting := FLSetting.binds (ps := ["_law_deck_here", "_law_forest_here"]) fun _ _ _ _ _ _ us hl => match us, hl with | [_, _], _ => rfl
  have bLSlides := FLSlides.binds (ps := ["_law_forest_here", "_law_lamps"]) fun _ _ _ _ _ _ us hl => match us, hl with | [_, _], _ => rfl
  have bLMoved := FLMoved.binds (ps := ["_law_lamps", "_law_u", "_law_v"]) fun _ _ _ _ _ _ us hl => match us, hl with | [_, _, _], _ => rfl
  have bLBent := FLBent.binds (ps := ["_law_deck_here", "_law_text"]) fun _ _ _ _ _ _ us hl => match us, hl with | [_, _], _ => rfl
  have bLSmall := FLSmall.binds (ps := []) fun _ _ _ _ _ _ us hl => match us, hl with | [], _ => rfl
  have bLWords := FLWords.binds (ps := ["_law_text"]) fun _ _ _ _ _ _ us hl => match us, hl with | [_], _ => rfl
  have bLBesideRight := FLBesideRight.binds (ps := ["_law_first", "_law_second"]) fun _ _ _ _ _ _ us hl => match us, hl with | [_, _], _ => rfl
  have bLSlidesRight := FLSlidesRight.binds (ps := ["_law_deck_here", "_law_forest_here"]) fun _ _ _ _ _ _ us hl => match us, hl with | [_, _], _ => rfl
  have bLAcceptedRight := FLAcceptedRight.binds (ps := ["_law_text"]) fun _ _ _ _ _ _ us hl => match us, hl with | [_], _ => rfl
  have m_abs := PySem.W.mg_none_of X G z0
  have m_len := PySem.W.mg_none_of X G z1
  have m_int := PySem.W.mg_none_of X G z2
  have m_bool := PySem.W.mg_none_of X G z3
  have m_str := PySem.W.mg_none_of X G z4
  have m_list := PySem.W.mg_none_of X G z5
  have m_tuple := PySem.W.mg_none_of X G z6
  have m_isinstance := PySem.W.mg_none_of X G z7
  have m_range := PySem.W.mg_none_of X G z8
  have m_zip := PySem.W.mg_none_of X G z9
  have m_enumerate := PySem.W.mg_none_of X G z10
  have m_max := PySem.W.mg_none_of X G z11
  have m_min := PySem.W.mg_none_of X G z12
  have m_sorted := PySem.W.mg_none_of X G z13
  have m_reversed := PySem.W.mg_none_of X G z14
  have m_BadText := PySem.W.mg_of X G eaBadText
  have FBadtextInit := fun_mk (st := sBadtextInit) eHBadText eIBadText eJBadText
  have bBadtextInit := FBadtextInit.binds (ps := ["self", "index"]) fun _ _ _ _ _ _ us hl => match us, hl with | [_, _], _ => rfl
  have m_NONE := PySem.W.mg_of X G y0
  have m_MAX_VERTICES := PySem.W.mg_of X G y1
  refine ⟨PySem.W.fnOf "law" "law" (defArgs sLaw) (defBody sLaw) (defScope sLaw) .none kV38 dc38 pm38 an38 cd38 ct38, fun s v => .of_eq rfl, fun base _ _ => ?_⟩
  have eBadText : ErrC l.prog w K mg base "BadText" "index" cBadText := ⟨⟨⟨_, _, _, _, _, _, _, _, _, _, _, _, _, _, _, elBadText, erBadText⟩, e1BadText, e2BadText, e3BadText, e4BadText⟩, ⟨e5BadText, e6BadText, e2BadText, e7BadText⟩, ⟨e5BadText, e6BadText, e2BadText, e7BadText, e8BadText, e9BadText, eABadText, eBBadText⟩, cls_of e7BadText, eEBadText, m_BadText, _, _, _, eCBadText, eDBadText, ok_BadtextInit FBadtextInit ⟨⟨⟨_, _, _, _, _, _, _, _, _, _, _, _, _, _, _, elBadText, erBadText⟩, e1BadText, e2BadText, e3BadText, e4BadText⟩, eEBadText⟩, bBadtextInit⟩
  have ownIsNumber := fun {k : Nat} {sp : Sp} (G0 : FnOk l.prog w K mg base CX0 k f0 _ _ sp) => (Own.mk ⟨f0, _, G0, PySem.W.mg_of X G a0, k0, bIsNumber⟩ : Own l.prog w K mg base "is_number" k ["value"] sp)
  have ownIsPair := fun {k : Nat} {sp : Sp} (G0 : FnOk l.prog w K mg base CX0 k f1 _ _ sp) => (Own.mk ⟨f1, _, G0, PySem.W.mg_of X G a1, k1, bIsPair⟩ : Own l.prog w K mg base "is_pair" k ["value"] sp)
  have ownIsVertex := fun {k : Nat} {sp : Sp} (G0 : FnOk l.prog w K mg base CX0 k f2 _ _ sp) => (Own.mk ⟨f2, _, G0, PySem.W.mg_of X G a2, k2, bIsVertex⟩ : Own l.prog w K mg base "is_vertex" k ["n", "value"] sp)
  have ownIsEdge := fun {k : Nat} {sp : Sp} (G0 : FnOk l.prog w K mg base CX0 k f3 _ _ sp) => (Own.mk ⟨f3, _, G0, PySem.W.mg_of X G a3, k3, bIsEdge⟩ : Own l.prog w K mg base "is_edge" k ["n", "value"] sp)
  have ownMerged := fun {k : Nat} {sp : Sp} (G0 : FnOk l.prog w K mg base CX0 k f4 _ _ sp) => (Own.mk ⟨f4, _, G0, PySem.W.mg_of X G a4, k4, bMerged⟩ : Own l.prog w K mg base "merged" k ["labels", "a", "b"] sp)
  have ownEdgesError := fun {k : Nat} {sp : Sp} (G0 : FnOk l.prog w K mg base CX0 k f5 _ _ sp) => (Own.mk ⟨f5, _, G0, PySem.W.mg_of X G a5, k5, bEdgesError⟩ : Own l.prog w K mg base "edges_error" k ["n", "edges"] sp)
  have ownNeighboursOf := fun {k : Nat} {sp : Sp} (G0 : FnOk l.prog w K mg base CX0 k f6 _ _ sp) => (Own.mk ⟨f6, _, G0, PySem.W.mg_of X G a6, k6, bNeighboursOf⟩ : Own l.prog w K mg base "neighbours_of" k ["forest", "vertex"] sp)
  have ownListText := fun {k : Nat} {sp : Sp} (G0 : FnOk l.prog w K mg base CX0 k f7 _ _ sp) => (Own.mk ⟨f7, _, G0, PySem.W.mg_of X G a7, k7, bListText⟩ : Own l.prog w K mg base "list_text" k ["words"] sp)
  have ownSlidesText := fun {k : Nat} {sp : Sp} (G0 : FnOk l.prog w K mg base CX0 k f8 _ _ sp) => (Own.mk ⟨f8, _, G0, PySem.W.mg_of X G a8, k8, bSlidesText⟩ : Own l.prog w K mg base "slides_text" k ["slides"] sp)
  have ownForestText := fun {k : Nat} {sp : Sp} (G0 : FnOk l.prog w K mg base CX0 k f9 _ _ sp) => (Own.mk ⟨f9, _, G0, PySem.W.mg_of X G a9, k9, bForestText⟩ : Own l.prog w K mg base "forest_text" k ["forest"] sp)
  have ownNumberIn := fun {k : Nat} {sp : Sp} (G0 : FnOk l.prog w K mg base CX0 k f10 _ _ sp) => (Own.mk ⟨f10, _, G0, PySem.W.mg_of X G a10, k10, bNumberIn⟩ : Own l.prog w K mg base "number_in" k ["word"] sp)
  have ownPairIn := fun {k : Nat} {sp : Sp} (G0 : FnOk l.prog w K mg base CX0 k f11 _ _ sp) => (Own.mk ⟨f11, _, G0, PySem.W.mg_of X G a11, k11, bPairIn⟩ : Own l.prog w K mg base "pair_in" k ["word", "sign"] sp)
  have wnxWordsOf := fun {k : Nat} {sp : Sp} (G0 : FnOk l.prog w K mg base (L2.CX l.prog w) k f12 _ _ sp) => (OwnX.mk ⟨f12, _, G0, PySem.W.mg_of X G a12, k12, bWordsOf⟩ : OwnX l.prog w K mg base "words_of" k ["text"] sp)
  have wnxSizeIn := fun {k : Nat} {sp : Sp} (G0 : FnOk l.prog w K mg base (L2.CX l.prog w) k f13 _ _ sp) => (OwnX.mk ⟨f13, _, G0, PySem.W.mg_of X G a13, k13, bSizeIn⟩ : OwnX l.prog w K mg base "size_in" k ["word"] sp)
  have wnxParseForest := fun {k : Nat} {sp : Sp} (G0 : FnOk l.prog w K mg base (L2.CX l.prog w) k f14 _ _ sp) => (OwnX.mk ⟨f14, _, G0, PySem.W.mg_of X G a14, k14, bParseForest⟩ : OwnX l.prog w K mg base "parse_forest" k ["text"] sp)
  have wnxParseSlides := fun {k : Nat} {sp : Sp} (G0 : FnOk l.prog w K mg base (L2.CX l.prog w) k f15 _ _ sp) => (OwnX.mk ⟨f15, _, G0, PySem.W.mg_of X G a15, k15, bParseSlides⟩ : OwnX l.prog w K mg base "parse_slides" k ["text"] sp)
  have ownSideBySide := fun {k : Nat} {sp : Sp} (G0 : FnOk l.prog w K mg base CX0 k f16 _ _ sp) => (Own.mk ⟨f16, _, G0, PySem.W.mg_of X G a16, k16, bSideBySide⟩ : Own l.prog w K mg base "side_by_side" k ["first", "second"] sp)
  have ownBlockingLamps := fun {k : Nat} {sp : Sp} (G0 : FnOk l.prog w K mg base CX0 k f17 _ _ sp) => (Own.mk ⟨f17, _, G0, PySem.W.mg_of X G a17, k17, bBlockingLamps⟩ : Own l.prog w K mg base "blocking_lamps" k ["forest", "setting", "u", "v"] sp)
  have ownCheckLamp := fun {k : Nat} {sp : Sp} (G0 : FnOk l.prog w K mg base CX0 k f18 _ _ sp) => (Own.mk ⟨f18, _, G0, PySem.W.mg_of X G a18, k18, bCheckLamp⟩ : Own l.prog w K mg base "check_lamp" k ["setting", "value"] sp)
  have ownSlideLamp := fun {k : Nat} {sp : Sp} (G0 : FnOk l.prog w K mg base CX0 k f19 _ _ sp) => (Own.mk ⟨f19, _, G0, PySem.W.mg_of X G a19, k19, bSlideLamp⟩ : Own l.prog w K mg base "slide_lamp" k ["forest", "setting", "u", "v"] sp)
  have ownPossibleSlides := fun {k : Nat} {sp : Sp} (G0 : FnOk l.prog w K mg base CX0 k f20 _ _ sp) => (Own.mk ⟨f20, _, G0, PySem.W.mg_of X G a20, k20, bPossibleSlides⟩ : Own l.prog w K mg base "possible_slides" k ["forest", "setting"] sp)
  have ownIsPossible := fun {k : Nat} {sp : Sp} (G0 : FnOk l.prog w K mg base CX0 k f21 _ _ sp) => (Own.mk ⟨f21, _, G0, PySem.W.mg_of X G a21, k21, bIsPossible⟩ : Own l.prog w K mg base "is_possible" k ["forest", "setting", "value"] sp)
  have ownFollow := fun {k : Nat} {sp : Sp} (G0 : FnOk l.prog w K mg base CX0 k f22 _ _ sp) => (Own.mk ⟨f22, _, G0, PySem.W.mg_of X G a22, k22, bFollow⟩ : Own l.prog w K mg base "follow" k ["forest", "setting", "slides"] sp)
  have ownBackward := fun {k : Nat} {sp : Sp} (G0 : FnOk l.prog w K mg base CX0 k f23 _ _ sp) => (Own.mk ⟨f23, _, G0, PySem.W.mg_of X G a23, k23, bBackward⟩ : Own l.prog w K mg base "backward" k ["slides"] sp)
  have ownLDeck := fun {k : Nat} {sp : Sp} (G0 : FnOk l.prog w K mg base CX0 k f24 _ _ sp) => (Own.mk ⟨f24, _, G0, PySem.W.mg_of X G a24, k24, bLDeck⟩ : Own l.prog w K mg base "_law_deck" k ["_law_script"] sp)
  have ownLDraw := fun {k : Nat} {sp : Sp} (G0 : FnOk l.prog w K mg base CX0 k f25 _ _ sp) => (Own.mk ⟨f25, _, G0, PySem.W.mg_of X G a25, k25, bLDraw⟩ : Own l.prog w K mg base "_law_draw" k ["_law_deck_here", "_law_many"] sp)
  have ownLSame := fun {k : Nat} {sp : Sp} (G0 : FnOk l.prog w K mg base CX0 k f26 _ _ sp) => (Own.mk ⟨f26, _, G0, PySem.W.mg_of X G a26, k26, bLSame⟩ : Own l.prog w K mg base "_law_same" k ["_law_found", "_law_due"] sp)
  have ownLForest := fun {k : Nat} {sp : Sp} (G0 : FnOk l.prog w K mg base CX0 k f27 _ _ sp) => (Own.mk ⟨f27, _, G0, PySem.W.mg_of X G a27, k27, bLForest⟩ : Own l.prog w K mg base "_law_forest" k ["_law_deck_here", "_law_most"] sp)
  have ownLNear := fun {k : Nat} {sp : Sp} (G0 : FnOk l.prog w K mg base CX0 k f28 _ _ sp) => (Own.mk ⟨f28, _, G0, PySem.W.mg_of X G a28, k28, bLNear⟩ : Own l.prog w K mg base "_law_near" k ["_law_forest_here", "_law_vertex"] sp)
  have ownLSetting := fun {k : Nat} {sp : Sp} (G0 : FnOk l.prog w K mg base CX0 k f29 _ _ sp) => (Own.mk ⟨f29, _, G0, PySem.W.mg_of X G a29, k29, bLSetting⟩ : Own l.prog w K mg base "_law_setting" k ["_law_deck_here", "_law_forest_here"] sp)
  have ownLSlides := fun {k : Nat} {sp : Sp} (G0 : FnOk l.prog w K mg base CX0 k f30 _ _ sp) => (Own.mk ⟨f30, _, G0, PySem.W.mg_of X G a30, k30, bLSlides⟩ : Own l.prog w K mg base "_law_slides" k ["_law_forest_here", "_law_lamps"] sp)
  have ownLMoved := fun {k : Nat} {sp : Sp} (G0 : FnOk l.prog w K mg base CX0 k f31 _ _ sp) => (Own.mk ⟨f31, _, G0, PySem.W.mg_of X G a31, k31, bLMoved⟩ : Own l.prog w K mg base "_law_moved" k ["_law_lamps", "_law_u", "_law_v"] sp)
  have ownLBent := fun {k : Nat} {sp : Sp} (G0 : FnOk l.prog w K mg base CX0 k f32 _ _ sp) => (Own.mk ⟨f32, _, G0, PySem.W.mg_of X G a32, k32, bLBent⟩ : Own l.prog w K mg base "_law_bent" k ["_law_deck_here", "_law_text"] sp)
  have ownLSmall := fun {k : Nat} {sp : Sp} (G0 : FnOk l.prog w K mg base CX0 k f33 _ _ sp) => (Own.mk ⟨f33, _, G0, PySem.W.mg_of X G a33, k33, bLSmall⟩ : Own l.prog w K mg base "_law_small" k [] sp)
  have ownLWords := fun {k : Nat} {sp : Sp} (G0 : FnOk l.prog w K mg base CX0 k f34 _ _ sp) => (Own.mk ⟨f34, _, G0, PySem.W.mg_of X G a34, k34, bLWords⟩ : Own l.prog w K mg base "_law_words" k ["_law_text"] sp)
  have ownLBesideRight := fun {k : Nat} {sp : Sp} (G0 : FnOk l.prog w K mg base CX0 k f35 _ _ sp) => (Own.mk ⟨f35, _, G0, PySem.W.mg_of X G a35, k35, bLBesideRight⟩ : Own l.prog w K mg base "_law_beside_right" k ["_law_first", "_law_second"] sp)
  have ownLSlidesRight := fun {k : Nat} {sp : Sp} (G0 : FnOk l.prog w K mg base CX0 k f36 _ _ sp) => (Own.mk ⟨f36, _, G0, PySem.W.mg_of X G a36, k36, bLSlidesRight⟩ : Own l.prog w K mg base "_law_slides_right" k ["_law_deck_here", "_law_forest_here"] sp)
  have ownLAcceptedRight := fun {k : Nat} {sp : Sp} (G0 : FnOk l.prog w K mg base CX0 k f37 _ _ sp) => (Own.mk ⟨f37, _, G0, PySem.W.mg_of X G a37, k37, bLAcceptedRight⟩ : Own l.prog w K mg base "_law_accepted_right" k ["_law_text"] sp)
  have oLDeck := ownLDeck (ok_LDeck (k := 0) FLDeck m_abs)
  have oLDraw := ownLDraw (ok_LDraw (k := 0) FLDraw m_len)
  have oLForest := ownLForest (ok_LForest FLForest m_list m_range m_len m_max m_min m_tuple m_sorted oLDraw)
  have oLNear := ownLNear (ok_LNear (k := 0) FLNear m_sorted)
  have oLSetting := ownLSetting (ok_LSetting FLSetting m_list m_range m_len m_tuple m_sorted oLDraw oLNear)
  have oNeighboursOf := ownNeighboursOf (ok_NeighboursOf (k := 0) FNeighboursOf m_tuple)
  have oBlockingLamps := ownBlockingLamps (ok_BlockingLamps (k := 0) FBlockingLamps m_tuple oNeighboursOf)
  have oIsNumber := ownIsNumber (ok_IsNumber (k := 0) FIsNumber m_isinstance m_int m_bool)
  have oCheckLamp := ownCheckLamp (ok_CheckLamp FCheckLamp oIsNumber)
  have oSlideLamp := ownSlideLamp (ok_SlideLamp FSlideLamp m_tuple m_sorted oIsNumber oCheckLamp oNeighboursOf oBlockingLamps)
  have oPossibleSlides := ownPossibleSlides (ok_PossibleSlides FPossibleSlides m_tuple oNeighboursOf oBlockingLamps)
  have oIsPair := ownIsPair (ok_IsPair (k := 0) FIsPair m_isinstance m_tuple m_len)
  have oIsPossible := ownIsPossible (ok_IsPossible FIsPossible oIsPair oIsNumber oPossibleSlides)
  have oFollow := ownFollow (ok_Follow FFollow m_isinstance m_tuple m_enumerate oIsPossible oSlideLamp)
  have oBackward := ownBackward (ok_Backward (k := 0) FBackward m_tuple m_reversed)
  have oIsNumberV := ownIsNumber (ok_IsNumberV (k := 0) FIsNumber m_isinstance m_int m_bool)
  have oIsPairV := ownIsPair (ok_IsPairV (k := 0) FIsPair m_isinstance m_tuple m_len)
  have oIsVertexV := ownIsVertex (ok_IsVertexV FIsVertex oIsNumberV)
  have oMerged := ownMerged (ok_Merged (k := 0) FMerged)
  have oIsEdge := ownIsEdge (ok_IsEdge FIsEdge oIsPairV oIsVertexV)
  have oEdgesError := ownEdgesError (ok_EdgesError FEdgesError m_range m_enumerate oIsEdge oMerged)
  have oNumberIn := ownNumberIn (ok_NumberIn (k := 0) FNumberIn m_len m_int)
  have oPairIn := ownPairIn (ok_PairIn (k := 0) FPairIn oNumberIn)
  have oSideBySide := ownSideBySide (ok_SideBySide (k := 0) FSideBySide m_tuple m_MAX_VERTICES)
  have xWordsOf := wnxWordsOf (ok_WordsOf FWordsOf m_isinstance m_str eBadText)
  have xParseSlides := wnxParseSlides (ok_ParseSlides FParseSlides m_tuple m_NONE eBadText xWordsOf oPairIn)
  have xSizeIn := wnxSizeIn (ok_SizeIn FSizeIn m_MAX_VERTICES eBadText oNumberIn)
  have xParseForest := wnxParseForest (ok_ParseForest FParseForest m_tuple m_NONE eBadText xWordsOf xSizeIn oPairIn oEdgesError)
  have oListText := ownListText (ok_ListText (k := 0) FListText m_NONE)
  have oSlidesText := ownSlidesText (ok_SlidesText FSlidesText oListText)
  have oForestText := ownForestText (ok_ForestText FForestText oListText)
  have oLSlides := ownLSlides (ok_LSlides FLSlides m_sorted oLNear)
  have oLMoved := ownLMoved (ok_LMoved (k := 0) FLMoved m_tuple m_sorted)
  have oLSame0 := ownLSame (ok_LSameNo (k := 0) FLSame)
  have oLSame1 := ownLSame (ok_LSame FLSame m_isinstance m_int m_bool m_tuple m_str m_len m_zip oLSame0)
  have oLSame2 := ownLSame (ok_LSame FLSame m_isinstance m_int m_bool m_tuple m_str m_len m_zip oLSame1)
  have oLSame3 := ownLSame (ok_LSame FLSame m_isinstance m_int m_bool m_tuple m_str m_len m_zip oLSame2)
  have oLSame4 := ownLSame (ok_LSame FLSame m_isinstance m_int m_bool m_tuple m_str m_len m_zip oLSame3)
  have oLBent := ownLBent (ok_LBent FLBent m_len oLDraw)
  have oLSmall := ownLSmall (ok_LSmall (k := 0) FLSmall)
  have oLWords := ownLWords (ok_LWords (k := 0) FLWords)
  have oLAcceptedRight := ownLAcceptedRight (ok_LAcceptedRight FLAcceptedRight m_BadText (exm_own e2BadText e7BadText e3BadText eFBadText) xParseForest xParseSlides oForestText oSlidesText)
  have oLBesideRight := ownLBesideRight (ok_LBesideRight FLBesideRight m_int m_str oLWords oForestText oSideBySide)
  have oLSlidesRight := ownLSlidesRight (ok_LSlidesRight FLSlidesRight m_range m_int m_tuple m_len oLSetting oLDraw oLSlides oLMoved oSlidesText xParseSlides oLSame4 oFollow oLWords oBackward)
  exact ok_Law FLaw m_range m_tuple m_len oLDeck oLDraw oLSmall oLForest oLSame4 oForestText oSlidesText xParseForest oLSlidesRight oLBesideRight oLAcceptedRight oLBent
end TL
open PySem PySem.W PyProof.Rows
set_option maxHeartbeats 0 in
theorem PySem.Challenge.cw_treelamps_k73_whole_texts_there_and_back_holds : PySem.Challenge.rw_treelamps_k73_whole_texts_there_and_back.Holds := by
  w_on; o_law; k_head; (case hw => w_witness2)
  k_fill
  refine TL.walk_ofG (l := PySem.Challenge.rw_treelamps_k73_whole_texts_there_and_back) (n := 63) (k := 7) (x := "_law_script") (sp := fun w => TL.spLaw _) rfl (by decide) rfl ⟨rfl, by decide, by decide⟩
    (fun w h Y => PySem.W.kIn_of Y) ?F (fun _ _ a ns hl _ hS => ⟨a, ns, rfl, hS, hl, fun _ => rfl⟩)
  case F =>
    intro w mg fa h KX G hmg
    refine' TL.all_mk KX G hmg ?a0 ?l0 ?c0 ?k0 ?a1 ?l1 ?c1 ?k1 ?a2 ?l2 ?c2 ?k2 ?a3 ?l3 ?c3 ?k3 ?a4 ?l4 ?c4 ?k4 ?a5 ?l5 ?c5 ?k5 ?a6 ?l6 ?c6 ?k6 ?a7 ?l7 ?c7 ?k7 ?a8 ?l8 ?c8 ?k8 ?a9 ?l9 ?c9 ?k9 ?a10 ?l10 ?c10 ?k10 ?a11 ?l11 ?c11 ?k11 ?a12 ?l12 ?c12 ?k12 ?a13 ?l13 ?c13 ?k13 ?a14 ?l14 ?c14 ?k14 ?a15 ?l15 ?c15 ?k15 ?a16 ?l16 ?c16 ?k16 ?a17 ?l17 ?c17 ?k17 ?a18 ?l18 ?c18 ?k18 ?a19 ?l19 ?c19 ?k19 ?a20 ?l20 ?c20 ?k20 ?a21 ?l21 ?c21 ?k21 ?a22 ?l22 ?c22 ?k22 ?a23 ?l23 ?c23 ?k23 ?a24 ?l24 ?c24 ?k24 ?a25 ?l25 ?c25 ?k25 ?a26 ?l26 ?c26 ?k26 ?a27 ?l27 ?c27 ?k27 ?a28 ?l28 ?c28 ?k28 ?a29 ?l29 ?c29 ?k29 ?a30 ?l30 ?c30 ?k30 ?a31 ?l31 ?c31 ?k31 ?a32 ?l32 ?c32 ?k32 ?a33 ?l33 ?c33 ?k33 ?a34 ?l34 ?c34 ?k34 ?a35 ?l35 ?c35 ?k35 ?a36 ?l36 ?c36 ?k36 ?a37 ?l37 ?c37 ?k37 ?a38 ?l38 ?c38 ?k38 ?eaBadText ?elBadText ?erBadText ?e1BadText ?e2BadText ?e3BadText ?e4BadText ?e5BadText ?e6BadText ?e7BadText ?e8BadText ?e9BadText ?eABadText ?eBBadText ?eCBadText ?eDBadText ?eEBadText ?eFBadText ?eGBadText ?eHBadText ?eIBadText ?eJBadText ?y0 ?y1 ?z0 ?z1 ?z2 ?z3 ?z4 ?z5 ?z6 ?z7 ?z8 ?z9 ?z10 ?z11 ?z12 ?z13 ?z14
    (case a0 => k_is); (case l0 => k_is); (case c0 => k_is); (case k0 => k_is); (case a1 => k_is); (case l1 => k_is); (case c1 => k_is); (case k1 => k_is); (case a2 => k_is); (case l2 => k_is); (case c2 => k_is); (case k2 => k_is); (case a3 => k_is); (case l3 => k_is); (case c3 => k_is); (case k3 => k_is); (case a4 => k_is); (case l4 => k_is); (case c4 => k_is); (case k4 => k_is); (case a5 => k_is); (case l5 => k_is); (case c5 => k_is); (case k5 => k_is); (case a6 => k_is); (case l6 => k_is); (case c6 => k_is); (case k6 => k_is); (case a7 => k_is); (case l7 => k_is); (case c7 => k_is); (case k7 => k_is); (case a8 => k_is); (case l8 => k_is); (case c8 => k_is); (case k8 => k_is); (case a9 => k_is); (case l9 => k_is); (case c9 => k_is); (case k9 => k_is); (case a10 => k_is); (case l10 => k_is); (case c10 => k_is); (case k10 => k_is); (case a11 => k_is); (case l11 => k_is); (case c11 => k_is); (case k11 => k_is); (case a12 => k_is); (case l12 => k_is); (case c12 => k_is); (case k12 => k_is); (case a13 => k_is); (case l13 => k_is); (case c13 => k_is); (case k13 => k_is); (case a14 => k_is); (case l14 => k_is); (case c14 => k_is); (case k14 => k_is); (case a15 => k_is); (case l15 => k_is); (case c15 => k_is); (case k15 => k_is); (case a16 => k_is); (case l16 => k_is); (case c16 => k_is); (case k16 => k_is); (case a17 => k_is); (case l17 => k_is); (case c17 => k_is); (case k17 => k_is); (case a18 => k_is); (case l18 => k_is); (case c18 => k_is); (case k18 => k_is); (case a19 => k_is); (case l19 => k_is); (case c19 => k_is); (case k19 => k_is); (case a20 => k_is); (case l20 => k_is); (case c20 => k_is); (case k20 => k_is); (case a21 => k_is); (case l21 => k_is); (case c21 => k_is); (case k21 => k_is); (case a22 => k_is); (case l22 => k_is); (case c22 => k_is); (case k22 => k_is); (case a23 => k_is); (case l23 => k_is); (case c23 => k_is); (case k23 => k_is); (case a24 => k_is); (case l24 => k_is); (case c24 => k_is); (case k24 => k_is); (case a25 => k_is); (case l25 => k_is); (case c25 => k_is); (case k25 => k_is); (case a26 => k_is); (case l26 => k_is); (case c26 => k_is); (case k26 => k_is); (case a27 => k_is); (case l27 => k_is); (case c27 => k_is); (case k27 => k_is); (case a28 => k_is); (case l28 => k_is); (case c28 => k_is); (case k28 => k_is); (case a29 => k_is); (case l29 => k_is); (case c29 => k_is); (case k29 => k_is); (case a30 => k_is); (case l30 => k_is); (case c30 => k_is); (case k30 => k_is); (case a31 => k_is); (case l31 => k_is); (case c31 => k_is); (case k31 => k_is); (case a32 => k_is); (case l32 => k_is); (case c32 => k_is); (case k32 => k_is); (case a33 => k_is); (case l33 => k_is); (case c33 => k_is); (case k33 => k_is); (case a34 => k_is); (case l34 => k_is); (case c34 => k_is); (case k34 => k_is); (case a35 => k_is); (case l35 => k_is); (case c35 => k_is); (case k35 => k_is); (case a36 => k_is); (case l36 => k_is); (case c36 => k_is); (case k36 => k_is); (case a37 => k_is); (case l37 => k_is); (case c37 => k_is); (case k37 => k_is); (case a38 => k_is); (case l38 => k_is); (case c38 => k_is); (case k38 => k_is); (case eaBadText => k_is); (case elBadText => k_is); (case erBadText => rfl); (case e1BadText => k_is); (case e2BadText => k_is); (case e3BadText => k_is); (case e4BadText => k_is); (case e5BadText => k_is); (case e6BadText => k_is); (case e7BadText => k_is); (case e8BadText => k_is); (case e9BadText => k_is); (case eABadText => k_is); (case eBBadText => k_is); (case eCBadText => k_is); (case eDBadText => k_is); (case eEBadText => k_is); (case eFBadText => k_is); (case eGBadText => k_is); (case eHBadText => k_is); (case eIBadText => k_is); (case eJBadText => k_is); (case y0 => k_is); (case y1 => k_is); (case z0 => k_is); (case z1 => k_is); (case z2 => k_is); (case z3 => k_is); (case z4 => k_is); (case z5 => k_is); (case z6 => k_is); (case z7 => k_is); (case z8 => k_is); (case z9 => k_is); (case z10 => k_is); (case z11 => k_is); (case z12 => k_is); (case z13 => k_is); (case z14 => k_is)
