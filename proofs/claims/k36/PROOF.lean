import PyProof.Rows.All
import Wide.All
import OpenK.AllK
import Wide.FinOn
import HandS.ForMost
import HandS.Rev
import HandS.TupAny
import HandS.Wide
import PyProof.ReprRoads
import HandS.Defaults
import HandS.Head0
import HandS.Head1
import HandS.Head2
import HandS.HeadHook1
import HandS.HeadHook2
import HandS.HeadHook3
import KE.SortData
import HandS.Conv
import HandS.IsInst
import HandS.Style
import HandS.DictComp
import HandS.ExcInit
import HandS.ExcField
import HandS.WordsExc
import KE.KExcIs
import KE.KTryMore
import HandS.ExcIs
import HandS.EndTab
import HandS.TupSets
import KE.GoesMore
import HandS.TupLe
import HandS.TryOnly
import PyProof.SeqIndex
import KE.KDictDisplayH
import KE.KDictSum
import HandS.ExcOwn
import HandS.Star
import HandS.CallLocal
import HandS.CallSlots
import HandS.NamedTupGet
import KE.KCallOwn
import PyProof.WalksMore
import PyProof.CollectIter
import HandS.WrittenGet
import HandS.Lambda
import HandS.Nested
import KE.DataMinMax
import HandS.SortKw
import HandS.Keys
import KE.KSortKeySt
import KE.DatumOrd
import PySem.Challenge.RW_treelamps_k36_shortest_plan
set_option Elab.async false
set_option linter.all false
set_option maxRecDepth 100000
set_option maxHeartbeats 4000000
namespace TL
open PySem PySem.Spec PyProof.Rows L2

/-! ### defs that show data: they run where no text is being made -/
/-- as the layer's promise of a def, for callers outside of any showing -/
structure FnG (P : Program) (w : World) (K : PySem.W.Frag) (mg : Str → Option Value)
    (base : Heap) (k : Nat) (f : Addr) (fd : FuncData) (ps : List Str) (sp : Sp) : Prop where
  wide : ∀ vs H Q E, sp vs H Q E → vs.length = ps.length
  goes : ∀ (A : Around) (out : List Env) (s : Shared) (H : Hp) (args : Args) (us : List Value)
    (vs : List V) (Q : VK) (E : XK), Room k A → A.guards = some [] →
    Env0 P w K mg base A out s H → BindsTo s fd args (ps.zip us) → Vals vs us → sp vs H Q E →
    codeAny (model P w) A (.call (.ref f) args) (CR CX0 out P w H s Q E) s
section
variable {P : Program} {w : World} {K : PySem.W.Frag} {mg : Str → Option Value} {base : Heap}
theorem FnG.of {k : Nat} {f : Addr} {fd : FuncData} {ps : List Str} {sp : Sp}
    (F : FnOk P w K mg base CX0 k f fd ps sp) : FnG P w K mg base k f fd ps sp :=
  ⟨F.len, fun A out s H args us vs Q E hr _ => F.run A out s H args us vs Q E hr⟩

theorem okG {x qual : Str} {st : Stmt} {f : Addr} {fd : FuncData} {N ps : List Str} {k : Nat} {sp : Sp}
    (F : Fun K x qual st f fd) (S : FnScope N ps (defScope st))
    (len : ∀ vs H Q E, sp vs H Q E → vs.length = ps.length)
    (hb : ∀ (cdv : Value) (A : Around) (out : List Env) (s : Shared) (H : Hp) (vs : List V) (Q : VK) (E : XK),
      Room k (A.deeper (envOfC qual (defScope st) s.heap.objs.size f cdv)) → A.guards = some [] → sp vs H Q E →
      ∃ t, PSs (cxOf CX0 P w K mg base N qual (defScope st) f cdv A out s H E).nox (defBody st) t ∧
        t { nx := fun _ H' => Q .non H', rt := Q } (start N vs) H) :
    FnG P w K mg base (k + 1) f fd ps sp := by
  obtain ⟨oc, od, kV, doc, pm, an, cdv, ct, osl, rfl, lk, hcd⟩ := F.ex
  refine ⟨len, fun A out s H args us vs Q E hr gd e0 bnd r hsp => ?_⟩
  have stays : ∀ b o, base.get? b = some o → s.heap.get? b = some o := fun b o e => (e0.bs b o e).1
  have KX : K.In s.heap := e0.mod.kin.keeps stays
  have nl : s.heap.NoLimit := e0.mod.nolimit.keeps stays
  have kinds : ∀ y ∈ ps.zip us, (defScope st).names.lookup y.1 = some .local ∨
      ((defScope st).names.lookup y.1 = some .cell ∧
        ((cellsFrom (s.heap.objs.size + 1) (defScope st).names []).lookup y.1).isSome = true) := by
    rintro ⟨n, v⟩ hy
    exact (S.par n (List.of_mem_zip hy).1).imp id fun q => ⟨q, PySem.W.cellsFrom_some _ _ _ (.inl q)⟩
  refine codeAny_call_function hr.depth (KX _ _ lk) rfl S.co S.gen rfl
    (PySem.W.codeRec_of KX hcd) (bnd _ _ _ _ ?_)
  refine wpAny_newFunctionEnv_cells S.kind kinds fun env he s1 ic => ?_
  subst he
  refine ⟨nl.keeps ic.toInCall.keep, codeAny_func ?_⟩
  obtain ⟨t, ht, hq⟩ := hb cdv A out s H vs Q E (hr.deeper _) gd hsp
  have J := inv_start (CX := CX0) (E := E) S hr.hd e0 (len _ _ _ _ hsp) r ic
  refine wpAny_mono (ht.nox.run [] s1 (start N vs) H _ J hq) (fun fl s' hs => ?_) fun e s' hs => hs
  match fl, hs with
  | .ret u, ⟨v, σ', H', J', rv, q⟩ => exact ⟨v, H', J'.os, J'.bare, J'.base, J'.hok, rv, q⟩
  | .next, ⟨σ', H', J', q⟩ => exact ⟨V.non, H', J'.os, J'.bare, J'.base, J'.hok, rfl, q⟩
  | .brk, ⟨_, _, _, q⟩ => exact False.elim q
  | .cont, ⟨_, _, _, q⟩ => exact False.elim q
end

section
variable {X : Cx} {k : Nat} {f : Addr} {fd : FuncData} {ps : List Str} {sp : Sp} {x : Str} {p pos : Pos}
  {e : Expr} {es : List Expr} {t : TA}
theorem pe_callG (F : FnG X.prog X.w X.K X.mg X.base k f fd ps sp) (hr : Room k X.A) (gd : X.A.guards = some [])
    (hg : Gl X x) (hm : X.mg x = some (.ref f)) (hk : PySem.W.keepIn X.K (.ref f) = true) (hb : Binds X.K fd ps [])
    (ha : PA X (e :: es) t) (hdb : (x == ("__debug__" : Str)) = false := by decide)
    (he : starEach (e :: es) X.env = (false, eval e X.env) :: starEach es X.env := by rfl)
    (hpl : (backTo pos (starEach es X.env)).any (·.1) = false := by rfl) :
    PE X (.Call (.Name x p) (e :: es) [] pos) (tCall sp [] E0 t) := by
  refine ⟨fun pins s σ H Q I h => wpAny_Call_Name_kw (ld_glob I hg hm ?_ hdb)⟩
  refine PySem.W.callWith_K (h₀ := X.base) I.ok.mod.kin hk
    (thn (ha.run pos pins s σ H _ I h) fun us s1 ⟨vs, H1, I1, r, q⟩ => ⟨I1.kIn, ?_⟩) he hpl
  have q1 : sp (vs ++ []) H1 Q E0 := q
  have q2 : sp vs H1 Q E0 := by rw [List.append_nil] at q1; exact q1
  have bd := hb s1 us I1.kIn (by rw [List.append_nil, ← r.length]; exact F.wide _ _ _ _ q2)
  rw [List.append_nil] at bd
  refine wpAny_call (codeAny_mono (F.goes X.A X.stack s1 H1 ⟨us, []⟩ us vs Q E0 hr gd I1.env0 bd r q2)
    fun res s' hq => ?_)
  match res, hq with
  | .ok (.ret u), hq => exact I1.after hq
  | .ok .next, hq => exact False.elim hq
  | .ok .brk, hq => exact False.elim hq
  | .ok .cont, hq => exact False.elim hq
  | .error e, hq => exact False.elim hq
end

/-! ### the law's own call -/
theorem law_callG {P : Program} {w : World} {K : PySem.W.Frag} {mg mb : Str → Option Value} {k : Nat}
    {fa a : Addr} {fd : FuncData} {x : Str} {sp : Sp} {s : Shared} {vs : List Value} {ns : List Int}
    (KX : K.In s.heap) (hns : s.heap.Ns mainGlobals mg) (hb : s.heap.Ns builtinsNs mb)
    (hbb : ∀ x : Str, x ≠ "__name__" → mb x = bootBuiltins x) (nl : s.heap.NoLimit) (hg : s.gens = #[])
    (ha : s.heap.get? a = some { cls := .type "list", data := .seq vs.toArray }) (hi : IntsAre vs ns)
    (hl : ns.length ≤ sizeLine) (hr : Room k callerA)
    (F : ∀ base : Heap, K.In base → base.Ns mainGlobals mg → FnG P w K mg base k fa fd [x] sp)
    (bnd : ∀ (s : Shared) (u : Value), BindsTo s fd ⟨[u], []⟩ [(x, u)])
    (hsp : ∀ H : Hp, Only H → SqL K H a (ns.map V.int) → sp [.ref a] H (fun v _ => v = .bl true) E0) :
    codeAny (model P w) callerA (.call (.ref fa) ⟨[.ref a], []⟩)
      (fun r s' => r = .ok (.ret (.bool true)) ∧ OldK s.heap s'.heap ∧ s'.os = s.os ∧ AllBare s'.gens) s := by
  have rv := vals_ints hi
  have core : ∀ H : Hp, Only H → SqL K H a (ns.map V.int) → HOk P w H s.heap →
      (∀ b u, H b = some u → b = a) → ((∃ u, H a = some u) → K.lookup a = none) →
      codeAny (model P w) callerA (.call (.ref fa) ⟨[.ref a], []⟩)
        (fun r s' => r = .ok (.ret (.bool true)) ∧ OldK s.heap s'.heap ∧ s'.os = s.os ∧ AllBare s'.gens) s := by
    intro H hO hS hok hA hK
    have dictFree : ∀ {b : Addr} {o : Obj} {es : Array DictEntry} {ep : Nat},
        s.heap.get? b = some o → o.data = .dict es ep → H b = none := by
      intro b o es ep e d
      cases q : H b with
      | none => rfl
      | some u =>
        rw [hA b u q, ha] at e
        cases e
        exact nomatch d
    have nsK : ∀ {b : Addr} {m : Str → Option Value}, s.heap.Ns b m → (hidT s.heap H).Ns b m := by
      rintro b m ⟨o, es, ep, e, d, r⟩
      exact ⟨o, es, ep, hidT_get e (dictFree e d), d, r⟩
    have hKb : K.In (hidT s.heap H) := by
      intro b o e
      refine hidT_get (KX b o e) ?_
      cases q : H b with
      | none => rfl
      | some u =>
        have eb := hA b u q
        rw [eb] at e q
        rw [hK ⟨u, q⟩] at e
        cases e
    have hM : Mod K mg (hidT s.heap H) :=
      ⟨hKb, nsK hns, ⟨mb, nsK hb, hbb⟩, let ⟨mc, h1, h2⟩ := nl; ⟨mc, nsK h1, h2⟩⟩
    have e0 : Env0 P w K mg (hidT s.heap H) callerA [] s H :=
      ⟨rfl, hM, fun b o e => of_hidT e, Nat.le_of_eq (hidT_size _ _), trivial, fun b z => (nomatch z), hok, .of_eq hg⟩
    refine codeAny_mono ((F _ hKb (nsK hns)).goes callerA [] s H ⟨[.ref a], []⟩ [.ref a] [.ref a] _ _ hr rfl
      e0 (bnd s (.ref a)) (.cons rfl .nil) (hsp H hO hS)) fun r s' h => ?_
    match r, h with
    | .error e, h => exact False.elim h
    | .ok .next, h => exact False.elim h
    | .ok .brk, h => exact False.elim h
    | .ok .cont, h => exact False.elim h
    | .ok (.ret u), h =>
      obtain ⟨v, H', os, bare, un, hok', r', q⟩ := h
      obtain rfl : v = .bl true := q
      obtain rfl : u = Value.bool true := r'
      refine ⟨rfl, OldK.of_keep fun b o e => ?_, os, bare⟩
      rcases hO b with z | ⟨ob, xs, z⟩
      · exact un.keep b o e z (fun m => (nomatch m)) (fun m => (nomatch m))
      · have z2 := un.frzs b ob _ z
        have e1 := (hok b _ z).1
        have e2 := (hok' b _ z2).1
        rw [e] at e1
        cases e1
        exact e2
  cases hk : K.lookup a with
  | some o =>
    have e := KX a o hk
    rw [ha] at e
    cases e
    refine core (fun _ => none) (fun _ => .inl rfl) (.inr ⟨_, vs.toArray, _, hk, rfl, rfl, rfl, ?_, by simpa using rv⟩)
      (fun b u z => (nomatch z)) (fun b u z => (nomatch z)) fun ⟨u, z⟩ => (nomatch z)
    rw [List.size_toArray, hi.length]
    exact hl
  | none =>
    let ob : Obj := { cls := .type "list", data := .seq vs.toArray }
    let G : Hp := fun b => if b = a then some (.frz ob (.lst (ns.map V.int))) else none
    have at_a : G a = some (.frz ob (.lst (ns.map V.int))) := if_pos rfl
    have off : ∀ b, b ≠ a → G b = none := fun b z => if_neg z
    refine core G (fun b => ?_) (.inl (.inr ⟨ob, at_a⟩)) (fun b u z => ?_) (fun b u z => ?_) fun _ => hk
    · by_cases hb : b = a
      · exact .inr ⟨ob, _, by rw [hb]; exact at_a⟩
      · exact .inl (off b hb)
    · by_cases hb : b = a
      · rw [hb, at_a] at z
        cases z
        rw [hb]
        exact ⟨ha, by rw [List.length_map]; exact hl, vs, _, rv, ha⟩
      · rw [off b hb] at z
        cases z
    · by_cases hb : b = a
      · exact hb
      · rw [off b hb] at z
        cases z

theorem walk_ofG {l : PySem.W.OpenLaw} {n k : Nat} {q : Program} {loose : List Str}
    {XP : (Str → Option Value) → Heap → Prop} {YP : World → Heap → Prop} {d : DefRec}
    {K : Params → PySem.W.Frag} {sp : World → Sp} {x : Str}
    (hn : l.most = some n) (hn2 : n ≤ sizeLine) (hdf : d.params.defaults = []) (hr : Room k callerA)
    (hY : ∀ (w : World) (h : Heap), YP w h → (K w.params).In h)
    (F : ∀ (w : World) (mg : Str → Option Value) (fa : Addr) (h : Heap), (K w.params).In h →
      h.Ns mainGlobals mg → mg d.name = some (.ref fa) →
      ∃ fd : FuncData, (∀ (s : Shared) (u : Value), BindsTo s fd ⟨[u], []⟩ [(x, u)]) ∧
        ∀ base : Heap, (K w.params).In base → base.Ns mainGlobals mg →
          FnG l.prog w (K w.params) mg base k fa fd [x] (sp w))
    (hsp : ∀ (w : World) (H : Hp) (a : Addr) (ns : List Int), ns.length ≤ n → Only H →
      SqL (K w.params) H a (ns.map V.int) → sp w [.ref a] H (fun v _ => v = .bl true) E0) :
    PySem.W.WalkO q loose XP YP l.row.toRowW d [] (fun f vs => PySem.call f vs) := by
  refine Att.attach_call hn hdf fun w s₀ s₁ mg mb fa o pm cd doc a vs ns G Y ho hd hcd hmg hobj hints hlen hg => ?_
  obtain ⟨fd, hb, hF⟩ := F w mg fa _ (hY w _ Y) G.T.g hmg
  exact law_callG (hY w _ Y) G.T.g G.T.b G.T.builtins G.T.nolimit hg hobj hints
    (Nat.le_trans hlen hn2) hr hF hb fun H hO hS => hsp w H a ns hlen hO hS
end TL
namespace TL
open PySem PySem.Spec PyProof.Rows L2
/-! ### the head by one run in the kernel, its facts by names -/
abbrev AlZ : Type := Bool × (List He.FnW × List (Option (List (Option (Str × Int)))))
section
variable {ex : List (PySem.W.Frag → Bool)} {fn : List He.DefD} {ts : List He.Tab} {w : World} {K : PySem.W.Frag}
def obsZ (ex : List (PySem.W.Frag → Bool)) (fn : List He.DefD) (ts : List He.Tab) (K : PySem.W.Frag) : AlZ :=
  ((ex.all fun f => f K) && fn.all fun d => d.ok K, fn.map fun d => He.fnW K d.at_, ts.map fun t => He.dicW K (t.1 K))
def valZ (fn : List He.DefD) (ts : List He.Tab) (w : World) : AlZ := (true, fn.map He.DefD.val, ts.map fun t => some (He.keysIn w.params t.2))
def SaysZ (ex : List (PySem.W.Frag → Bool)) (fn : List He.DefD) (ts : List He.Tab) (w : World) (K : PySem.W.Frag) : Prop := obsZ ex fn ts K = valZ fn ts w
def obsZG (n : Nat) (ex : List (PySem.W.Frag → Bool)) (fn : List He.DefD) (ts : List He.Tab) (g : Addr → Option Obj) : AlZ := obsZ ex fn ts (He.frG g (He.asD g n))
def hookZ (n : Nat) (ex : List (PySem.W.Frag → Bool)) (fn : List He.DefD) (ts : List He.Tab) : PySem.W.Hook where
  α := AlZ
  obs := fun s => obsZG n ex fn ts s.heap.get?
  val := fun w => valZ fn ts w
  says := fun w h => ∃ K : PySem.W.Frag, K.In h ∧ SaysZ ex fn ts w K
  of := fun _ _ e => ⟨_, He.frG_in, e⟩
  keeps := fun _ _ _ ⟨K, hK, c⟩ k => ⟨K, PySem.W.Frag.In.keeps hK k, c⟩
theorem obsZG_eq {n : Nat} {g : Addr → Option Obj} {s : Shared} (h : ∀ a, g a = s.heap.get? a) : obsZG n ex fn ts g = (hookZ n ex fn ts).obs s := by
  have e : g = s.heap.get? := funext h
  rw [e] <;> rfl
theorem SaysZ.tst (c : SaysZ ex fn ts w K) (i : Nat) {f : PySem.W.Frag → Bool} (h : ex[i]? = some f := by rfl) : f K = true := by
  have c1 := (He.ba (show ((ex.all fun f => f K) && fn.all fun d => d.ok K) = true from congrArg (fun z : AlZ => z.1) c)).1
  exact List.all_eq_true.mp c1 f (List.mem_of_getElem? h)
theorem SaysZ.dfn (c : SaysZ ex fn ts w K) (i : Nat) {p : Str × Option Str} {nm qual : Str} {pa : Arguments} {bo : List Stmt} {sc : Scope} {kw : List (Str × He.Dv)} (h : fn[i]? = some ⟨p, nm, qual, pa, bo, sc, [], kw⟩ := by rfl) :
    ∃ (oc : Value) (od : Option Addr) (kV dc pm : Value) (an : Option Addr) (cd ct : Value) (sl : Array (Option Value)), K.lookup (He.fAd K p) = some ⟨oc, od, .func (PySem.W.fnOf nm qual pa bo sc .none kV dc pm an cd ct), sl⟩ ∧
      PySem.W.codeIn K cd qual = true ∧ PySem.W.keepIn K (.ref (He.fAd K p)) = true ∧ KwdV K kV (kw.map fun q => (q.1, q.2.v K)) := by
  have c2 := (He.ba (show ((ex.all fun f => f K) && fn.all fun d => d.ok K) = true from congrArg (fun z : AlZ => z.1) c)).2
  have e : fn.map (fun d => He.fnW K d.at_) = fn.map He.DefD.val := congrArg (fun z : AlZ => z.2.1) c
  have e2 : (fn.map fun d => He.fnW K d.at_)[i]? = (fn.map He.DefD.val)[i]? := by rw [e]
  rw [List.getElem?_map, List.getElem?_map, h] at e2
  obtain ⟨fd, ⟨oc, od, dV, kV, dc, pm, an, cd, ct, sl, rfl, l, cc, dv, kv⟩, kp⟩ := He.DefD.funD (Option.some.inj e2) (List.all_eq_true.mp c2 _ (List.mem_of_getElem? h))
  have dn : dV = .none := by
    rcases dv with ⟨_, z⟩ | ⟨z, _⟩
    · exact z
    · exact absurd rfl z
  subst dn
  exact ⟨oc, od, kV, dc, pm, an, cd, ct, sl, l, cc, kp, kv⟩
theorem kw_one {kV : Value} {kn : Str} (h : KwdV K kV ([(kn, He.Dv.non)].map fun q => (q.1, q.2.v K))) : ∃ D : Addr, kV = .ref D ∧ PySem.W.nsIn K D kn = some (some .none) := by
  rcases h with h | ⟨D, e, h⟩
  · cases h
  · obtain ⟨u, h1, h2⟩ := h _ List.mem_cons_self
    refine ⟨D, e, ?_⟩
    rw [h1]
    have h3 : u = Value.none := h2
    rw [h3]
theorem SaysZ.tab (c : SaysZ ex fn ts w K) (i : Nat) {a : PySem.W.Frag → Addr} {ks : List Str} (h : ts[i]? = some (a, ks) := by rfl) : ∃ (es : Array DictEntry) (n : Nat), K.lookup (a K) = some ⟨.type "dict", none, .dict es n, #[]⟩ ∧ PySem.W.KeysLit w.params es.toList := by
  have e : ts.map (fun t => He.dicW K (t.1 K)) = ts.map fun t => some (He.keysIn w.params t.2) := congrArg (fun z : AlZ => z.2.2) c
  have e2 : (ts.map fun t => He.dicW K (t.1 K))[i]? = (ts.map fun t => some (He.keysIn w.params t.2))[i]? := by rw [e]
  rw [List.getElem?_map, List.getElem?_map, h] at e2
  obtain ⟨es, n, q⟩ := He.dicW_ok (Option.some.inj e2)
  exact ⟨es, n, q.1, q.2⟩
theorem glo_get {x : Str} (h : (He.Fa.glo x).ok K = true) : PySem.W.nsIn K mainGlobals x = some (some (.ref (He.fAd K (x, none)))) := He.eqO_ok h
theorem cls_get {x : Str} (h : (He.Fa.cls x).ok K = true) : PySem.W.plainGet K (He.ga K x) Str.empty = true ∧ PySem.W.hasDictIn K (He.ga K x) = true ∧ PySem.W.plainOver K (He.ga K x) = true ∧ PySem.W.findIn K (.ref (He.ga K x)) "__setattr__" = some (some (.builtin "object.__setattr__")) := by
  obtain ⟨c1, c⟩ := He.ba h
  obtain ⟨c2, c⟩ := He.ba c
  obtain ⟨c3, c4⟩ := He.ba c
  exact ⟨c1, c2, c3, He.eqO_ok c4⟩
theorem mkr_get {x : Str} (h : (He.Fa.mkr x).ok K = true) : PySem.W.makesIn K (He.ga K x) = true ∧ PySem.W.keepIn K (.ref (He.ga K x)) = true := by
  obtain ⟨c1, c⟩ := He.ba h
  obtain ⟨c2, c⟩ := He.ba c
  obtain ⟨c3, c4⟩ := He.ba c
  exact ⟨c1, c4⟩
theorem met_get {x m : Str} (h : (He.Fa.meth x m).ok K = true) : PySem.W.findIn K (.ref (He.ga K x)) m = some (some (.ref (He.fAd K (x, some m)))) ∧ PySem.W.isFn K (.ref (He.fAd K (x, some m))) = true := by
  obtain ⟨c1, c⟩ := He.ba h
  obtain ⟨c2, c3⟩ := He.ba c
  exact ⟨He.eqO_ok c1, c2⟩
theorem int_get {x : Str} {i : Int} (h : (He.Fa.int x i).ok K = true) : ∃ t, PySem.W.nsIn K mainGlobals x = some (some (.int i t)) := by
  have c2 : (match PySem.W.nsIn K mainGlobals x with
    | some (some (.int j _)) => decide (j = i)
    | _ => false) = true := h
  cases e : PySem.W.nsIn K mainGlobals x with
  | none =>
    rw [e] at c2
    cases c2
  | some o =>
    rw [e] at c2
    cases o with
    | none => cases c2
    | some v =>
      cases v with
      | int j t =>
        have ej : j = i := of_decide_eq_true c2
        rw [ej]
        exact ⟨t, rfl⟩
      | _ => cases c2
theorem str_get {x y : Str} (h : (He.Fa.str x y).ok K = true) : ∃ t, PySem.W.nsIn K mainGlobals x = some (some (.str y t)) := by
  have c2 : (match PySem.W.nsIn K mainGlobals x with
    | some (some (.str z _)) => decide (z = y)
    | _ => false) = true := h
  cases e : PySem.W.nsIn K mainGlobals x with
  | none =>
    rw [e] at c2
    cases c2
  | some o =>
    rw [e] at c2
    cases o with
    | none => cases c2
    | some v =>
      cases v with
      | str j t =>
        have ej : j = y := of_decide_eq_true c2
        rw [ej]
        exact ⟨t, rfl⟩
      | _ => cases c2
end
theorem walk_ofGE {l : PySem.W.OpenLaw} {n k : Nat} {q : Program} {loose : List Str} {XP : (Str → Option Value) → Heap → Prop} {YP : World → Heap → Prop} {d : DefRec} {x : Str}
    (hn : l.most = some n) (hn2 : n ≤ sizeLine) (hdf : d.params.defaults = []) (hr : Room k callerA)
    (F : ∀ (w : World) (mg : Str → Option Value) (fa : Addr) (h : Heap), YP w h → h.Ns mainGlobals mg → mg d.name = some (.ref fa) →
      ∃ (K : PySem.W.Frag) (fd : FuncData) (sp : Sp), K.In h ∧ (∀ (s : Shared) (u : Value), BindsTo s fd ⟨[u], []⟩ [(x, u)]) ∧
        (∀ (H : Hp) (a : Addr) (ns : List Int), ns.length ≤ n → Only H → SqL K H a (ns.map V.int) → sp [.ref a] H (fun v _ => v = .bl true) E0) ∧
        ∀ base : Heap, K.In base → base.Ns mainGlobals mg → FnG l.prog w K mg base k fa fd [x] sp) :
    PySem.W.WalkO q loose XP YP l.row.toRowW d [] (fun f vs => PySem.call f vs) := by
  refine Att.attach_call hn hdf fun w s₀ s₁ mg mb fa o pm cd doc a vs ns G Y ho hd hcd hmg hobj hints hlen hg => ?_
  obtain ⟨K, fd, sp, KX, hb, hsp, hF⟩ := F w mg fa _ Y G.T.g hmg
  exact law_callG KX G.T.g G.T.b G.T.builtins G.T.nolimit hg hobj hints (Nat.le_trans hlen hn2) hr hF hb fun H hO hS => hsp H a ns hlen hO hS
end TL
namespace TL
open PySem PySem.Spec PyProof.Rows L2
/-! ### the head's looks over a written list of addresses -/
section
variable {α : Type}
def frGF (g : Addr → Option Obj) : List Addr → (PySem.W.Frag → α) → α
  | [], k => k []
  | a :: r, k => match g a with
    | some o => frGF g r fun K => k ((a, o) :: K)
    | none => frGF g r k
theorem frG_cons {g : Addr → Option Obj} {a : Addr} {r : List Addr} : He.frG g (a :: r) = match g a with
    | some o => (a, o) :: He.frG g r
    | none => He.frG g r := by
  unfold He.frG
  rw [List.filterMap_cons]
  cases g a <;> rfl
theorem frGF_eq (g : Addr → Option Obj) : ∀ (l : List Addr) (k : PySem.W.Frag → α), frGF g l k = k (He.frG g l)
  | [], _ => rfl
  | a :: r, k => by
    show (match g a with
      | some o => frGF g r fun K => k ((a, o) :: K)
      | none => frGF g r k) = _
    rw [frG_cons]
    cases g a with
    | some o => exact frGF_eq g r _
    | none => exact frGF_eq g r _
end
def hookL (as : List Addr) (ex : List (PySem.W.Frag → Bool)) (fn : List He.DefD) (ts : List He.Tab) : PySem.W.Hook where
  α := AlZ
  obs := fun s => obsZ ex fn ts (He.frG s.heap.get? as)
  val := fun w => valZ fn ts w
  says := fun w h => ∃ K : PySem.W.Frag, K.In h ∧ SaysZ ex fn ts w K
  of := fun _ _ e => ⟨_, He.frG_in, e⟩
  keeps := fun _ _ _ ⟨K, hK, c⟩ k => ⟨K, PySem.W.Frag.In.keeps hK k, c⟩
def obsL (as : List Addr) (ex : List (PySem.W.Frag → Bool)) (fn : List He.DefD) (ts : List He.Tab) (g : Addr → Option Obj) : AlZ := frGF g as fun K => obsZ ex fn ts K
theorem obsL_eq {as : List Addr} {ex : List (PySem.W.Frag → Bool)} {fn : List He.DefD} {ts : List He.Tab} {g : Addr → Option Obj} {s : Shared} (h : ∀ a, g a = s.heap.get? a) : obsL as ex fn ts g = (hookL as ex fn ts).obs s := by
  unfold obsL
  rw [frGF_eq]
  have e : g = s.heap.get? := funext h
  rw [e] <;> rfl
/-! ### which addresses: by names (a tool, not part of a proof) -/
def refV : Value → List Addr
  | .ref a => [a]
  | _ => []
def entsOf (g : Addr → Option Obj) (a : Addr) : List (Str × Value) := match g a with
  | some ⟨_, _, .dict es _, _⟩ => es.toList.filterMap fun e => match e.key with
    | .str x _ => some (x, e.val)
    | _ => none
  | _ => []
def fnA (g : Addr → Option Obj) (a : Addr) : List Addr := match g a with
  | some ⟨_, _, .func fd, _⟩ => a :: (refV fd.code ++ refV fd.kwdefaults)
  | _ => []
def clA (g : Addr → Option Obj) (ms : List Str) (a : Addr) : List Addr := match g a with
  | some ⟨_, _, .cls cd, _⟩ => a :: cd.ns :: (entsOf g cd.ns).flatMap fun e => if ms.contains e.1 then (refV e.2).flatMap (fnA g) else []
  | _ => []
def needA (g : Addr → Option Obj) (xs ms : List Str) : List Addr := mainGlobals :: (entsOf g mainGlobals).flatMap fun e => if xs.contains e.1 then (match e.2 with
  | .ref a => (match g a with
    | some ⟨_, _, .func _, _⟩ => fnA g a
    | some ⟨_, _, .cls _, _⟩ => clA g ms a
    | some ⟨_, _, .dict _ _, _⟩ => [a]
    | _ => [])
  | _ => []) else []
/-- the classes and their names, the dicts: looked up often -/
def clsA (g : Addr → Option Obj) (xs : List Str) : List Addr := (entsOf g mainGlobals).flatMap fun e => if xs.contains e.1 then (match e.2 with
  | .ref a => (match g a with
    | some ⟨_, _, .cls cd, _⟩ => [a, cd.ns]
    | some ⟨_, _, .dict _ _, _⟩ => [a]
    | _ => [])
  | _ => []) else []
end TL
namespace TL
open PySem PySem.Spec PyProof.Rows L2 PySem.W PySem.Calls HandSHeadRun
/-! ### the head's looks shared among several runs, each in less memory -/
/-- the run's own facts -/
def LooksEq (r : OpenRow) (q : Program) (M : Nat) (loose : List Str) (w : World) : Prop :=
  ∀ os : OsState, (endF (stepQ (denQ tabQ) r.prog w) M r.prog w os).map (fun s => (looksF r.prog (boot_heap w.params) s.abs, seenQ q loose (importedModules r.prog.main.body) (fun s => xlAt q [] s && recOk r.toRowW.records s) s.abs)) = some (true, openGood q loose)
/-- one part of the looks -/
def ObsEq (r : OpenRow) (M : Nat) (w : World) {α : Type} (ob : SharedT → α) (v : α) : Prop :=
  ∀ os : OsState, (endF (stepQ (denQ tabQ) r.prog w) M r.prog w os).map ob = some v
theorem RunEq.of {r : OpenRow} {q : Program} {H : Hook} {ob : SharedT → H.α} {M : Nat} {loose : List Str} {w : World} (a : LooksEq r q M loose w) (b : ObsEq r M w ob (H.val w)) : RunEq r q H ob M loose w := by
  intro os
  have a := a os
  have b := b os
  cases h : endF (stepQ (denQ tabQ) r.prog w) M r.prog w os with
  | none =>
    rw [h] at b
    cases b
  | some s =>
    rw [h] at a b
    have a := Option.some.inj a
    have b := Option.some.inj b
    have a1 := congrArg Prod.fst a
    have a2 := congrArg Prod.snd a
    show some (_, _, _) = some (_, _, _)
    refine congrArg some ?_
    exact Prod.ext a1 (Prod.ext a2 b)
theorem obsZ_two {eA eB : List (Frag → Bool)} {fA fB : List He.DefD} {tA tB : List He.Tab} {K : Frag} {w : World} (a : obsZ eA fA tA K = valZ fA tA w) (b : obsZ eB fB tB K = valZ fB tB w) : obsZ (eA ++ eB) (fA ++ fB) (tA ++ tB) K = valZ (fA ++ fB) (tA ++ tB) w := by
  have a1 : ((eA.all fun f => f K) && fA.all fun d => d.ok K) = true := congrArg (fun z : AlZ => z.1) a
  have a2 : fA.map (fun d => He.fnW K d.at_) = fA.map He.DefD.val := congrArg (fun z : AlZ => z.2.1) a
  have a3 : tA.map (fun t => He.dicW K (t.1 K)) = tA.map fun t => some (He.keysIn w.params t.2) := congrArg (fun z : AlZ => z.2.2) a
  have b1 : ((eB.all fun f => f K) && fB.all fun d => d.ok K) = true := congrArg (fun z : AlZ => z.1) b
  have b2 : fB.map (fun d => He.fnW K d.at_) = fB.map He.DefD.val := congrArg (fun z : AlZ => z.2.1) b
  have b3 : tB.map (fun t => He.dicW K (t.1 K)) = tB.map fun t => some (He.keysIn w.params t.2) := congrArg (fun z : AlZ => z.2.2) b
  obtain ⟨a4, a5⟩ := Bool.and_eq_true_iff.mp a1
  obtain ⟨b4, b5⟩ := Bool.and_eq_true_iff.mp b1
  unfold obsZ valZ
  rw [List.all_append, List.all_append, a4, a5, b4, b5, List.map_append, List.map_append, List.map_append, List.map_append, a2, a3, b2, b3]
  rfl
theorem ObsEq.two {r : OpenRow} {M : Nat} {w : World} {as : List Addr} {eA eB : List (Frag → Bool)} {fA fB : List He.DefD} {tA tB : List He.Tab}
    (a : ObsEq r M w (fun s => obsL as eA fA tA (getT s)) (valZ fA tA w)) (b : ObsEq r M w (fun s => obsL as eB fB tB (getT s)) (valZ fB tB w)) : ObsEq r M w (fun s => obsL as (eA ++ eB) (fA ++ fB) (tA ++ tB) (getT s)) (valZ (fA ++ fB) (tA ++ tB) w) := by
  intro os
  have a := a os
  have b := b os
  cases h : endF (stepQ (denQ tabQ) r.prog w) M r.prog w os with
  | none =>
    rw [h] at b
    cases b
  | some s =>
    rw [h] at a b
    have a := Option.some.inj a
    have b := Option.some.inj b
    show some _ = some _
    refine congrArg some ?_
    dsimp only at a b ⊢
    unfold obsL at a b ⊢
    rw [frGF_eq] at a b ⊢
    exact obsZ_two a b
end TL
namespace TL
open PySem PySem.Spec PyProof.Rows L2

/-! ### repr of data -/
structure Shows (d : PyData) : Prop where
  can : d.showable = true
  nod : d.hasDict = false
  deep : d.depth ≤ 60
  fits : d.shown.length ≤ sizeLine
def rRepr (K : PySem.W.Frag) : List V → Hp → VK → Prop := fun xs H Q =>
  ∃ (y : V) (d : PyData), xs = [y] ∧ Dp K H y d ∧ Shows d ∧ Q (.str d.shown) H
section
variable {X : Cx}
theorem call_reprD (gd : X.A.guards = some []) (hu : X.A.units + 64 < cLine) :
    CallR X (.builtin "repr") (rRepr X.K) := by
  intro pins s σ H xs us Q I r h
  obtain ⟨y, d, rfl, hd, sh, q⟩ := h
  cases r with
  | cons r1 r2 =>
    rename_i u us'
    cases r2
    obtain ⟨as, rd⟩ := Dp.reads I d y u hd r1
    have big : ∀ a, u = Value.ref a → wpAny (model X.prog X.w) X.A (call (.builtin "repr") [u]) (EP X pins σ Q) X.xe s := by
      intro a e
      subst e
      refine repr_of_reads' rd sh.can (fun z => ?_) gd (by have := sh.deep; omega) (fun _ _ e => e) (fun h' u tk hk => ?_) sh.fits
      · rw [sh.nod] at z
        cases z
      · exact ⟨.str d.shown, H, I.kept (t' := tk) hk, ⟨u, rfl⟩, q⟩
    cases hd with
    | non =>
      obtain rfl : u = Value.none := r1
      rw [PyData.shown_none] at q
      exact PySem.P.repr_of_none ⟨.str _, H, I.tok _, ⟨_, rfl⟩, q⟩
    | bl b =>
      obtain rfl : u = Value.bool b := r1
      rw [PyData.shown_bool] at q
      exact PySem.P.repr_of_bool ⟨.str _, H, I.tok _, ⟨_, rfl⟩, q⟩
    | int i =>
      obtain ⟨t, rfl⟩ := r1
      rw [PyData.shown_int] at q
      exact PySem.P.repr_of_int (by have := sh.can; simpa [PyData.showable] using this) ⟨.str _, H, I.tok _, ⟨_, rfl⟩, q⟩
    | str x =>
      obtain ⟨t, rfl⟩ := r1
      have z := sh.fits
      rw [PyData.shown_str] at q z
      exact PySem.P.repr_of_str ⟨.str _, H, I.tok _, ⟨_, rfl⟩, q⟩ z
    | lst hs ha => exact big _ r1
    | tup hs ha => exact big _ r1
end

/-! ### t[::-1], t a tuple -/
section
variable {prog : Program} {w : World} {A : Around} {E : Value → Shared → Prop} {s : Shared}
theorem fm_congr {α β : Type} (f g : α → Option β) : ∀ l : List α, (∀ x ∈ l, f x = g x) → l.filterMap f = l.filterMap g
  | [], _ => rfl
  | a :: r, h => by
    rw [List.filterMap_cons, List.filterMap_cons, h a List.mem_cons_self, fm_congr f g r fun x hx => h x (List.mem_cons_of_mem _ hx)]
theorem places_back (n : Nat) : Builtin.Slice.slicePlaces ((n : Int) - 1) (-1) (-1) = n := by
  unfold Builtin.Slice.slicePlaces
  rw [if_neg (by decide)]
  by_cases h : (n : Int) - 1 > -1
  · rw [if_pos h]
    have e : ((n : Int) - 1 - -1 - 1) / (- -1) + 1 = (n : Int) := by
      rw [show (- -1 : Int) = 1 by decide, Int.ediv_one]
      omega
    rw [e]
    exact Int.toNat_natCast n
  · rw [if_neg h]
    show (0 : Nat) = n
    omega
theorem pick_back (xs : Array Value) :
    ((List.range xs.size).filterMap fun (m : Nat) => xs[((xs.size : Int) - 1 + (m : Int) * (-1)).toNat]?).toArray = xs.toList.reverse.toArray := by
  have e : (List.range xs.size).filterMap (fun (m : Nat) => xs[((xs.size : Int) - 1 + (m : Int) * (-1)).toNat]?)
      = ((List.range xs.size).map fun k => xs.size - 1 - k).filterMap (xs[·]?) := by
    rw [List.filterMap_map]
    refine fm_congr _ _ _ fun m hm => ?_
    have := List.mem_range.mp hm
    have q : ((xs.size : Int) - 1 + (m : Int) * (-1)).toNat = xs.size - 1 - m := by omega
    rw [q]
    rfl
  rw [e, PySem.W.krv_range, List.filterMap_reverse, PySem.W.krv_all]
theorem back_applied {sl : Addr} {vk : Value} {n : Nat} {Q : Int × Int × Nat → Shared → Prop}
    (hs : s.heap.IsSliceOf sl .none .none vk) (pk : IsPart vk (some (-1)))
    (h : Q ((n : Int) - 1, -1, n) s) : wpAny (model prog w) A (Builtin.Slice.sliceApplied (.ref sl) (pure (n : Int))) Q E s := by
  obtain ⟨os, hos, hcs, hds⟩ := id hs
  unfold Builtin.Slice.sliceApplied Builtin.Slice.sliceFields
  refine wpAny_bind (wpAny_bind (wpAny_field hos hds (x := .none) rfl (wpAny_bind (wpAny_field hos hds (x := .none) rfl
    (wpAny_bind (wpAny_field hos hds (x := vk) rfl (wpAny_pure ?_)))))))
  refine wpAny_bind (HT.slicePart_ pk ?_)
  show wpAny _ _ (if ((-1 : Int) == 0) = true then _ else _) _ _ s
  rw [if_neg (by decide)]
  refine wpAny_bind (slicePart_none (wpAny_bind (slicePart_none (wpAny_bind (wpAny_pure ?_)))))
  show wpAny _ _ (pure ((n : Int) - 1, (-1 : Int), Builtin.Slice.slicePlaces ((n : Int) - 1) (-1) (-1))) _ _ s
  rw [places_back]
  exact wpAny_pure h
theorem getItem_back {t sl : Addr} {items : Array Value} {vk : Value} {Q : Value → Shared → Prop}
    (ht : IsTup s.heap t items) (hs : s.heap.IsSliceOf sl .none .none vk) (pk : IsPart vk (some (-1)))
    (h : Q (.ref s.heap.objs.size) { s with heap := s.heap.push { cls := .type "tuple", data := .seq items.toList.reverse.toArray } })
    (hsz : items.size ≤ sizeLine) : wpAny (model prog w) A (getItem (.ref t) (.ref sl)) Q E s := by
  have hz : sizeOk (.seq items.toList.reverse.toArray) := by
    show items.toList.reverse.toArray.size ≤ sizeLine
    rw [List.size_toArray, List.length_reverse, Array.length_toList]
    exact hsz
  obtain ⟨os, hos, hcs, hds⟩ := id hs
  have hTs : s.TypeIs (.ref sl) "slice" := ⟨os, hos, hcs⟩
  unfold getItem
  try with_reducible refine wpAny_holding ?_
  first | refine wpAny_bind (wpAny_pure ?_) | skip
  refine wpAny_bind (wpAny_sequenceKey ht.typeIs (by decide) ?_)
  refine wpAny_bind (wpAny_callSpecial?_slot (name := Str.ofString "__getitem__") ht.typeIs
    PyProof.Rows.slot_tuple_getitem (wpAny_call_entry PyProof.Rows.slot_tuple_getitem ht.typeIs
      entry_tuple_getitem ?_ (args_tuple_getitem _ _)))
  show wpAny _ _ (Builtin.Tuple.tupleItemsOf (.ref t) >>= _) _ _ s
  refine wpAny_bind (tupleItemsOf_ ht (wpAny_bind (wpAny_typeOf hTs ?_)))
  rw [if_pos (by decide)]
  refine wpAny_bind (back_applied hs pk ?_)
  show wpAny _ _ (if (((items.size : Int) - 1 == 0) && ((-1 : Int) == 1) && (items.size == items.size)) = true then _ else _) _ _ s
  rw [if_neg (by rw [show ((-1 : Int) == 1) = false by decide, Bool.and_false, Bool.false_and]; decide), pick_back]
  first
    | exact wpAny_bind (m := Builtin.Tuple.tupleExact _) (wpAny_newObj_type (wpAny_pure ⟨_, rfl, wpAny_pure h⟩) hz)
    | exact wpAny_bind (m := Builtin.Tuple.tupleExact _) (wpAny_newObj_type (wpAny_bind (wpAny_pure (wpAny_pure ⟨_, rfl, wpAny_pure h⟩))) hz)
    | exact wpAny_bind (wpAny_bind (m := Builtin.Tuple.tupleExact _) (wpAny_newObj_type (wpAny_pure (wpAny_pure ⟨_, rfl, wpAny_pure h⟩)) hz))
    | exact wpAny_bind (wpAny_bind (m := Builtin.Tuple.tupleExact _) (wpAny_newObj_type (wpAny_pure ⟨_, rfl, wpAny_pure h⟩) hz))
end
section
variable {X : Cx}
def tRevT (K : PySem.W.Frag) (te : TE) : TE := fun σ H Q => te σ H fun x H1 =>
  ∃ a xs, x = .ref a ∧ SqT K H1 a xs ∧ ∀ p, H1 p = none → Q (.ref p) (upd H1 p (.tup xs.reverse))
theorem pe_revT {e : Expr} {te : TE} {k : Nat} {p1 p2 p3 pos : Pos} (he : PE X e te) :
    PE X (.Subscript e (.Slice none none (some (.UnaryOp .USub (.Constant (.int 1) k p1) p2)) p3) pos) (tRevT X.K te) := by
  refine ⟨fun pins s σ H Q I h => Subscript_ (thn (he.run pins s σ H _ I h) fun v s1 ⟨x, H1, I1, r1, q1⟩ => ?_)⟩
  obtain ⟨a, xs, ex, hx, q⟩ := q1
  subst ex
  cases r1
  have hst : PO X (some (.UnaryOp .USub (.Constant (.int 1) k p1) p2))
    (tPart (tUn (rU fun i => .int (-i)) (tC (.int 1)))) := po_some (pe_un un_neg pe_int)
  refine wpAny_Slice ?_
  rw [evalPart_none]
  refine wpAny_pure ?_
  refine wpAny_pure ?_
  refine thn (hst.run pins s1 σ H1 (fun o H4 => o = some (-1) ∧ H4 = H1) I1 ⟨1, rfl, -1, rfl, rfl, rfl⟩)
    fun vk s4 ⟨o, H4, I4, pk, eo, e4⟩ => ?_
  subst eo e4
  have I5 : Inv X pins σ H4 { s4 with heap := s4.heap.push { cls := .type "slice", data := .fields #[.none, .none, vk] } } :=
    I4.kept (t' := s4.toks) fun b ob q => Heap.get?_push_of_some _ q
  obtain ⟨its, r, ht, hz⟩ := I5.tuple hx
  have hlen := r.length
  refine tail_any (ops := [.ref a, .ref s4.heap.objs.size]) ht.typeIs PyProof.Rows.slot_tuple_getitem.lookup ?_ (by with_unfolding_all rfl)
  refine getItem_back ht (Heap.IsSliceOf.new _ .none .none vk) pk ?_ (by rw [List.size_toArray]; omega)
  refine ⟨.ref _, _, I5.laid (t' := s4.toks) (o := .tup xs.reverse) (fun b ob q => Heap.get?_push_of_some _ q) (Nat.le_refl _) ?_,
    rfl, q _ (I5.hok.fresh (Nat.le_refl _))⟩
  exact ⟨by rw [List.length_reverse]; exact hz, _, r.reverse, IsTup.new _ _⟩
end
/-! ### the rules with the written part as a letter of its own (within comprehensions) -/
section
variable {X : Cx}
theorem ixTK (K : PySem.W.Frag) (h : X.K = K := by rfl) : IxR X (rIxT K) := h ▸ ix_tup
theorem ixLK (K : PySem.W.Frag) (h : X.K = K := by rfl) : IxR X (rIxL K) := h ▸ ix_list
def rLenK (K : PySem.W.Frag) : List V → Hp → VK → Prop := fun xs H Q => ∃ p ys, xs = [.ref p] ∧ (SqL K H p ys ∨ SqT K H p ys) ∧ Q (.int ys.length) H
theorem lenK (K : PySem.W.Frag) (h : X.K = K := by rfl) : CallR X (.builtin "len") (rLenK K) := h ▸ call_len_seq
def rTupK (K : PySem.W.Frag) : List V → Hp → VK → Prop := fun xs H Q => ∃ p ys, xs = [.ref p] ∧
  ((SqL K H p ys ∧ ∀ l, H l = none → Q (.ref l) (upd H l (.tup ys))) ∨ (SqT K H p ys ∧ Q (.ref p) H))
theorem tupleK (K : PySem.W.Frag) (h : X.K = K := by rfl) : CallR X (.type "tuple") (rTupK K) := h ▸ call_tuple_of
theorem catAK (K : PySem.W.Frag) (h : X.K = K := by rfl) : OpR X (binaryOp .Add) (rCatA K) := h ▸ op_catA
theorem revTK (K : PySem.W.Frag) {e : Expr} {te : TE} {k : Nat} {p1 p2 p3 pos : Pos} (he : PE X e te) (h : X.K = K := by rfl) :
    PE X (.Subscript e (.Slice none none (some (.UnaryOp .USub (.Constant (.int 1) k p1) p2)) p3) pos) (tRevT K te) := h ▸ pe_revT he
theorem reprK (K : PySem.W.Frag) (gd : X.A.guards = some []) (hu : X.A.units + 64 < cLine) (h : X.K = K := by rfl) :
    CallR X (.builtin "repr") (rRepr K) := h ▸ call_reprD gd hu
end
end TL
namespace TL
open PySem PySem.Spec PyProof.Rows L2

/-! ### heaps -/
theorem same_upd {H : Hp} {p : Addr} {o : HO} (h : H p = none) : Same H (upd H p o) := fun b x e => by
  rw [upd_ne (ne_of_none e h)]
  exact e
theorem same_at {H : Hp} {p : Addr} {o : HO} (_ : H p = none) : upd H p o p = some o := upd_same
theorem Same.tup {K : PySem.W.Frag} {H H' : Hp} {a : Addr} {xs : List V} (e : Same H H') (h : SqT K H a xs) : SqT K H' a xs := by
  rcases h with (h | ⟨o, h⟩) | h
  · exact .inl (.inl (e _ _ h))
  · exact .inl (.inr ⟨o, e _ _ h⟩)
  · exact .inr h
/-- every tuple stays -/
def KT (K : PySem.W.Frag) (H H' : Hp) : Prop := ∀ a xs, SqT K H a xs → SqT K H' a xs
theorem KT.refl {K : PySem.W.Frag} {H : Hp} : KT K H H := fun _ _ h => h
theorem KT.trans {K : PySem.W.Frag} {H H1 H2 : Hp} (a : KT K H H1) (b : KT K H1 H2) : KT K H H2 := fun c o h => b c o (a c o h)
theorem Same.kt {K : PySem.W.Frag} {H H' : Hp} (e : Same H H') : KT K H H' := fun _ _ h => Same.tup e h
/-- all but what stands at d and l is as it was -/
def Fm (d l : Addr) (H H' : Hp) : Prop := ∀ b o, b ≠ d → b ≠ l → H b = some o → H' b = some o
theorem Fm.refl {d l : Addr} {H : Hp} : Fm d l H H := fun _ _ _ _ h => h
theorem Fm.trans {d l : Addr} {H H1 H2 : Hp} (a : Fm d l H H1) (b : Fm d l H1 H2) : Fm d l H H2 :=
  fun c o h1 h2 h => b c o h1 h2 (a c o h1 h2 h)
theorem Same.fm {d l : Addr} {H H' : Hp} (e : Same H H') : Fm d l H H' := fun b o _ _ h => e b o h

/-! ### the deck: a list of cells and a count -/
def Deck (H : Hp) (d l : Addr) (n : Nat) : Prop := ∃ (c : Nat) (ns : List Int), c ≤ n ∧
  H d = some (.lst [.ref l, .int (c : Int)]) ∧ H l = some (.lst (ns.map V.int)) ∧ (∀ z ∈ ns, 0 ≤ z) ∧ ns.length ≤ 63
theorem Deck.ne {H : Hp} {d l : Addr} {n : Nat} (h : Deck H d l n) : d ≠ l := by
  obtain ⟨c, ns, _, h1, h2, _⟩ := h
  intro e
  rw [e, h2] at h1
  cases ns with
  | nil => cases h1
  | cons z r => cases h1
theorem Deck.same {H H' : Hp} {d l : Addr} {n : Nat} (h : Deck H d l n) (e : Same H H') : Deck H' d l n := by
  obtain ⟨c, ns, hc, h1, h2, h3⟩ := h
  exact ⟨c, ns, hc, e _ _ h1, e _ _ h2, h3⟩
theorem Deck.le {H : Hp} {d l : Addr} {n m : Nat} (h : Deck H d l n) (e : n ≤ m) : Deck H d l m := by
  obtain ⟨c, ns, hc, h3⟩ := h
  exact ⟨c, ns, Nat.le_trans hc e, h3⟩
theorem Fm.kt {K : PySem.W.Frag} {H H' : Hp} {d l : Addr} {n : Nat} (e : Fm d l H H') (h : Deck H d l n) : KT K H H' := by
  obtain ⟨c, ns, hc, h1, h2, h3⟩ := h
  intro a xs q
  rcases q with (q | ⟨o, q⟩) | q
  · refine .inl (.inl (e _ _ (fun z => ?_) (fun z => ?_) q))
    · rw [z, h1] at q; cases q
    · rw [z, h2] at q; cases q
  · refine .inl (.inr ⟨o, e _ _ (fun z => ?_) (fun z => ?_) q⟩)
    · rw [z, h1] at q; cases q
    · rw [z, h2] at q; cases q
  · exact .inr q
/-- a tracked thing that is neither -/
theorem Deck.off {H : Hp} {d l a : Addr} {n : Nat} (h : Deck H d l n) (ha : H a = none) : a ≠ d ∧ a ≠ l := by
  obtain ⟨c, ns, hc, h1, h2, h3⟩ := h
  exact ⟨fun z => (by rw [z, h1] at ha; cases ha), fun z => (by rw [z, h2] at ha; cases ha)⟩

theorem Deck.put {H : Hp} {d l a : Addr} {n : Nat} {o : HO} (h : Deck H d l n) (h1 : a ≠ d) (h2 : a ≠ l) : Deck (upd H a o) d l n := by
  obtain ⟨c, ns, hc, e1, e2, h3⟩ := h
  exact ⟨c, ns, hc, by rw [upd_ne h1.symm]; exact e1, by rw [upd_ne h2.symm]; exact e2, h3⟩
theorem kt_lst {K : PySem.W.Frag} {H : Hp} {a : Addr} {xs ys : List V} (h : H a = some (.lst xs)) : KT K H (upd H a (.lst ys)) := by
  intro b zs q
  rcases q with (q | ⟨o, q⟩) | q
  · refine .inl (.inl ?_)
    rw [upd_ne fun z => by rw [z, h] at q; cases q]
    exact q
  · refine .inl (.inr ⟨o, ?_⟩)
    rw [upd_ne fun z => by rw [z, h] at q; cases q]
    exact q
  · exact .inr q

/-! ### data -/
mutual
def only : PyData → Bool
  | .none => true
  | .bool _ => true
  | .int _ => true
  | .str _ => true
  | .tuple xs => onlyAll xs
  | .list _ => false
  | .dict _ => false
def onlyAll : List PyData → Bool
  | [] => true
  | x :: xs => only x && onlyAll xs
end
section
variable {K : PySem.W.Frag} {H H' : Hp}
mutual
theorem Dp.kt (e : KT K H H') : ∀ {v : V} {d : PyData}, Dp K H v d → only d = true → Dp K H' v d
  | _, _, .non, _ => .non
  | _, _, .bl b, _ => .bl b
  | _, _, .int i, _ => .int i
  | _, _, .str x, _ => .str x
  | _, _, .lst h a, o => by
    unfold only at o
    cases o
  | _, _, .tup h a, o => .tup (e _ _ h) (DpAll.kt e a (by unfold only at o; exact o))
theorem DpAll.kt (e : KT K H H') : ∀ {v : List V} {d : List PyData}, DpAll K H v d → onlyAll d = true → DpAll K H' v d
  | _, _, .nil, _ => .nil
  | _, _, .cons h a, o => by
    unfold onlyAll at o
    rw [Bool.and_eq_true] at o
    exact .cons (Dp.kt e h o.1) (DpAll.kt e a o.2)
end
mutual
theorem Dp.same (e : Same H H') : ∀ {v : V} {d : PyData}, Dp K H v d → Dp K H' v d
  | _, _, .non => .non
  | _, _, .bl b => .bl b
  | _, _, .int i => .int i
  | _, _, .str x => .str x
  | _, _, .lst h a => .lst (e.seq h) (DpAll.same e a)
  | _, _, .tup h a => .tup (Same.tup e h) (DpAll.same e a)
theorem DpAll.same (e : Same H H') : ∀ {v : List V} {d : List PyData}, DpAll K H v d → DpAll K H' v d
  | _, _, .nil => .nil
  | _, _, .cons h a => .cons (Dp.same e h) (DpAll.same e a)
end
theorem DpAll.length : ∀ {v : List V} {d : List PyData}, DpAll K H v d → v.length = d.length
  | _, _, .nil => rfl
  | _, _, .cons _ a => congrArg (· + 1) (DpAll.length a)
theorem DpAll.append : ∀ {v u : List V} {d e : List PyData}, DpAll K H v d → DpAll K H u e → DpAll K H (v ++ u) (d ++ e)
  | _, _, _, _, .nil, b => b
  | _, _, _, _, .cons h a, b => .cons h (DpAll.append a b)
theorem DpAll.reverse : ∀ {v : List V} {d : List PyData}, DpAll K H v d → DpAll K H v.reverse d.reverse
  | _, _, .nil => .nil
  | _, _, .cons h a => by
    rw [List.reverse_cons, List.reverse_cons]
    exact DpAll.append (DpAll.reverse a) (.cons h .nil)
theorem DpAll.get : ∀ {v : List V} {d : List PyData} {i : Nat} {x : V}, DpAll K H v d → v[i]? = some x → ∃ z, d[i]? = some z ∧ Dp K H x z
  | _, _, _, _, .nil, q => by simp at q
  | _, _, 0, _, .cons h a, q => by
    rw [List.getElem?_cons_zero] at q
    cases q
    exact ⟨_, List.getElem?_cons_zero, h⟩
  | _, _, i + 1, _, .cons h a, q => by
    rw [List.getElem?_cons_succ] at q
    obtain ⟨z, e, r⟩ := DpAll.get a q
    exact ⟨z, by rw [List.getElem?_cons_succ]; exact e, r⟩
theorem Dp.tupI {v : V} {ds : List PyData} (h : Dp K H v (.tuple ds)) : ∃ a xs, v = .ref a ∧ SqT K H a xs ∧ DpAll K H xs ds := by
  cases h with
  | tup h a => exact ⟨_, _, rfl, h, a⟩
theorem Dp.lstI {v : V} {ds : List PyData} (h : Dp K H v (.list ds)) : ∃ a xs, v = .ref a ∧ SqL K H a xs ∧ DpAll K H xs ds := by
  cases h with
  | lst h a => exact ⟨_, _, rfl, h, a⟩
theorem Dp.intI {v : V} {i : Int} (h : Dp K H v (.int i)) : v = .int i := by
  cases h
  rfl
theorem DpAll.ints : ∀ {xs : List V} {ns : List Int}, DpAll K H xs (ns.map .int) → xs = ns.map V.int
  | [], [], _ => rfl
  | _ :: _, n :: ns, .cons h a => by
    rw [Dp.intI h, DpAll.ints a]
    rfl
theorem DpAll.of_ints : ∀ (ns : List Int), DpAll K H (ns.map V.int) (ns.map .int)
  | [] => .nil
  | n :: ns => .cons (.int n) (DpAll.of_ints ns)
end

/-! ### pairs of ints -/
def prD (p : Int × Int) : PyData := .tuple [.int p.1, .int p.2]
def prsD (ps : List (Int × Int)) : PyData := .tuple (ps.map prD)
theorem only_pr (p : Int × Int) : only (prD p) = true := by simp [prD, only, onlyAll]
theorem only_prs : ∀ ps : List (Int × Int), onlyAll (ps.map prD) = true
  | [] => by simp [onlyAll]
  | p :: ps => by simp [onlyAll, only_pr p, only_prs ps]
theorem only_prsD (ps : List (Int × Int)) : only (prsD ps) = true := by
  unfold prsD only
  exact only_prs ps
section
variable {K : PySem.W.Frag} {H : Hp}
theorem Dp.prI {v : V} {p : Int × Int} (h : Dp K H v (prD p)) : ∃ a, v = .ref a ∧ SqT K H a [.int p.1, .int p.2] := by
  obtain ⟨a, xs, e, h1, h2⟩ := Dp.tupI h
  have q : xs = [p.1, p.2].map V.int := DpAll.ints (ns := [p.1, p.2]) h2
  subst q
  exact ⟨a, e, h1⟩
theorem Dp.pr {a : Addr} {i j : Int} (h : SqT K H a [.int i, .int j]) : Dp K H (.ref a) (prD (i, j)) :=
  .tup h (.cons (.int i) (.cons (.int j) .nil))
end

/-! ### showing small data -/
def sm (i : Int) : Prop := -1000 ≤ i ∧ i ≤ 1000
theorem sm_log {i : Int} (h : sm i) : i.natAbs.log2 < 10 := by
  have h2 : i.natAbs < 2 ^ 10 := by
    unfold sm at h
    omega
  exact PySem.Flt.log2_lt_of (by decide) h2
structure Sm (d : PyData) (n k : Nat) : Prop where
  can : d.showable = true
  nod : d.hasDict = false
  deep : d.depth ≤ k
  short : d.leavesShort 13 = true
  light : d.weight ≤ n
theorem Sm.shows {d : PyData} {n k : Nat} (h : Sm d n k) (hn : n ≤ 1000000) (hk : k ≤ 60) : Shows d :=
  ⟨h.can, h.nod, Nat.le_trans h.deep hk, PyData.shown_fits (by decide) (by decide) h.short (Nat.le_trans h.light (by omega))⟩
theorem Sm.le {d : PyData} {n k m j : Nat} (h : Sm d n k) (hn : n ≤ m) (hk : k ≤ j) : Sm d m j :=
  ⟨h.can, h.nod, Nat.le_trans h.deep hk, h.short, Nat.le_trans h.light hn⟩
theorem Sm.none : Sm .none 0 0 := ⟨rfl, rfl, Nat.le_refl _, rfl, Nat.le_refl _⟩
theorem Sm.bool (b : Bool) : Sm (.bool b) 0 0 := ⟨rfl, rfl, Nat.le_refl _, rfl, Nat.le_refl _⟩
theorem Sm.int {i : Int} (h : sm i) : Sm (.int i) 10 0 := by
  have h1 := sm_log h
  refine ⟨?_, by simp [PyData.hasDict], by simp [PyData.depth], ?_, ?_⟩
  · simp only [PyData.showable]
    exact decide_eq_true (by omega)
  · simp only [PyData.leavesShort]
    exact decide_eq_true (PyData.shown_int_le (by unfold sm at h; omega))
  · simp only [PyData.weight]
    split <;> omega
structure SmA (ds : List PyData) (n k : Nat) : Prop where
  can : PyData.showableAll ds = true
  nod : PyData.hasDictAll ds = false
  deep : PyData.depthAll ds ≤ k
  short : PyData.leavesShortAll 13 ds = true
  light : PyData.weightAll ds ≤ ds.length * (n + 1)
theorem SmA.of {n k : Nat} : ∀ {ds : List PyData}, (∀ d ∈ ds, Sm d n k) → SmA ds n k
  | [], _ => ⟨rfl, rfl, by simp [PyData.depthAll], rfl, by simp [PyData.weightAll]⟩
  | d :: ds, h => by
    have h1 := h d List.mem_cons_self
    have h2 := SmA.of (n := n) (k := k) fun e he => h e (List.mem_cons_of_mem _ he)
    refine ⟨?_, ?_, ?_, ?_, ?_⟩
    · simp only [PyData.showableAll, h1.can, h2.can, Bool.and_self]
    · simp only [PyData.hasDictAll, h1.nod, h2.nod, Bool.or_self]
    · simp only [PyData.depthAll]
      exact Nat.max_le.mpr ⟨h1.deep, h2.deep⟩
    · simp only [PyData.leavesShortAll, h1.short, h2.short, Bool.and_self]
    · have a := h1.light
      have b := h2.light
      simp only [PyData.weightAll, List.length_cons, Nat.add_mul, Nat.one_mul]
      omega
theorem Sm.tup {n k m : Nat} {ds : List PyData} (h : ∀ d ∈ ds, Sm d n k) (hm : ds.length ≤ m) : Sm (.tuple ds) (m * (n + 1)) (k + 1) := by
  have q := SmA.of h
  have z : ds.length * (n + 1) ≤ m * (n + 1) := Nat.mul_le_mul_right _ hm
  refine ⟨?_, ?_, ?_, ?_, ?_⟩
  · simp only [PyData.showable]; exact q.can
  · simp only [PyData.hasDict]; exact q.nod
  · simp only [PyData.depth]; have := q.deep; omega
  · simp only [PyData.leavesShort]; exact q.short
  · simp only [PyData.weight]; exact Nat.le_trans q.light z
theorem Sm.lst {n k m : Nat} {ds : List PyData} (h : ∀ d ∈ ds, Sm d n k) (hm : ds.length ≤ m) : Sm (.list ds) (m * (n + 1)) (k + 1) := by
  have q := SmA.of h
  have z : ds.length * (n + 1) ≤ m * (n + 1) := Nat.mul_le_mul_right _ hm
  refine ⟨?_, ?_, ?_, ?_, ?_⟩
  · simp only [PyData.showable]; exact q.can
  · simp only [PyData.hasDict]; exact q.nod
  · simp only [PyData.depth]; have := q.deep; omega
  · simp only [PyData.leavesShort]; exact q.short
  · simp only [PyData.weight]; exact Nat.le_trans q.light z
def smP (p : Int × Int) : Prop := sm p.1 ∧ sm p.2
theorem Sm.pr {p : Int × Int} (h : smP p) : Sm (prD p) 22 1 :=
  Sm.tup (n := 10) (k := 0) (m := 2) (fun d hd => by
    rcases List.mem_cons.mp hd with rfl | hd
    · exact Sm.int h.1
    · rcases List.mem_cons.mp hd with rfl | hd
      · exact Sm.int h.2
      · exact nomatch hd) (Nat.le_refl _)
theorem Sm.prs {ps : List (Int × Int)} {m : Nat} (h : ∀ p ∈ ps, smP p) (hm : ps.length ≤ m) : Sm (prsD ps) (m * 23) 2 :=
  Sm.tup (n := 22) (k := 1) (m := m) (fun d hd => by
    obtain ⟨p, hp, rfl⟩ := List.mem_map.mp hd
    exact Sm.pr (h p hp)) (by rw [List.length_map]; exact hm)
end TL
namespace TL
open PySem PySem.Spec PyProof.Rows L2
theorem yesI {σ : L2.St} {H : Hp} {Q : Bool → Hp → Prop} (h : Q true H) : tYes σ H Q := h
/-- what a comprehension asks of its turns -/
def LcGoal (J : It) (g : TG) (tt : TT) (te : TE) (vs : List Nat) (σ : L2.St) (H1 : Hp) (D : Addr) (Qd : Hp → Prop) : Prop :=
  ∃ W : Nat → Nat → Hp → Prop, (∃ m, W 0 m (upd H1 D (.lst []))) ∧ ∀ i m H, W i m H →
    (J.stop i H ∧ Qd H) ∨
    (J.go i H ∧ ∃ Nx : Hp → Prop, (∀ H', Nx H' → ∃ m', m' < m ∧ W (i + 1) m' H') ∧
      ∀ x H', J.yld i H x H' → g x (wipe σ vs) H' fun σ2 H2 =>
        wipe σ2 vs = wipe σ vs ∧ tt σ2 H2 fun b H3 =>
          if b = true then
            te σ2 H3 fun y H4 => ∃ acc, H4 D = some (.lst acc) ∧ acc.length < sizeLine ∧ Nx (upd H4 D (.lst (acc ++ [y])))
          else Nx H3)
/-- by the number of turns -/
theorem lc_by {J : It} {g : TG} {tt : TT} {te : TE} {vs : List Nat} {σ : L2.St} {H1 : Hp} {D : Addr} {Qd : Hp → Prop} (n : Nat)
    (Pv : Nat → Hp → Prop) (h0 : Pv 0 (upd H1 D (.lst []))) (hgo : ∀ i H, i < n → Pv i H → J.go i H) (hst : ∀ H, Pv n H → J.stop n H)
    (hs : ∀ i x H H', i < n → Pv i H → J.yld i H x H' → g x (wipe σ vs) H' fun σ2 H2 =>
      wipe σ2 vs = wipe σ vs ∧ tt σ2 H2 fun b H3 =>
        if b = true then
          te σ2 H3 fun y H4 => ∃ acc, H4 D = some (.lst acc) ∧ acc.length < sizeLine ∧ Pv (i + 1) (upd H4 D (.lst (acc ++ [y])))
        else Pv (i + 1) H3)
    (hd : ∀ H, Pv n H → Qd H) : LcGoal J g tt te vs σ H1 D Qd := by
  refine ⟨fun i m H => m = n - i ∧ i ≤ n ∧ Pv i H, ⟨n, rfl, Nat.zero_le _, h0⟩, fun i m H hW => ?_⟩
  obtain ⟨e, hi, p⟩ := hW
  by_cases hlt : i < n
  · refine .inr ⟨hgo i H hlt p, Pv (i + 1), fun H' p' => ⟨n - (i + 1), by omega, rfl, hlt, p'⟩, fun x H' y => hs i x H H' hlt p y⟩
  · obtain rfl : i = n := by omega
    exact .inl ⟨hst H p, hd H p⟩
/-- over reversed(a tuple) -/
theorem lc_revT {K : PySem.W.Frag} {a : Addr} {xs : List V} {g : TG} {tt : TT} {te : TE} {vs : List Nat} {σ : L2.St} {H1 : Hp} {D : Addr} {Qd : Hp → Prop}
    (Pv : Nat → Hp → Prop) (h0 : Pv 0 (upd H1 D (.lst []))) (hl : ∀ i H, Pv i H → SqT K H a xs)
    (hs : ∀ i x H, i < xs.length → xs[xs.length - 1 - i]? = some x → Pv i H → g x (wipe σ vs) H fun σ2 H2 =>
      wipe σ2 vs = wipe σ vs ∧ tt σ2 H2 fun b H3 =>
        if b = true then
          te σ2 H3 fun y H4 => ∃ acc, H4 D = some (.lst acc) ∧ acc.length < sizeLine ∧ Pv (i + 1) (upd H4 D (.lst (acc ++ [y])))
        else Pv (i + 1) H3)
    (hd : ∀ H, Pv xs.length H → Qd H) : LcGoal (RT.ItvT K a xs.length) g tt te vs σ H1 D Qd := by
  refine lc_by xs.length Pv h0 (fun i H hi p => ?_) (fun H p => Nat.le_refl _) (fun i x H H' hi p y => ?_) hd
  · have hj : xs.length - 1 - i < xs.length := by omega
    exact ⟨hi, xs, _, hl i H p, List.getElem?_eq_getElem hj⟩
  · obtain ⟨e, hy⟩ := y
    subst e
    exact hs i x _ hi (hy xs (hl i _ p)) p
end TL
namespace TL
open PySem PySem.Spec PyProof.Rows L2
/-! ### sorted, of any alike data -/
theorem each_of {K : PySem.W.Frag} {H : Hp} {β : Type} (enc : β → PyData) : ∀ {xs : List V} {us : List Value} {bs : List β},
    Vals xs us → DpAll K H xs (bs.map enc) → PySem.W.EachIs (fun (u : Value) (b : β) => ∃ x, RelV x u ∧ Dp K H x (enc b)) us bs
  | _, _, [], .nil, _ => .nil
  | _, _, _ :: _, .nil, h => nomatch h
  | _, _, [], .cons _ _, h => nomatch h
  | _, _, b :: bs, .cons r t, .cons h a => .cons ⟨_, r, h⟩ (each_of enc t a)
theorem of_each {K : PySem.W.Frag} {H : Hp} {β : Type} (enc : β → PyData) : ∀ {us : List Value} {bs : List β},
    PySem.W.EachIs (fun (u : Value) (b : β) => ∃ x, RelV x u ∧ Dp K H x (enc b)) us bs → ∃ ys, Vals ys us ∧ DpAll K H ys (bs.map enc)
  | _, _, .nil => ⟨[], .nil, .nil⟩
  | _, _, .cons ⟨x, r, h⟩ t => by
    obtain ⟨ys, a, b⟩ := of_each enc t
    exact ⟨x :: ys, .cons r a, .cons h b⟩
@[irreducible] def rSortD (K : PySem.W.Frag) : List V → Hp → VK → Prop := fun vs H Q => ∃ (β : Type) (enc : β → PyData) (bs : List β) (a : Addr) (xs : List V),
  vs = [.ref a] ∧ SqL K H a xs ∧ DpAll K H xs (bs.map enc) ∧ PySem.W.AllAlike (bs.map enc) ∧ PySem.W.Sortable (bs.map enc) ∧ (∀ b ∈ bs, (enc b).depth ≤ 50) ∧
  ∀ p ys, H p = none → DpAll K H ys ((bs.mergeSort (PySem.W.dataLe false enc)).map enc) → Q (.ref p) (upd H p (.lst ys))
section
variable {X : Cx}
theorem sorted_D (hu : X.A.units + 64 < cLine) : CallR X (.builtin "sorted") (rSortD X.K) := by
  intro pins s σ H vs us Q I r h
  unfold rSortD at h
  obtain ⟨β, enc, bs, a, xs, rfl, hs, ha, al, so, dp, q⟩ := h
  cases r with
  | cons r1 r2 =>
    cases r2
    rename_i u
    obtain rfl : u = Value.ref a := r1
    obtain ⟨its, rv, hl, hz⟩ := I.list hs
    have e1 := each_of enc rv ha
    have lb : xs.length = bs.length := by rw [DpAll.length ha, List.length_map]
    have e2 : PySem.W.EachIs (fun v b => ∃ as, Reads s.heap v (enc b) as) its bs :=
      e1.mono fun u b ⟨x, rx, hx⟩ => Dp.reads I _ x u hx rx
    refine PySem.W.sorted_data hl.isList e1 e2 al so (by omega) (fun b hb => by have := dp b hb; omega) fun out hlen eo => ?_
    obtain ⟨ys, ry, dy⟩ := of_each enc eo
    obtain ⟨c, hc⟩ := PyProof.Rows.sortedAll_at s.heap its out.toArray
    have fr : H (s.heap.objs.size + 1) = none := I.hok.fresh (Nat.le_succ _)
    refine ⟨.ref (s.heap.objs.size + 1), upd H (s.heap.objs.size + 1) (.lst ys), I.laid (t' := s.toks) (fun _ _ => PyProof.Rows.sortedAll_old) (Nat.le_succ _) ?_, rfl, q _ ys fr dy⟩
    exact ⟨by have := ry.length; omega, out, c, ry, hc⟩
/-! ### in, of data -/
def rInDt (K : PySem.W.Frag) (neg : Bool) : R2 := fun x y H Q => ∃ d ds, Dp K H x d ∧ (Dp K H y (.list ds) ∨ Dp K H y (.tuple ds)) ∧
  PyData.canLayAll0 ds = true ∧ d.canLay0 = true ∧ d.depth ≤ 50 ∧ Q (.bl (if neg then !(ds.any fun z => PyData.eqv z d) else ds.any fun z => PyData.eqv z d)) H
theorem room_in {d : PyData} {ds : List PyData} {u : Nat} (h : d.depth ≤ 50) (hu : u + 64 < cLine) : u + 1 + min (PyData.depthAll ds) d.depth < cLine := by
  have : min (PyData.depthAll ds) d.depth ≤ 50 := Nat.le_trans (Nat.min_le_right _ _) h
  omega
theorem op_inDt (hu : X.A.units + 64 < cLine) : OpR X (compareOp .In) (rInDt X.K false) := by
  intro pins s σ H x y v u Q I rx ry h
  obtain ⟨d, ds, hd, he, c1, c2, dp, q⟩ := h
  obtain ⟨as, r1⟩ := Dp.reads I d x v hd rx
  rcases he with he | he
  · obtain ⟨bs, r2⟩ := Dp.reads I _ y u he ry
    exact SeqAt.in_list_reads r2 r1 c1 c2 (room_in dp hu) ⟨.bl _, H, I, rfl, q⟩
  · obtain ⟨bs, r2⟩ := Dp.reads I _ y u he ry
    exact SeqAt.in_tuple_reads r2 r1 c1 c2 (room_in dp hu) ⟨.bl _, H, I, rfl, q⟩
theorem op_notInDt (hu : X.A.units + 64 < cLine) : OpR X (compareOp .NotIn) (rInDt X.K true) := by
  intro pins s σ H x y v u Q I rx ry h
  obtain ⟨d, ds, hd, he, c1, c2, dp, q⟩ := h
  obtain ⟨as, r1⟩ := Dp.reads I d x v hd rx
  rcases he with he | he
  · obtain ⟨bs, r2⟩ := Dp.reads I _ y u he ry
    exact SeqAt.notIn_list_reads r2 r1 c1 c2 (room_in dp hu) ⟨.bl _, H, I, rfl, q⟩
  · obtain ⟨bs, r2⟩ := Dp.reads I _ y u he ry
    exact SeqAt.notIn_tuple_reads r2 r1 c1 c2 (room_in dp hu) ⟨.bl _, H, I, rfl, q⟩
/-! ### the written part as a letter -/
theorem sortK (K : PySem.W.Frag) (hu : X.A.units + 64 < cLine) (h : X.K = K := by rfl) : CallR X (.builtin "sorted") (rSortD K) := h ▸ sorted_D hu
theorem inDK (K : PySem.W.Frag) (hu : X.A.units + 64 < cLine) (h : X.K = K := by rfl) : OpR X (compareOp .In) (rInDt K false) := h ▸ op_inDt hu
theorem notInDK (K : PySem.W.Frag) (hu : X.A.units + 64 < cLine) (h : X.K = K := by rfl) : OpR X (compareOp .NotIn) (rInDt K true) := h ▸ op_notInDt hu
theorem inK (K : PySem.W.Frag) (h : X.K = K := by rfl) : OpR X (compareOp .In) (rIn K false) := h ▸ op_in_seq
theorem notInK (K : PySem.W.Frag) (h : X.K = K := by rfl) : OpR X (compareOp .NotIn) (rIn K true) := h ▸ op_notIn_seq
theorem eqDK (K : PySem.W.Frag) (hu : X.A.units + 64 < cLine) (h : X.K = K := by rfl) : OpR X (compareOp .Eq) (rEqD K) := h ▸ op_eqD hu
theorem neDK (K : PySem.W.Frag) (hu : X.A.units + 64 < cLine) (h : X.K = K := by rfl) : OpR X (compareOp .NotEq) (rNeD K) := h ▸ op_neD hu
theorem anyK (K : PySem.W.Frag) (hc : X.calm = true) (h : X.K = K := by rfl) : CallR X (.builtin "any") (rAny K) := h ▸ cr_any hc
def rListK (K : PySem.W.Frag) : List V → Hp → VK → Prop := fun xs H Q => ∃ p ys, xs = [.ref p] ∧ (SqL K H p ys ∨ SqT K H p ys) ∧ ∀ l, H l = none → Q (.ref l) (upd H l (.lst ys))
theorem listK (K : PySem.W.Frag) (h : X.K = K := by rfl) : CallR X (.type "list") (rListK K) := h ▸ call_list_of
theorem slTK (K : PySem.W.Frag) (h : X.K = K := by rfl) : SlR X (rSlA K) := h ▸ sl_tupA
theorem slLK (K : PySem.W.Frag) (h : X.K = K := by rfl) : SlR X (rSlL K) := h ▸ sl_list
end
end TL
namespace TL
open PySem PySem.Spec PyProof.Rows L2
/-- a def of the text by its name, with its promise -/
structure Own (P : Program) (w : World) (K : PySem.W.Frag) (mg : Str → Option Value) (base : Heap)
    (x : Str) (k : Nat) (ps : List Str) (sp : Sp) : Prop where
  ex : ∃ (f : Addr) (fd : FuncData), FnOk P w K mg base CX0 k f fd ps sp ∧ mg x = some (.ref f) ∧
    PySem.W.keepIn K (.ref f) = true ∧ Binds K fd ps []
/-- .. that shows data -/
structure OwnG (P : Program) (w : World) (K : PySem.W.Frag) (mg : Str → Option Value) (base : Heap)
    (x : Str) (k : Nat) (ps : List Str) (sp : Sp) : Prop where
  ex : ∃ (f : Addr) (fd : FuncData), FnG P w K mg base k f fd ps sp ∧ mg x = some (.ref f) ∧
    PySem.W.keepIn K (.ref f) = true ∧ Binds K fd ps []
section
variable {X : Cx} {k : Nat} {ps : List Str} {sp : Sp} {x : Str} {p pos : Pos} {e : Expr} {es : List Expr} {t : TA}
theorem pe_own (O : Own X.prog X.w X.K X.mg X.base x k ps sp) (hr : Room k X.A) (hg : Gl X x) (ha : PA X (e :: es) t)
    (hdb : (x == ("__debug__" : Str)) = false := by decide)
    (he : starEach (e :: es) X.env = (false, eval e X.env) :: starEach es X.env := by rfl)
    (hpl : (backTo pos (starEach es X.env)).any (·.1) = false := by rfl) :
    PE X (.Call (.Name x p) (e :: es) [] pos) (tCall sp [] E0 t) := by
  obtain ⟨f, fd, F, hm, hk, hb⟩ := O.ex
  exact pe_call F hr hg hm hk hb .nil pass0 ha hdb he hpl
theorem pe_ownG (O : OwnG X.prog X.w X.K X.mg X.base x k ps sp) (hr : Room k X.A) (gd : X.A.guards = some []) (hg : Gl X x) (ha : PA X (e :: es) t)
    (hdb : (x == ("__debug__" : Str)) = false := by decide)
    (he : starEach (e :: es) X.env = (false, eval e X.env) :: starEach es X.env := by rfl)
    (hpl : (backTo pos (starEach es X.env)).any (·.1) = false := by rfl) :
    PE X (.Call (.Name x p) (e :: es) [] pos) (tCall sp [] E0 t) := by
  obtain ⟨f, fd, F, hm, hk, hb⟩ := O.ex
  exact pe_callG F hr gd hg hm hk hb ha hdb he hpl
theorem piTK (K : PySem.W.Frag) {tg a : Expr} {ta : TE} (ha : PE X a ta) (h : X.K = K := by rfl) : PI X tg a (iTup K ta) := h ▸ pi_tup ha
theorem piLK (K : PySem.W.Frag) {tg a : Expr} {ta : TE} (ha : PE X a ta) (h : X.K = K := by rfl) : PI X tg a (iList K ta) := h ▸ pi_list ha
theorem pgTK (K : PySem.W.Frag) {es : List Expr} {k : Nat} {t : TGs} {n : Nat} (h : PGs X es t) (hc : X.calm = true := by rfl) (hK : X.K = K := by rfl)
    (hn : (assignEach es X.env).length = n := by rfl) (hst : (assignEach es X.env).findIdx? (·.1) = none := by rfl) :
    PG X (.Tuple es k pos) (gTup K n t) := hK ▸ pg_tup hc h hn hst
theorem bmK (K : PySem.W.Frag) {o : Expr} {to : TE} {name : Str} {apos cpos : Pos} {T id : String}
    {r : V → List V → Hp → VK → Prop} (pa : PlainAttrs T) (slot : Slot T name id)
    (hty : typeOf (.builtin id) = pure (.type "method_descriptor")) (hm : MtR X id r) (ho : PE X o to)
    (ha : PA X (e :: es) t) (h : X.K = K := by rfl)
    (hbase : attributeBase o name X.env (eval o X.env) = eval o X.env := by rfl)
    (hfew : ((backTo cpos (starEach (e :: es) X.env)).all (fun x => !x.1)
        && (backToKw cpos (keywordEach [] X.env)).all (fun x => x.1.isSome)
        && decide ((e :: es).length + ([] : List Keyword).length
          + (if ([] : List Keyword).isEmpty then 0 else 1) < 30)) = true := by rfl)
    (hline : (apos.endLine == cpos.line) = true := by rfl)
    (hs : starEach (e :: es) X.env = (false, eval e X.env) :: starEach es X.env := by rfl)
    (hplain : (backTo cpos (starEach es X.env)).any (·.1) = false := by rfl) :
    PE X (.Call (.Attribute o name apos) (e :: es) [] cpos) (tBM K T r to t) :=
  h ▸ pe_bm pa slot hty hm ho ha hbase hfew hline hs hplain
theorem bm0K (K : PySem.W.Frag) {o : Expr} {to : TE} {name : Str} {apos cpos : Pos} {T id : String}
    {r : V → List V → Hp → VK → Prop} (pa : PlainAttrs T) (slot : Slot T name id)
    (hty : typeOf (.builtin id) = pure (.type "method_descriptor")) (hm : MtR X id r) (ho : PE X o to) (h : X.K = K := by rfl)
    (hbase : attributeBase o name X.env (eval o X.env) = eval o X.env := by rfl)
    (hline : (apos.endLine == cpos.line) = true := by rfl) :
    PE X (.Call (.Attribute o name apos) [] [] cpos) (tBM0 K T r to) := h ▸ pe_bm0 pa slot hty hm ho hbase hline
end
end TL
namespace TL
/-! ### ascending lists -/
abbrev Asc (l : List Int) : Prop := l.Pairwise (· < ·)
theorem asc_ext : ∀ {a b : List Int}, Asc a → Asc b → (∀ x, x ∈ a ↔ x ∈ b) → a = b
  | [], [], _, _, _ => rfl
  | [], y :: b, _, _, h => absurd ((h y).mpr List.mem_cons_self) (by simp)
  | x :: a, [], _, _, h => absurd ((h x).mp List.mem_cons_self) (by simp)
  | x :: a, y :: b, ha, hb, h => by
    have ha' := List.pairwise_cons.mp ha
    have hb' := List.pairwise_cons.mp hb
    have e : x = y := by
      rcases List.mem_cons.mp ((h x).mp List.mem_cons_self) with e | q
      · exact e
      · rcases List.mem_cons.mp ((h y).mpr List.mem_cons_self) with e | r
        · exact e.symm
        · have h1 := hb'.1 x q
          have h2 := ha'.1 y r
          omega
    subst e
    congr 1
    refine asc_ext ha'.2 hb'.2 fun z => ⟨fun hz => ?_, fun hz => ?_⟩
    · rcases List.mem_cons.mp ((h z).mp (List.mem_cons_of_mem _ hz)) with e | q
      · have := ha'.1 z hz
        omega
      · exact q
    · rcases List.mem_cons.mp ((h z).mpr (List.mem_cons_of_mem _ hz)) with e | q
      · have := hb'.1 z hz
        omega
      · exact q
theorem Asc.nodup {l : List Int} (h : Asc l) : l.Nodup := h.imp fun h => by omega
def leI (a b : Int) : Bool := decide (a ≤ b)
def srtI (l : List Int) : List Int := l.mergeSort leI
theorem srtI_perm (l : List Int) : (srtI l).Perm l := List.mergeSort_perm l _
theorem srtI_le (l : List Int) : (srtI l).Pairwise (· ≤ ·) :=
  (List.pairwise_mergeSort (le := leI) (fun a b c h1 h2 => by
    have h1 := of_decide_eq_true h1
    have h2 := of_decide_eq_true h2
    exact decide_eq_true (by omega)) (fun a b => by
    unfold leI
    by_cases h : a ≤ b
    · simp [h]
    · have : b ≤ a := by omega
      simp [this]) l).imp fun h => of_decide_eq_true h
theorem mem_srtI {l : List Int} {x : Int} : x ∈ srtI l ↔ x ∈ l := (srtI_perm l).mem_iff
theorem srtI_asc {l : List Int} (h : l.Nodup) : Asc (srtI l) := by
  have n : (srtI l).Nodup := (srtI_perm l).nodup_iff.mpr h
  exact ((srtI_le l).and n).imp fun h => by omega
theorem srtI_of_asc {l : List Int} (h : Asc l) : srtI l = l :=
  List.mergeSort_of_pairwise (h.imp fun h => decide_eq_true (by omega))
theorem srtI_congr {a b : List Int} (h : a.Perm b) : srtI a = srtI b := by
  have p : (srtI a).Perm (srtI b) := (srtI_perm a).trans (h.trans (srtI_perm b).symm)
  exact p.eq_of_pairwise (fun x y _ _ h1 h2 => by omega) (srtI_le a) (srtI_le b)
theorem srtI_length (l : List Int) : (srtI l).length = l.length := (srtI_perm l).length_eq
/-! ### pairs -/
abbrev LtP (p q : Int × Int) : Prop := p.1 < q.1 ∨ (p.1 = q.1 ∧ p.2 < q.2)
abbrev AscP (l : List (Int × Int)) : Prop := l.Pairwise LtP
def leP (p q : Int × Int) : Bool := decide (p.1 < q.1 ∨ (p.1 = q.1 ∧ p.2 ≤ q.2))
def srtP (l : List (Int × Int)) : List (Int × Int) := l.mergeSort leP
theorem srtP_perm (l : List (Int × Int)) : (srtP l).Perm l := List.mergeSort_perm l _
theorem srtP_le (l : List (Int × Int)) : (srtP l).Pairwise fun p q => p.1 < q.1 ∨ (p.1 = q.1 ∧ p.2 ≤ q.2) :=
  (List.pairwise_mergeSort (le := leP) (fun a b c h1 h2 => by
    have h1 := of_decide_eq_true h1
    have h2 := of_decide_eq_true h2
    exact decide_eq_true (by omega)) (fun a b => by
    unfold leP
    by_cases h : a.1 < b.1 ∨ (a.1 = b.1 ∧ a.2 ≤ b.2)
    · simp [h]
    · have : b.1 < a.1 ∨ (b.1 = a.1 ∧ b.2 ≤ a.2) := by omega
      simp [this]) l).imp fun h => of_decide_eq_true h
theorem mem_srtP {l : List (Int × Int)} {x : Int × Int} : x ∈ srtP l ↔ x ∈ l := (srtP_perm l).mem_iff
theorem srtP_asc {l : List (Int × Int)} (h : l.Nodup) : AscP (srtP l) := by
  have n : (srtP l).Nodup := (srtP_perm l).nodup_iff.mpr h
  refine ((srtP_le l).and n).imp fun {a b} h => ?_
  obtain ⟨h1, h2⟩ := h
  rcases h1 with h1 | ⟨h1, h3⟩
  · exact .inl h1
  · refine .inr ⟨h1, ?_⟩
    have : a.2 ≠ b.2 := fun e => h2 (Prod.ext h1 e)
    omega
theorem srtP_of_asc {l : List (Int × Int)} (h : AscP l) : srtP l = l :=
  List.mergeSort_of_pairwise (h.imp fun h => decide_eq_true (by rcases h with h | h <;> omega))
theorem srtP_length (l : List (Int × Int)) : (srtP l).length = l.length := (srtP_perm l).length_eq
/-! ### an edge between two vertices -/
def ordP (a b : Int) : Int × Int := if a ≤ b then (a, b) else (b, a)
theorem srt2 (a b : Int) : srtI [a, b] = [(ordP a b).1, (ordP a b).2] := by
  unfold ordP
  by_cases h : a ≤ b
  · rw [if_pos h]
    exact List.mergeSort_of_pairwise (le := leI) (List.pairwise_cons.mpr ⟨fun x hx => by
      obtain rfl := List.mem_singleton.mp hx
      exact decide_eq_true h, List.pairwise_singleton _ _⟩)
  · rw [if_neg h]
    have p : [a, b].Perm [b, a] := List.Perm.swap _ _ _
    rw [srtI_congr p]
    exact List.mergeSort_of_pairwise (le := leI) (List.pairwise_cons.mpr ⟨fun x hx => by
      obtain rfl := List.mem_singleton.mp hx
      exact decide_eq_true (by omega), List.pairwise_singleton _ _⟩)
theorem ordP_comm (a b : Int) : ordP a b = ordP b a := by
  unfold ordP
  by_cases h : a ≤ b
  · by_cases h2 : b ≤ a
    · obtain rfl : a = b := by omega
      rfl
    · rw [if_pos h, if_neg h2]
  · rw [if_neg h, if_pos (by omega)]
/-! ### forests as they are drawn -/
def rng (m : Nat) : List Int := (List.range m).map Int.ofNat
theorem mem_rng {m : Nat} {x : Int} : x ∈ rng m ↔ 0 ≤ x ∧ x < m := by
  unfold rng
  rw [List.mem_map]
  constructor
  · rintro ⟨i, hi, rfl⟩
    have := List.mem_range.mp hi
    simp only [Int.ofNat_eq_natCast]
    omega
  · intro h
    exact ⟨x.toNat, List.mem_range.mpr (by omega), by simp only [Int.ofNat_eq_natCast]; omega⟩
theorem rng_asc (m : Nat) : Asc (rng m) := by
  unfold rng Asc
  rw [List.pairwise_map]
  exact List.pairwise_lt_range.imp fun h => by simp only [Int.ofNat_eq_natCast]; omega
theorem rng_length (m : Nat) : (rng m).length = m := by
  unfold rng
  rw [List.length_map, List.length_range]
/-- edge k joins the k-th name with an earlier one -/
def edgeOf (nm : List Int) (q : Nat × Nat) : Int × Int := ordP (nm.getD q.1 0) (nm.getD q.2 0)
structure Grow (m : Nat) (nm : List Int) (ks : List (Nat × Nat)) : Prop where
  names : nm.Perm (rng m)
  up : ks.Pairwise fun a b => a.1 < b.1
  down : ∀ q ∈ ks, q.2 < q.1 ∧ q.1 < m
structure IsFor (m : Nat) (es : List (Int × Int)) : Prop where
  asc : AscP es
  rng : ∀ p ∈ es, 0 ≤ p.1 ∧ p.1 < p.2 ∧ p.2 < m
  grow : ∃ nm ks, Grow m nm ks ∧ es.Perm (ks.map (edgeOf nm))
theorem Grow.len {m : Nat} {nm : List Int} {ks : List (Nat × Nat)} (g : Grow m nm ks) : nm.length = m := by
  rw [g.names.length_eq, rng_length]
theorem Grow.nd {m : Nat} {nm : List Int} {ks : List (Nat × Nat)} (g : Grow m nm ks) : nm.Nodup := g.names.nodup_iff.mpr (rng_asc m).nodup
theorem Grow.name {m : Nat} {nm : List Int} {ks : List (Nat × Nat)} (g : Grow m nm ks) {i : Nat} (h : i < m) : 0 ≤ nm.getD i 0 ∧ nm.getD i 0 < m := by
  have hl : i < nm.length := by rw [g.len]; exact h
  have e : nm.getD i 0 = nm[i] := by rw [List.getD_eq_getElem?_getD, List.getElem?_eq_getElem hl]; rfl
  rw [e]
  exact mem_rng.mp (g.names.mem_iff.mp (List.getElem_mem hl))
theorem Grow.inj {m : Nat} {nm : List Int} {ks : List (Nat × Nat)} (g : Grow m nm ks) {i j : Nat} (hi : i < m) (hj : j < m) (e : nm.getD i 0 = nm.getD j 0) : i = j := by
  have hi' : i < nm.length := by rw [g.len]; exact hi
  have hj' : j < nm.length := by rw [g.len]; exact hj
  rw [List.getD_eq_getElem?_getD, List.getElem?_eq_getElem hi', List.getD_eq_getElem?_getD, List.getElem?_eq_getElem hj'] at e
  exact (List.getElem_inj g.nd).mp e
theorem Grow.edge {m : Nat} {nm : List Int} {ks : List (Nat × Nat)} (g : Grow m nm ks) {q : Nat × Nat} (h : q ∈ ks) :
    0 ≤ (edgeOf nm q).1 ∧ (edgeOf nm q).1 < (edgeOf nm q).2 ∧ (edgeOf nm q).2 < m := by
  obtain ⟨h1, h2⟩ := g.down q h
  have a := g.name h2
  have b := g.name (Nat.lt_trans h1 h2)
  have n : nm.getD q.1 0 ≠ nm.getD q.2 0 := fun e => by
    have := g.inj h2 (Nat.lt_trans h1 h2) e
    omega
  unfold edgeOf ordP
  split
  · exact ⟨a.1, by omega, b.2⟩
  · exact ⟨b.1, by omega, a.2⟩
theorem ordP_inj {a b c d : Int} (h : ordP a b = ordP c d) : (a = c ∧ b = d) ∨ (a = d ∧ b = c) := by
  unfold ordP at h
  split at h <;> split at h <;> (injection h with h1 h2; omega)
theorem Grow.nodup {m : Nat} {nm : List Int} {ks : List (Nat × Nat)} (g : Grow m nm ks) : (ks.map (edgeOf nm)).Nodup := by
  rw [List.Nodup, List.pairwise_map]
  have u := g.up
  have d := g.down
  refine (List.Pairwise.and_mem.mp u).imp ?_
  rintro a b ⟨ha, hb, hab⟩ e
  obtain ⟨a1, a2⟩ := d a ha
  obtain ⟨b1, b2⟩ := d b hb
  rcases ordP_inj e with ⟨e1, e2⟩ | ⟨e1, e2⟩
  · have := g.inj a2 b2 e1
    omega
  · have h1 := g.inj a2 (Nat.lt_trans b1 b2) e1
    have h2 := g.inj (Nat.lt_trans a1 a2) b2 e2
    omega
theorem Grow.isFor {m : Nat} {nm : List Int} {ks : List (Nat × Nat)} (g : Grow m nm ks) : IsFor m (srtP (ks.map (edgeOf nm))) where
  asc := srtP_asc g.nodup
  rng := fun p hp => by
    obtain ⟨q, hq, rfl⟩ := List.mem_map.mp (mem_srtP.mp hp)
    exact g.edge hq
  grow := ⟨nm, ks, g, srtP_perm _⟩
theorem rise_len {m : Nat} : ∀ {ks : List (Nat × Nat)} {lo : Nat}, ks.Pairwise (fun a b => a.1 < b.1) → (∀ q ∈ ks, lo ≤ q.1 ∧ q.1 < m) → ks.length ≤ m - lo
  | [], _, _, _ => Nat.zero_le _
  | q :: ks, lo, h, b => by
    have h' := List.pairwise_cons.mp h
    have hq := b q List.mem_cons_self
    have := rise_len (lo := q.1 + 1) h'.2 fun r hr => ⟨h'.1 r hr, (b r (List.mem_cons_of_mem _ hr)).2⟩
    rw [List.length_cons]
    omega
theorem Grow.count {m : Nat} {nm : List Int} {ks : List (Nat × Nat)} (g : Grow m nm ks) : ks.length ≤ m := by
  have := rise_len (lo := 0) g.up fun q hq => ⟨Nat.zero_le _, (g.down q hq).2⟩
  omega
theorem IsFor.count {m : Nat} {es : List (Int × Int)} (f : IsFor m es) : es.length ≤ m := by
  obtain ⟨nm, ks, g, p⟩ := f.grow
  rw [p.length_eq, List.length_map]
  exact g.count
/-! ### neighbours -/
def nearL (m : Nat) (es : List (Int × Int)) (v : Int) : List Int := (rng m).filter fun o => decide (ordP o v ∈ es)
def nbL (es : List (Int × Int)) (v : Int) : List Int := (es.filter fun p => decide (p.2 = v)).map (·.1) ++ (es.filter fun p => decide (p.1 = v)).map (·.2)
theorem nearL_asc (m : Nat) (es : List (Int × Int)) (v : Int) : Asc (nearL m es v) := (rng_asc m).filter _
theorem mem_nearL {m : Nat} {es : List (Int × Int)} {v o : Int} : o ∈ nearL m es v ↔ (0 ≤ o ∧ o < m) ∧ ordP o v ∈ es := by
  unfold nearL
  rw [List.mem_filter, mem_rng, decide_eq_true_eq]
theorem mem_nbL {es : List (Int × Int)} {v o : Int} : o ∈ nbL es v ↔ (o, v) ∈ es ∨ (v, o) ∈ es := by
  unfold nbL
  rw [List.mem_append, List.mem_map, List.mem_map]
  constructor
  · rintro (⟨⟨a, b⟩, h, rfl⟩ | ⟨⟨a, b⟩, h, rfl⟩)
    · obtain ⟨h1, h2⟩ := List.mem_filter.mp h
      have : b = v := of_decide_eq_true h2
      subst this
      exact .inl h1
    · obtain ⟨h1, h2⟩ := List.mem_filter.mp h
      have : a = v := of_decide_eq_true h2
      subst this
      exact .inr h1
  · rintro (h | h)
    · exact .inl ⟨(o, v), List.mem_filter.mpr ⟨h, decide_eq_true rfl⟩, rfl⟩
    · exact .inr ⟨(v, o), List.mem_filter.mpr ⟨h, decide_eq_true rfl⟩, rfl⟩
theorem IsFor.mem_ord {m : Nat} {es : List (Int × Int)} (f : IsFor m es) {o v : Int} : ordP o v ∈ es ↔ (o, v) ∈ es ∨ (v, o) ∈ es := by
  unfold ordP
  by_cases h : o ≤ v
  · rw [if_pos h]
    refine ⟨.inl, fun q => q.elim id fun q => ?_⟩
    have := f.rng _ q
    simp only at this
    omega
  · rw [if_neg h]
    refine ⟨.inr, fun q => q.elim (fun q => ?_) id⟩
    have := f.rng _ q
    simp only at this
    omega
theorem IsFor.nb {m : Nat} {es : List (Int × Int)} (f : IsFor m es) (v : Int) : nbL es v = nearL m es v := by
  refine asc_ext ?_ (nearL_asc m es v) fun o => ?_
  · unfold nbL
    refine List.pairwise_append.mpr ⟨?_, ?_, ?_⟩
    · rw [List.pairwise_map]
      refine (List.Pairwise.and_mem.mp (f.asc.filter fun p => decide (p.2 = v))).imp ?_
      rintro a b ⟨ha, hb, hab⟩
      have h1 : a.2 = v := of_decide_eq_true (List.mem_filter.mp ha).2
      have h2 : b.2 = v := of_decide_eq_true (List.mem_filter.mp hb).2
      rcases hab with h | h <;> omega
    · rw [List.pairwise_map]
      refine (List.Pairwise.and_mem.mp (f.asc.filter fun p => decide (p.1 = v))).imp ?_
      rintro a b ⟨ha, hb, hab⟩
      have h1 : a.1 = v := of_decide_eq_true (List.mem_filter.mp ha).2
      have h2 : b.1 = v := of_decide_eq_true (List.mem_filter.mp hb).2
      rcases hab with h | h <;> omega
    · intro x hx y hy
      obtain ⟨a, ha, rfl⟩ := List.mem_map.mp hx
      obtain ⟨b, hb, rfl⟩ := List.mem_map.mp hy
      have a1 := f.rng _ (List.mem_filter.mp ha).1
      have b1 := f.rng _ (List.mem_filter.mp hb).1
      have h1 : a.2 = v := of_decide_eq_true (List.mem_filter.mp ha).2
      have h2 : b.1 = v := of_decide_eq_true (List.mem_filter.mp hb).2
      omega
  · rw [mem_nbL, mem_nearL, f.mem_ord]
    refine ⟨fun h => ⟨?_, h⟩, fun h => h.2⟩
    rcases h with h | h
    · have := f.rng _ h
      simp only at this
      omega
    · have := f.rng _ h
      simp only at this
      omega
/-! ### settings -/
structure IsSet (m : Nat) (es : List (Int × Int)) (S : List Int) : Prop where
  asc : Asc S
  rng : ∀ v ∈ S, 0 ≤ v ∧ v < m
  free : ∀ u ∈ S, ∀ v ∈ S, ordP u v ∉ es
end TL
namespace TL
open PySem PySem.Spec PyProof.Rows L2
/-! ### sorting ints, pairs -/
theorem le_int_fun : PySem.W.dataLe false PyData.int = leI := by
  funext a b
  exact congrFun (congrFun (PySem.W.dataLe_int (β := Int) id) a) b
theorem le_pr_fun : PySem.W.dataLe false prD = leP := by
  funext p q
  exact congrFun (congrFun (PySem.W.dataLe_ii (β := Int × Int) Prod.fst Prod.snd) p) q
section
variable {K : PySem.W.Frag} {H : Hp} {Q : VK}
theorem sortInts {a : Addr} {ns : List Int} (hS : SqL K H a (ns.map V.int)) (q : ∀ p, H p = none → Q (.ref p) (upd H p (.lst ((srtI ns).map V.int)))) : rSortD K [.ref a] H Q := by
  unfold rSortD
  refine ⟨Int, PyData.int, ns, a, ns.map V.int, rfl, hS, DpAll.of_ints ns, ?_, .inr fun d hd => ?_, fun b _ => by simp [PyData.depth], fun p ys np dy => ?_⟩
  · intro d hd e he
    obtain ⟨x, _, rfl⟩ := List.mem_map.mp hd
    obtain ⟨y, _, rfl⟩ := List.mem_map.mp he
    simp [PySem.W.alike]
  · obtain ⟨x, _, rfl⟩ := List.mem_map.mp hd
    exact ⟨fun z => (nomatch z), fun _ z => (nomatch z)⟩
  · rw [le_int_fun] at dy
    have e := DpAll.ints dy
    subst e
    exact q p np
theorem sortPairs {a : Addr} {xs : List V} {ps : List (Int × Int)} (hS : SqL K H a xs) (hA : DpAll K H xs (ps.map prD))
    (q : ∀ p ys, H p = none → DpAll K H ys ((srtP ps).map prD) → Q (.ref p) (upd H p (.lst ys))) : rSortD K [.ref a] H Q := by
  unfold rSortD
  refine ⟨Int × Int, prD, ps, a, xs, rfl, hS, hA, ?_, .inl fun d hd => ?_, fun b _ => by simp [prD, PyData.depth, PyData.depthAll], fun p ys np dy => ?_⟩
  · intro d hd e he
    obtain ⟨x, _, rfl⟩ := List.mem_map.mp hd
    obtain ⟨y, _, rfl⟩ := List.mem_map.mp he
    simp [prD, PySem.W.alike, PySem.W.alikeAll]
  · obtain ⟨x, _, rfl⟩ := List.mem_map.mp hd
    exact ⟨_, _, rfl⟩
  · rw [le_pr_fun] at dy
    exact q p ys np dy
end
/-! ### forests as data -/
def forD (m : Nat) (es : List (Int × Int)) : PyData := .tuple [.int (m : Int), prsD es]
def intsD (ns : List Int) : PyData := .tuple (ns.map .int)
theorem only_ints : ∀ ns : List Int, onlyAll (ns.map .int) = true
  | [] => by simp [onlyAll]
  | n :: ns => by simp [onlyAll, only, only_ints ns]
theorem only_intsD (ns : List Int) : only (intsD ns) = true := by
  unfold intsD only
  exact only_ints ns
theorem only_forD (m : Nat) (es : List (Int × Int)) : only (forD m es) = true := by
  unfold forD
  simp [only, onlyAll, only_prsD]
section
variable {K : PySem.W.Frag} {H : Hp}
theorem Dp.forI {x : V} {m : Nat} {es : List (Int × Int)} (h : Dp K H x (forD m es)) :
    ∃ a b xs, x = .ref a ∧ SqT K H a [.int (m : Int), .ref b] ∧ SqT K H b xs ∧ DpAll K H xs (es.map prD) := by
  obtain ⟨a, xs, e, h1, h2⟩ := Dp.tupI h
  cases h2 with
  | cons ha hb =>
    cases hb with
    | cons hc hd =>
      cases hd
      obtain ⟨b, ys, e2, h3, h4⟩ := Dp.tupI hc
      subst e2
      rw [Dp.intI ha] at h1
      exact ⟨a, b, ys, e, h1, h3, h4⟩
theorem Dp.intsI {x : V} {ns : List Int} (h : Dp K H x (intsD ns)) : ∃ a, x = .ref a ∧ SqT K H a (ns.map V.int) := by
  obtain ⟨a, xs, e, h1, h2⟩ := Dp.tupI h
  have := DpAll.ints h2
  subst this
  exact ⟨a, e, h1⟩
theorem Dp.ints {a : Addr} {ns : List Int} (h : SqT K H a (ns.map V.int)) : Dp K H (.ref a) (intsD ns) := .tup h (DpAll.of_ints ns)
end
/-! ### equal data -/
theorem eqv_pr (a b : Int × Int) : PyData.eqv (prD a) (prD b) = decide (a = b) := by
  have e : PyData.eqv (prD a) (prD b) = ((a.1 == b.1) && ((a.2 == b.2) && true)) := by simp only [prD, PyData.eqv, PyData.eqvAll]
  rw [e]
  obtain ⟨x, y⟩ := a
  obtain ⟨u, v⟩ := b
  by_cases h1 : x = u
  · by_cases h2 : y = v
    · subst h1 h2; simp
    · have : ¬ ((x, y) : Int × Int) = (u, v) := fun z => h2 (Prod.mk.inj z).2
      rw [decide_eq_false this]; simp [h2]
  · have : ¬ ((x, y) : Int × Int) = (u, v) := fun z => h1 (Prod.mk.inj z).1
    rw [decide_eq_false this]; simp [h1]
theorem any_pr (p : Int × Int) : ∀ es : List (Int × Int), (es.map prD).any (fun z => PyData.eqv z (prD p)) = decide (p ∈ es)
  | [] => by simp
  | e :: es => by
    rw [List.map_cons, List.any_cons, any_pr p es, eqv_pr]
    by_cases h : e = p
    · subst h; simp
    · have h' : ¬ p = e := fun z => h z.symm
      simp [h, h']
theorem lay_pr (p : Int × Int) : (prD p).canLay0 = true := by simp [prD, PyData.canLay0, PyData.canLayAll0]
theorem lay_prs : ∀ es : List (Int × Int), PyData.canLayAll0 (es.map prD) = true
  | [] => by simp [PyData.canLayAll0]
  | e :: es => by simp [PyData.canLayAll0, lay_pr e, lay_prs es]
theorem dep_pr (p : Int × Int) : (prD p).depth ≤ 50 := by simp [prD, PyData.depth, PyData.depthAll]
theorem lay_ints : ∀ ns : List Int, PyData.canLayAll0 (ns.map PyData.int) = true
  | [] => by simp [PyData.canLayAll0]
  | n :: ns => by simp [PyData.canLayAll0, PyData.canLay0, lay_ints ns]
theorem dep_ints : ∀ ns : List Int, PyData.depthAll (ns.map PyData.int) = 0
  | [] => by simp [PyData.depthAll]
  | n :: ns => by simp [PyData.depthAll, PyData.depth, dep_ints ns]
theorem shaped_ints (ns : List Int) : SeqAt.shaped (.list (ns.map PyData.int)) = true := by
  unfold SeqAt.shaped
  simp only [PyData.canLay0, PyData.depth, lay_ints, dep_ints]
  decide
theorem eqv_nil (ns : List Int) : PyData.eqv (.list (ns.map PyData.int)) (.list []) = decide (ns = []) := by
  cases ns with
  | nil => simp [PyData.eqv, PyData.eqvAll]
  | cons n r => simp [PyData.eqv, PyData.eqvAll]
/-! ### ints in lists of ints -/
theorem flat_ints (ns : List Int) : (ns.map V.int).all flatV = true := by
  rw [List.all_map]
  exact List.all_eq_true.mpr fun _ _ => rfl
theorem inV_ints (x : Int) : ∀ ns : List Int, inV (.int x) (ns.map V.int) = decide (x ∈ ns)
  | [] => by simp [inV]
  | n :: ns => by
    have ih := inV_ints x ns
    unfold inV at ih ⊢
    rw [List.map_cons, List.any_cons, ih]
    show (decide (n = x) || decide (x ∈ ns)) = _
    by_cases h : n = x
    · subst h; simp
    · have h' : ¬ x = n := fun z => h z.symm
      simp [h, h']
/-! ### an if whose test is read for any end -/
theorem ifJ {c : TT} {t u : TS} {D : Ends} {σ : L2.St} {H : Hp} (R : Bool → Hp → Prop)
    (h1 : ∀ Q : Bool → Hp → Prop, (∀ b H1, R b H1 → Q b H1) → c σ H Q) (h2 : ∀ H1, R true H1 → t D σ H1) (h3 : ∀ H1, R false H1 → u D σ H1) : tIfS c t u D σ H := by
  refine h1 _ fun b H1 r => ?_
  cases b with
  | true => exact iteT (h2 H1 r)
  | false => exact iteF (h3 H1 r)
end TL
namespace TL
open PySem PySem.Spec PyProof.Rows L2
/-! ### comprehensions that leave all that was tracked as it was -/
theorem lc_gen {K : PySem.W.Frag} {J : It} {g : TG} {tt : TT} {te : TE} {vs : List Nat} {σ : L2.St} {H1 : Hp} {D : Addr} {Qd : Hp → Prop} {β : Type}
    (bs : List β) (σb : β → L2.St) (p : β → Bool) (d : β → PyData) (nD : H1 D = none)
    (hgo : ∀ j H', j < bs.length → Same H1 H' → J.go j H') (hst : ∀ H', Same H1 H' → J.stop bs.length H')
    (hg : ∀ j b x H' H'', bs[j]? = some b → Same H1 H' → J.yld j H' x H'' → H'' = H' ∧ ∀ Q : L2.St → Hp → Prop, Q (σb b) H' → g x (wipe σ vs) H' Q)
    (hw : ∀ b, wipe (σb b) vs = wipe σ vs)
    (ht : ∀ b ∈ bs, ∀ H' (Q : Bool → Hp → Prop), Same H1 H' → (∀ H2, Same H' H2 → Q (p b) H2) → tt (σb b) H' Q)
    (he : ∀ b ∈ bs, p b = true → ∀ H' (Q : VK), Same H1 H' → (∀ H2 y, Same H' H2 → Dp K H2 y (d b) → Q y H2) → te (σb b) H' Q)
    (ho : ∀ b, only (d b) = true) (hl : bs.length ≤ 1000)
    (hd : ∀ H' ys, Same H1 H' → H' D = some (.lst ys) → DpAll K H' ys ((bs.filter p).map d) → Qd H') : LcGoal J g tt te vs σ H1 D Qd := by
  have oa : ∀ l : List β, onlyAll (l.map d) = true := by
    intro l
    induction l with
    | nil => simp [onlyAll]
    | cons b l ih => simp [onlyAll, ho b, ih]
  refine lc_by bs.length (fun i H' => ∃ ys, Same H1 H' ∧ H' D = some (.lst ys) ∧ DpAll K H' ys (((bs.take i).filter p).map d) ∧ ys.length ≤ i) ?_ ?_ ?_ ?_ ?_
  · exact ⟨[], same_upd nD, upd_same, .nil, Nat.le_refl _⟩
  · rintro i H' hi ⟨ys, s, _⟩
    exact hgo i H' hi s
  · rintro H' ⟨ys, s, _⟩
    exact hst H' s
  · rintro i x H' H'' hi ⟨ys, s, eD, a, ln⟩ y
    obtain ⟨rfl, k⟩ := hg i bs[i] x H' H'' (List.getElem?_eq_getElem hi) s y
    have mb : bs[i] ∈ bs := List.getElem_mem hi
    have tk : bs.take (i + 1) = bs.take i ++ [bs[i]] := by rw [List.take_add_one, List.getElem?_eq_getElem hi]; rfl
    refine k _ ⟨hw _, ht _ mb _ _ s fun H2 s2 => ?_⟩
    by_cases hp : p bs[i] = true
    · rw [if_pos hp]
      refine he _ mb hp _ _ (s.trans s2) fun H3 z s3 dz => ?_
      have e3 := s3 _ _ (s2 _ _ eD)
      have kt : KT K H3 (upd H3 D (.lst (ys ++ [z]))) := kt_lst e3
      refine ⟨ys, e3, small1000 (by omega), ys ++ [z], ?_, upd_same, ?_, ?_⟩
      · intro b o e
        rw [upd_ne (ne_of_none e nD)]
        exact s3 _ _ (s2 _ _ (s _ _ e))
      · rw [tk, List.filter_append, List.map_append, List.filter_cons_of_pos hp]
        exact DpAll.append (DpAll.kt kt (DpAll.same (s2.trans s3) a) (oa _)) (.cons (Dp.kt kt dz (ho _)) .nil)
      · rw [List.length_append, List.length_singleton]
        omega
    · rw [if_neg hp]
      refine ⟨ys, s.trans s2, s2 _ _ eD, ?_, by omega⟩
      rw [tk, List.filter_append, List.filter_cons_of_neg hp, List.filter_nil, List.append_nil]
      exact DpAll.same s2 a
  · rintro H' ⟨ys, s, eD, a, _⟩
    rw [List.take_length] at a
    exact hd H' ys s eD a
section
variable {K : PySem.W.Frag} {tt : TT} {te : TE} {vs : List Nat} {σ : L2.St} {H1 : Hp} {D : Addr} {Qd : Hp → Prop}
/-- over a list of ints, the element any data -/
theorem lc_listI {a : Addr} {ns : List Int} {i : Nat} (p : Int → Bool) (d : Int → PyData) (nD : H1 D = none) (hS : SqL K H1 a (ns.map V.int))
    (hw : ∀ v, wipe ((wipe σ vs).set i (some v)) vs = wipe σ vs)
    (ht : ∀ o ∈ ns, ∀ H' (Q : Bool → Hp → Prop), Same H1 H' → (∀ H2, Same H' H2 → Q (p o) H2) → tt ((wipe σ vs).set i (some (.int o))) H' Q)
    (he : ∀ o ∈ ns, p o = true → ∀ H' (Q : VK), Same H1 H' → (∀ H2 y, Same H' H2 → Dp K H2 y (d o) → Q y H2) → te ((wipe σ vs).set i (some (.int o))) H' Q)
    (ho : ∀ o, only (d o) = true) (hl : ns.length ≤ 1000)
    (hd : ∀ H' ys, Same H1 H' → H' D = some (.lst ys) → DpAll K H' ys ((ns.filter p).map d) → Qd H') : LcGoal (Itl K a) (gName i) tt te vs σ H1 D Qd := by
  refine lc_gen ns (fun o => (wipe σ vs).set i (some (.int o))) p d nD (fun j H' hj s => ⟨_, _, s.seq hS, List.getElem?_eq_getElem (by rw [List.length_map]; exact hj)⟩)
    (fun H' s => ⟨_, s.seq hS, by rw [List.length_map]; exact Nat.le_refl _⟩) (fun j b x H' H'' hb s y => ?_) (fun b => hw _) ht he ho hl hd
  obtain ⟨e, hy⟩ := y
  have := hy _ (s.seq hS)
  rw [List.getElem?_map, hb] at this
  cases this
  exact ⟨e, fun Q q => q⟩
/-- over a tuple of ints -/
theorem lc_tupI {a : Addr} {ns : List Int} {i : Nat} (p : Int → Bool) (d : Int → PyData) (nD : H1 D = none) (hS : SqT K H1 a (ns.map V.int))
    (hw : ∀ v, wipe ((wipe σ vs).set i (some v)) vs = wipe σ vs)
    (ht : ∀ o ∈ ns, ∀ H' (Q : Bool → Hp → Prop), Same H1 H' → (∀ H2, Same H' H2 → Q (p o) H2) → tt ((wipe σ vs).set i (some (.int o))) H' Q)
    (he : ∀ o ∈ ns, p o = true → ∀ H' (Q : VK), Same H1 H' → (∀ H2 y, Same H' H2 → Dp K H2 y (d o) → Q y H2) → te ((wipe σ vs).set i (some (.int o))) H' Q)
    (ho : ∀ o, only (d o) = true) (hl : ns.length ≤ 1000)
    (hd : ∀ H' ys, Same H1 H' → H' D = some (.lst ys) → DpAll K H' ys ((ns.filter p).map d) → Qd H') : LcGoal (Itt K a) (gName i) tt te vs σ H1 D Qd := by
  refine lc_gen ns (fun o => (wipe σ vs).set i (some (.int o))) p d nD (fun j H' hj s => ⟨_, _, Same.tup s hS, List.getElem?_eq_getElem (by rw [List.length_map]; exact hj)⟩)
    (fun H' s => ⟨_, Same.tup s hS, by rw [List.length_map]; exact Nat.le_refl _⟩) (fun j b x H' H'' hb s y => ?_) (fun b => hw _) ht he ho hl hd
  obtain ⟨e, hy⟩ := y
  have := hy _ (Same.tup s hS)
  rw [List.getElem?_map, hb] at this
  cases this
  exact ⟨e, fun Q q => q⟩
/-- over range(m) -/
theorem lc_rng {m i : Nat} (p : Int → Bool) (d : Int → PyData) (nD : H1 D = none)
    (hw : ∀ v, wipe ((wipe σ vs).set i (some v)) vs = wipe σ vs)
    (ht : ∀ o ∈ rng m, ∀ H' (Q : Bool → Hp → Prop), Same H1 H' → (∀ H2, Same H' H2 → Q (p o) H2) → tt ((wipe σ vs).set i (some (.int o))) H' Q)
    (he : ∀ o ∈ rng m, p o = true → ∀ H' (Q : VK), Same H1 H' → (∀ H2 y, Same H' H2 → Dp K H2 y (d o) → Q y H2) → te ((wipe σ vs).set i (some (.int o))) H' Q)
    (ho : ∀ o, only (d o) = true) (hl : m ≤ 1000)
    (hd : ∀ H' ys, Same H1 H' → H' D = some (.lst ys) → DpAll K H' ys (((rng m).filter p).map d) → Qd H') : LcGoal (Itr 0 m) (gName i) tt te vs σ H1 D Qd := by
  refine lc_gen (rng m) (fun o => (wipe σ vs).set i (some (.int o))) p d nD (fun j H' hj s => by rw [rng_length] at hj; exact hj)
    (fun H' s => by rw [rng_length]; exact Nat.le_refl _) (fun j b x H' H'' hb s y => ?_) (fun b => hw _) ht he ho (by rw [rng_length]; exact hl) hd
  obtain ⟨e, hy⟩ := y
  unfold rng at hb
  rw [List.getElem?_map] at hb
  obtain ⟨z, hz, rfl⟩ := Option.map_eq_some_iff.mp hb
  obtain ⟨h1, rfl⟩ := List.getElem?_eq_some_iff.mp hz
  rw [List.getElem_range] at *
  subst hy
  refine ⟨e, fun Q q => ?_⟩
  show Q ((wipe σ vs).set i (some (.int (0 + (j : Int))))) H'
  rw [Int.zero_add]
  exact q
/-- over a tuple of pairs, the target two names -/
theorem lc_tupP {a : Addr} {xs : List V} {es : List (Int × Int)} {i j : Nat} (p : Int × Int → Bool) (d : Int × Int → PyData) (nD : H1 D = none) (hS : SqT K H1 a xs) (hA : DpAll K H1 xs (es.map prD))
    (hw : ∀ v u, wipe (((wipe σ vs).set i (some v)).set j (some u)) vs = wipe σ vs)
    (ht : ∀ o ∈ es, ∀ H' (Q : Bool → Hp → Prop), Same H1 H' → (∀ H2, Same H' H2 → Q (p o) H2) → tt (((wipe σ vs).set i (some (.int o.1))).set j (some (.int o.2))) H' Q)
    (he : ∀ o ∈ es, p o = true → ∀ H' (Q : VK), Same H1 H' → (∀ H2 y, Same H' H2 → Dp K H2 y (d o) → Q y H2) → te (((wipe σ vs).set i (some (.int o.1))).set j (some (.int o.2))) H' Q)
    (ho : ∀ o, only (d o) = true) (hl : es.length ≤ 1000)
    (hd : ∀ H' ys, Same H1 H' → H' D = some (.lst ys) → DpAll K H' ys ((es.filter p).map d) → Qd H') :
    LcGoal (Itt K a) (gTup K 2 (gCons (gName i) (gCons (gName j) gNil))) tt te vs σ H1 D Qd := by
  have xl : xs.length = es.length := by rw [DpAll.length hA, List.length_map]
  refine lc_gen es (fun o => ((wipe σ vs).set i (some (.int o.1))).set j (some (.int o.2))) p d nD (fun j H' hj s => ⟨_, _, Same.tup s hS, List.getElem?_eq_getElem (by rw [xl]; exact hj)⟩)
    (fun H' s => ⟨_, Same.tup s hS, by rw [xl]; exact Nat.le_refl _⟩) (fun k b x H' H'' hb s y => ?_) (fun b => hw _ _) ht he ho hl hd
  obtain ⟨e, hy⟩ := y
  obtain ⟨z, hz, dz⟩ := DpAll.get hA (hy _ (Same.tup s hS))
  rw [List.getElem?_map, hb] at hz
  cases hz
  obtain ⟨t, rfl, hT⟩ := Dp.prI (Dp.same s dz)
  exact ⟨e, fun Q q => ⟨t, _, rfl, hT, rfl, _, _, rfl, _, _, rfl, rfl, q⟩⟩
/-- over a list of pairs -/
theorem lc_listP {a : Addr} {xs : List V} {es : List (Int × Int)} {i j : Nat} (p : Int × Int → Bool) (d : Int × Int → PyData) (nD : H1 D = none) (hS : SqL K H1 a xs) (hA : DpAll K H1 xs (es.map prD))
    (hw : ∀ v u, wipe (((wipe σ vs).set i (some v)).set j (some u)) vs = wipe σ vs)
    (ht : ∀ o ∈ es, ∀ H' (Q : Bool → Hp → Prop), Same H1 H' → (∀ H2, Same H' H2 → Q (p o) H2) → tt (((wipe σ vs).set i (some (.int o.1))).set j (some (.int o.2))) H' Q)
    (he : ∀ o ∈ es, p o = true → ∀ H' (Q : VK), Same H1 H' → (∀ H2 y, Same H' H2 → Dp K H2 y (d o) → Q y H2) → te (((wipe σ vs).set i (some (.int o.1))).set j (some (.int o.2))) H' Q)
    (ho : ∀ o, only (d o) = true) (hl : es.length ≤ 1000)
    (hd : ∀ H' ys, Same H1 H' → H' D = some (.lst ys) → DpAll K H' ys ((es.filter p).map d) → Qd H') :
    LcGoal (Itl K a) (gTup K 2 (gCons (gName i) (gCons (gName j) gNil))) tt te vs σ H1 D Qd := by
  have xl : xs.length = es.length := by rw [DpAll.length hA, List.length_map]
  refine lc_gen es (fun o => ((wipe σ vs).set i (some (.int o.1))).set j (some (.int o.2))) p d nD (fun j H' hj s => ⟨_, _, s.seq hS, List.getElem?_eq_getElem (by rw [xl]; exact hj)⟩)
    (fun H' s => ⟨_, s.seq hS, by rw [xl]; exact Nat.le_refl _⟩) (fun k b x H' H'' hb s y => ?_) (fun b => hw _ _) ht he ho hl hd
  obtain ⟨e, hy⟩ := y
  obtain ⟨z, hz, dz⟩ := DpAll.get hA (hy _ (s.seq hS))
  rw [List.getElem?_map, hb] at hz
  cases hz
  obtain ⟨t, rfl, hT⟩ := Dp.prI (Dp.same s dz)
  exact ⟨e, fun Q q => ⟨t, _, rfl, hT, rfl, _, _, rfl, _, _, rfl, rfl, q⟩⟩
end
theorem only_int (i : Int) : only (.int i) = true := by simp [only]
theorem lst_ints {K : PySem.W.Frag} {H : Hp} {ys : List V} {ns : List Int} (h : DpAll K H ys (ns.map .int)) : ys = ns.map V.int := DpAll.ints h
end TL
namespace TL
open PySem PySem.Spec PyProof.Rows L2
theorem onlyAll_app : ∀ a b : List PyData, onlyAll (a ++ b) = (onlyAll a && onlyAll b)
  | [], b => by simp [onlyAll]
  | x :: a, b => by
    rw [List.cons_append]
    simp only [onlyAll, onlyAll_app a b, Bool.and_assoc]
theorem onlyAll_map {β : Type} {d : β → PyData} (h : ∀ b, only (d b) = true) : ∀ l : List β, onlyAll (l.map d) = true
  | [] => by simp [onlyAll]
  | x :: l => by simp [onlyAll, h x, onlyAll_map h l]
/-- [e for u in a tuple of ints for v in what f gives] -/
theorem lc2_tup {K : PySem.W.Frag} {a : Addr} {S : List Int} {i j : Nat} {wi1 : TI} {te : TE} {vs vs1 : List Nat} {σ : L2.St} {H1 : Hp} {D : Addr} {Qd : Hp → Prop}
    (f : Int → List Int) (d : Int → Int → PyData) (nD : H1 D = none) (hS : SqT K H1 a (S.map V.int))
    (hw : ∀ v, wipe ((wipe σ vs).set i (some v)) vs = wipe σ vs)
    (hw1 : ∀ u v, wipe ((wipe ((wipe σ vs).set i (some u)) vs1).set j (some v)) vs1 = wipe ((wipe σ vs).set i (some u)) vs1)
    (hin : ∀ u ∈ S, ∀ H' (R : It → Hp → Prop), Same H1 H' → (∀ H2 b, Same H' H2 → SqT K H2 b ((f u).map V.int) → R (Itt K b) H2) → wi1 ((wipe σ vs).set i (some (.int u))) H' R)
    (he : ∀ u ∈ S, ∀ v ∈ f u, ∀ H' (Q : VK), Same H1 H' → (∀ H2 y, Same H' H2 → Dp K H2 y (d u v) → Q y H2) → te ((wipe ((wipe σ vs).set i (some (.int u))) vs1).set j (some (.int v))) H' Q)
    (ho : ∀ u v, only (d u v) = true) (hl : S.length ≤ 100) (hf : ∀ u ∈ S, (f u).length ≤ 100)
    (hd : ∀ H' ys, Same H1 H' → H' D = some (.lst ys) → DpAll K H' ys (S.flatMap fun u => (f u).map (d u)) → Qd H') :
    ∃ W : Nat → Nat → Hp → Prop, (∃ m, W 0 m (upd H1 D (.lst []))) ∧ ∀ k m H, W k m H →
      ((Itt K a).stop k H ∧ Qd H) ∨
      ((Itt K a).go k H ∧ ∃ Nx : Hp → Prop, (∀ H', Nx H' → ∃ m', m' < m ∧ W (k + 1) m' H') ∧
        ∀ x H', (Itt K a).yld k H x H' → (gName i) x (wipe σ vs) H' fun σ2 H2 =>
          wipe σ2 vs = wipe σ vs ∧ tYes σ2 H2 fun b H3 =>
            if b = true then
              wi1 σ2 H3 fun J1 H4 => ∃ W1 : Nat → Nat → Hp → Prop, (∃ m, W1 0 m H4) ∧ ∀ j' k H, W1 j' k H →
                (J1.stop j' H ∧ Nx H) ∨
                (J1.go j' H ∧ ∃ Nx1 : Hp → Prop, (∀ H', Nx1 H' → ∃ k', k' < k ∧ W1 (j' + 1) k' H') ∧
                  ∀ x H', J1.yld j' H x H' → (gName j) x (wipe σ2 vs1) H' fun σ3 H5 =>
                    wipe σ3 vs1 = wipe σ2 vs1 ∧ tYes σ3 H5 fun b H6 =>
                      if b = true then
                        te σ3 H6 fun y H7 => ∃ acc, H7 D = some (.lst acc) ∧ acc.length < sizeLine ∧ Nx1 (upd H7 D (.lst (acc ++ [y])))
                      else Nx1 H6)
            else Nx H3) := by
  have ofl : ∀ l : List Int, onlyAll (l.flatMap fun u => (f u).map (d u)) = true := by
    intro l
    induction l with
    | nil => simp [onlyAll]
    | cons u l ih => rw [List.flatMap_cons, onlyAll_app, ih, onlyAll_map (ho u)]; rfl
  let Pv : Nat → Hp → Prop := fun k H' => ∃ ys, Same H1 H' ∧ H' D = some (.lst ys) ∧ DpAll K H' ys ((S.take k).flatMap fun u => (f u).map (d u)) ∧ ys.length ≤ 100 * k
  refine ⟨fun k m H => m = S.length - k ∧ k ≤ S.length ∧ Pv k H, ⟨S.length, rfl, Nat.zero_le _, [], same_upd nD, upd_same, .nil, Nat.le_refl _⟩, fun k m H hW => ?_⟩
  obtain ⟨em, hk, ys, s, eD, dy, ln⟩ := hW
  by_cases hlt : k < S.length
  · refine .inr ⟨⟨_, _, Same.tup s hS, List.getElem?_eq_getElem (by rw [List.length_map]; exact hlt)⟩, Pv (k + 1), fun H' p => ⟨S.length - (k + 1), by omega, rfl, hlt, p⟩, fun x H' y => ?_⟩
    obtain ⟨e, hy⟩ := y
    subst e
    have hx := hy _ (Same.tup s hS)
    rw [List.getElem?_map, List.getElem?_eq_getElem hlt] at hx
    cases hx
    have mu : S[k] ∈ S := List.getElem_mem hlt
    have tk : S.take (k + 1) = S.take k ++ [S[k]] := by rw [List.take_add_one, List.getElem?_eq_getElem hlt]; rfl
    refine ⟨hw _, yesI (iteT (hin _ mu _ _ s fun H4 b s4 hb => ?_))⟩
    refine ⟨fun j' m H => m = (f S[k]).length - j' ∧ j' ≤ (f S[k]).length ∧ ∃ zs, Same H1 H ∧ SqT K H b ((f S[k]).map V.int) ∧ H D = some (.lst zs) ∧
      DpAll K H zs (((S.take k).flatMap fun u => (f u).map (d u)) ++ ((f S[k]).take j').map (d S[k])) ∧ zs.length ≤ 100 * k + j', ⟨(f S[k]).length, rfl, Nat.zero_le _, ys, s.trans s4, hb, s4 _ _ eD, ?_, by omega⟩, fun j' m H hW => ?_⟩
    · rw [List.take_zero, List.map_nil, List.append_nil]
      exact DpAll.same s4 dy
    · obtain ⟨em', hj, zs, sj, hbj, eDj, dz, lz⟩ := hW
      have lf := hf _ mu
      by_cases hjl : j' < (f S[k]).length
      · refine .inr ⟨⟨_, _, hbj, List.getElem?_eq_getElem (by rw [List.length_map]; exact hjl)⟩, fun H => ∃ zs, Same H1 H ∧ SqT K H b ((f S[k]).map V.int) ∧ H D = some (.lst zs) ∧
          DpAll K H zs (((S.take k).flatMap fun u => (f u).map (d u)) ++ ((f S[k]).take (j' + 1)).map (d S[k])) ∧ zs.length ≤ 100 * k + (j' + 1),
          fun H' p => ⟨(f S[k]).length - (j' + 1), by omega, rfl, hjl, p⟩, fun x H' y => ?_⟩
        obtain ⟨e, hy⟩ := y
        subst e
        have hx := hy _ hbj
        rw [List.getElem?_map, List.getElem?_eq_getElem hjl] at hx
        cases hx
        have mv : (f S[k])[j'] ∈ f S[k] := List.getElem_mem hjl
        refine ⟨hw1 _ _, yesI (iteT (he _ mu _ mv _ _ sj fun H5 y5 s5 d5 => ?_))⟩
        have e5 := s5 _ _ eDj
        have kt : KT K H5 (upd H5 D (.lst (zs ++ [y5]))) := kt_lst e5
        refine ⟨zs, e5, Nat.lt_of_le_of_lt (show zs.length ≤ 20000 by omega) (by decide), zs ++ [y5], ?_, kt _ _ (Same.tup s5 hbj), upd_same, ?_, ?_⟩
        · intro c o e
          rw [upd_ne (ne_of_none e nD)]
          exact s5 _ _ (sj _ _ e)
        · rw [List.take_add_one, List.getElem?_eq_getElem hjl, List.map_append, ← List.append_assoc]
          refine DpAll.append (DpAll.kt kt (DpAll.same s5 dz) ?_) (.cons (Dp.kt kt d5 (ho _ _)) .nil)
          rw [onlyAll_app, ofl, onlyAll_map (ho _)]
          rfl
        · rw [List.length_append, List.length_singleton]
          omega
      · obtain rfl : j' = (f S[k]).length := by omega
        refine .inl ⟨⟨_, hbj, by rw [List.length_map]; exact Nat.le_refl _⟩, zs, sj, eDj, ?_, by omega⟩
        rw [List.take_length] at dz
        rw [tk, List.flatMap_append, List.flatMap_cons, List.flatMap_nil, List.append_nil]
        exact dz
  · obtain rfl : k = S.length := by omega
    rw [List.take_length] at dy
    exact .inl ⟨⟨_, Same.tup s hS, by rw [List.length_map]; exact Nat.le_refl _⟩, hd H ys s eD dy⟩
section
variable {X : Cx}
def tTruth (K : PySem.W.Frag) (ta : TE) : TT := fun σ H Q => ta σ H fun x H' => ∃ k, TruV K x H' k ∧ Q k H'
theorem truthK (K : PySem.W.Frag) {a : Expr} {ta : TE} (ha : PE X a ta)
    (he : ∀ whole, isTrue a X.env whole = (do let v ← whole; standAt a.pos; holding [v] (truthy v))) (h : X.K = K := by rfl) :
    PT X a (tTruth K ta) := h ▸ pt_truth ha he
theorem isiK (K : PySem.W.Frag) (h : X.K = K := by rfl) : CallR X (.builtin "isinstance") (rIsi K) := h ▸ call_isi
end
theorem ty_tup {K : PySem.W.Frag} {H : Hp} {a : Addr} {xs : List V} (h : SqT K H a xs) : TyX K H (.ref a) (.type "tuple") := by
  rcases h with (h | ⟨o, h⟩) | ⟨o, its, n, h, c, _⟩
  · exact .base (.tup h)
  · exact .fTuple h
  · exact .kTuple h c
end TL
namespace TL
/-! ### slides -/
def oth (m : Nat) (es : List (Int × Int)) (S : List Int) (u v : Int) : List Int := (nearL m es v).filter fun o => decide (o ∈ S) && !decide (o = u)
theorem mem_oth {m : Nat} {es : List (Int × Int)} {S : List Int} {u v o : Int} : o ∈ oth m es S u v ↔ o ∈ nearL m es v ∧ o ∈ S ∧ o ≠ u := by
  unfold oth
  rw [List.mem_filter, Bool.and_eq_true, decide_eq_true_eq, Bool.not_eq_true', decide_eq_false_iff_not]
def stepsL (m : Nat) (es : List (Int × Int)) (T : List Int) : List (Int × Int) := T.flatMap fun u => (nearL m es u).map fun v => (u, v)
def slidesP (m : Nat) (es : List (Int × Int)) (S : List Int) : List (Int × Int) := (stepsL m es S).filter fun p => decide (oth m es S p.1 p.2 = [])
def slidesT (m : Nat) (es : List (Int × Int)) (S T : List Int) : List (Int × Int) := T.flatMap fun u => ((nearL m es u).filter fun v => decide (oth m es S u v = [])).map fun v => (u, v)
theorem slides_eqT (m : Nat) (es : List (Int × Int)) (S : List Int) : ∀ T : List Int, (stepsL m es T).filter (fun p => decide (oth m es S p.1 p.2 = [])) = slidesT m es S T
  | [] => rfl
  | u :: T => by
    have ih := slides_eqT m es S T
    unfold stepsL slidesT at ih ⊢
    rw [List.flatMap_cons, List.flatMap_cons, List.filter_append, ih, List.filter_map]
    rfl
theorem slides_eq (m : Nat) (es : List (Int × Int)) (S : List Int) : slidesP m es S = slidesT m es S S := slides_eqT m es S S
theorem mem_slidesP {m : Nat} {es : List (Int × Int)} {S : List Int} {u v : Int} : (u, v) ∈ slidesP m es S ↔ u ∈ S ∧ v ∈ nearL m es u ∧ oth m es S u v = [] := by
  unfold slidesP stepsL
  rw [List.mem_filter, List.mem_flatMap, decide_eq_true_eq]
  constructor
  · rintro ⟨⟨a, ha, hb⟩, h⟩
    obtain ⟨b, hb, e⟩ := List.mem_map.mp hb
    cases e
    exact ⟨ha, hb, h⟩
  · rintro ⟨h1, h2, h3⟩
    exact ⟨⟨u, h1, List.mem_map.mpr ⟨v, h2, rfl⟩⟩, h3⟩
theorem ascP_steps (m : Nat) (es : List (Int × Int)) : ∀ {T : List Int}, Asc T → AscP (stepsL m es T)
  | [], _ => .nil
  | u :: T, h => by
    have h' := List.pairwise_cons.mp h
    unfold stepsL
    rw [List.flatMap_cons]
    refine List.pairwise_append.mpr ⟨?_, ascP_steps m es h'.2, ?_⟩
    · rw [List.pairwise_map]
      exact (nearL_asc m es u).imp fun h => .inr ⟨rfl, h⟩
    · intro a ha b hb
      obtain ⟨v, _, rfl⟩ := List.mem_map.mp ha
      obtain ⟨z, hz, hb⟩ := List.mem_flatMap.mp hb
      obtain ⟨y, _, rfl⟩ := List.mem_map.mp hb
      exact .inl (h'.1 z hz)
theorem ascP_slides {m : Nat} {es : List (Int × Int)} {S : List Int} (h : Asc S) : AscP (slidesP m es S) := (ascP_steps m es h).filter _
theorem nearL_len (m : Nat) (es : List (Int × Int)) (v : Int) : (nearL m es v).length ≤ m := by
  have := List.length_filter_le (fun o => decide (ordP o v ∈ es)) (rng m)
  rw [rng_length] at this
  exact this
theorem asc_len {m : Nat} : ∀ {S : List Int} {lo : Nat}, Asc S → (∀ v ∈ S, (lo : Int) ≤ v ∧ v < m) → S.length ≤ m - lo
  | [], _, _, _ => Nat.zero_le _
  | v :: S, lo, h, b => by
    have h' := List.pairwise_cons.mp h
    have hv := b v List.mem_cons_self
    have := asc_len (m := m) (lo := v.toNat + 1) h'.2 fun z hz => ⟨by have := h'.1 z hz; omega, (b z (List.mem_cons_of_mem _ hz)).2⟩
    rw [List.length_cons]
    omega
theorem IsSet.len {m : Nat} {es : List (Int × Int)} {S : List Int} (h : IsSet m es S) : S.length ≤ m := by
  have := asc_len (lo := 0) h.asc fun v hv => by have := h.rng v hv; omega
  omega
theorem steps_len (m : Nat) (es : List (Int × Int)) : ∀ T : List Int, (stepsL m es T).length ≤ T.length * m
  | [] => by simp [stepsL]
  | u :: T => by
    have ih := steps_len m es T
    unfold stepsL at ih ⊢
    rw [List.flatMap_cons, List.length_append, List.length_map, List.length_cons, Nat.add_mul, Nat.one_mul]
    have := nearL_len m es u
    omega
/-! ### the setting behind a slide -/
theorem move_perm {u v : Int} : ∀ {S : List Int}, S.Nodup → u ∈ S → (S.map fun l => if l = u then v else l).Perm (S.filter (fun l => !decide (l = u)) ++ [v])
  | [], _, h => nomatch h
  | a :: S, nd, h => by
    have nd' := List.nodup_cons.mp nd
    by_cases e : a = u
    · subst e
      rw [List.map_cons, if_pos rfl, List.filter_cons_of_neg (by simp)]
      have e1 : S.map (fun l => if l = a then v else l) = S := by
        have q : S.map (fun l => if l = a then v else l) = S.map id :=
          List.map_congr_left fun l hl => if_neg fun z => nd'.1 (by rw [← z]; exact hl)
        rw [q, List.map_id]
      have e2 : S.filter (fun l => !decide (l = a)) = S := List.filter_eq_self.mpr fun l hl => by
        have : l ≠ a := fun z => nd'.1 (z ▸ hl)
        simp [this]
      rw [e1, e2]
      exact (List.perm_append_singleton v S).symm
    · rw [List.map_cons, if_neg e, List.filter_cons_of_pos (by simp [e]), List.cons_append]
      exact List.Perm.cons a (move_perm nd'.2 ((List.mem_cons.mp h).resolve_left fun z => e z.symm))
def after (S : List Int) (u v : Int) : List Int := srtI (S.filter (fun l => !decide (l = u)) ++ [v])
theorem after_eq {S : List Int} {u v : Int} (nd : S.Nodup) (h : u ∈ S) : srtI (S.map fun l => if l = u then v else l) = after S u v := srtI_congr (move_perm nd h)
theorem IsFor.loop {m : Nat} {es : List (Int × Int)} (f : IsFor m es) (v : Int) : ordP v v ∉ es := fun h => by
  have := f.rng _ h
  unfold ordP at this
  rw [if_pos (Int.le_refl _)] at this
  simp only at this
  omega
theorem mem_after {S : List Int} {u v z : Int} : z ∈ after S u v ↔ (z ∈ S ∧ z ≠ u) ∨ z = v := by
  unfold after
  rw [mem_srtI, List.mem_append, List.mem_filter, List.mem_singleton, Bool.not_eq_true', decide_eq_false_iff_not]
theorem IsSet.after {m : Nat} {es : List (Int × Int)} {S : List Int} {u v : Int} (f : IsFor m es) (h : IsSet m es S) (hu : u ∈ S) (hv : v ∈ nearL m es u) (ho : oth m es S u v = []) :
    IsSet m es (after S u v) := by
  obtain ⟨rv, av⟩ := mem_nearL.mp hv
  have nv : v ∉ S := fun z => h.free v z u hu av
  have key : ∀ a ∈ S, a ≠ u → ordP a v ∉ es := fun a ha hne hin => by
    have : a ∈ oth m es S u v := mem_oth.mpr ⟨mem_nearL.mpr ⟨h.rng a ha, hin⟩, ha, hne⟩
    rw [ho] at this
    cases this
  refine ⟨srtI_asc ?_, fun z hz => ?_, fun a ha b hb => ?_⟩
  · refine List.nodup_append.mpr ⟨h.asc.nodup.filter _, List.pairwise_singleton _ _, fun a ha b hb e => ?_⟩
    rw [List.mem_singleton.mp hb] at e
    subst e
    exact nv (List.mem_filter.mp ha).1
  · rcases mem_after.mp hz with ⟨h1, _⟩ | rfl
    · exact h.rng z h1
    · exact rv
  · rcases mem_after.mp ha with ⟨h1, h2⟩ | rfl
    · rcases mem_after.mp hb with ⟨h3, h4⟩ | rfl
      · exact h.free a h1 b h3
      · exact key a h1 h2
    · rcases mem_after.mp hb with ⟨h3, h4⟩ | rfl
      · rw [ordP_comm]
        exact key b h3 h4
      · exact f.loop b
end TL
namespace TL
open PySem PySem.Spec PyProof.Rows L2
theorem Sm.ints {ns : List Int} {m : Nat} (h : ∀ v ∈ ns, sm v) (hm : ns.length ≤ m) : Sm (intsD ns) (m * 11) 1 :=
  Sm.tup (n := 10) (k := 0) (m := m) (fun d hd => by
    obtain ⟨p, hp, rfl⟩ := List.mem_map.mp hd
    exact Sm.int (h p hp)) (by rw [List.length_map]; exact hm)
theorem IsSet.shows {m : Nat} {es : List (Int × Int)} {S : List Int} (h : IsSet m es S) (hm : m ≤ 12) : Sm (intsD S) 132 1 :=
  Sm.ints (m := 12) (fun v hv => by have := h.rng v hv; unfold sm; omega) (by have := h.len; omega)
theorem IsFor.shows {m : Nat} {es : List (Int × Int)} (h : IsFor m es) (hm : m ≤ 12) : Sm (forD m es) 600 3 := by
  have h1 : Sm (prsD es) (12 * 23) 2 := Sm.prs (fun p hp => by have := h.rng p hp; unfold smP sm; omega) (by have := h.count; omega)
  have h2 : Sm (.int (m : Int)) (12 * 23) 2 := (Sm.int (by unfold sm; omega)).le (by decide) (by decide)
  refine (Sm.tup (n := 12 * 23) (k := 2) (m := 2) (fun d hd => ?_) (Nat.le_refl _)).le (by decide) (by decide)
  rcases List.mem_cons.mp hd with rfl | hd
  · exact h2
  · obtain rfl := List.mem_singleton.mp hd
    exact h1
theorem slides_small {m : Nat} {es : List (Int × Int)} {S : List Int} (h : IsSet m es S) (hm : m ≤ 12) : ∀ p ∈ slidesP m es S, smP p := by
  rintro ⟨u, v⟩ hp
  obtain ⟨h1, h2, _⟩ := mem_slidesP.mp hp
  have a := h.rng u h1
  have b := (mem_nearL.mp h2).1
  unfold smP sm
  exact ⟨⟨by show (-1000 : Int) ≤ u; omega, by show u ≤ 1000; omega⟩, by show (-1000 : Int) ≤ v; omega, by show v ≤ 1000; omega⟩
theorem slides_len {m : Nat} {es : List (Int × Int)} {S : List Int} (h : IsSet m es S) (hm : m ≤ 12) : (slidesP m es S).length ≤ 144 := by
  have h1 := List.length_filter_le (fun p => decide (oth m es S p.1 p.2 = [])) (stepsL m es S)
  have h2 := steps_len m es S
  have h3 : S.length * m ≤ 12 * 12 := Nat.mul_le_mul (by have := h.len; omega) hm
  unfold slidesP
  omega
theorem Sm.two {d e : PyData} {n k : Nat} (h1 : Sm d n k) (h2 : Sm e n k) : Sm (.list [d, e]) (2 * (n + 1)) (k + 1) :=
  Sm.lst (m := 2) (fun z hz => by
    rcases List.mem_cons.mp hz with rfl | hz
    · exact h1
    · obtain rfl := List.mem_singleton.mp hz
      exact h2) (Nat.le_refl _)
theorem show2 {m : Nat} {es : List (Int × Int)} {S : List Int} (f : IsFor m es) (h : IsSet m es S) (hm : m ≤ 12) : Shows (.list [forD m es, intsD S]) :=
  (Sm.two (f.shows hm) ((h.shows hm).le (by decide) (by decide))).shows (by decide) (by decide)
end TL
namespace TL
open PySem PySem.Spec PyProof.Rows L2
section
variable {X : Cx}
/-- name = {..} on one line, the name a local -/
theorem ps_setDc {i : Nat} {y : Str} {py : Pos} {kx vx tg iter : Expr} {ifs : List Expr} {scope : Scope} {own : List (Str × Nat)} {pos spos : Pos}
    {wi : TI} {g : TG} {tt : TT} {tk tv : TE} (hc : X.calm = true) (hN : X.N.Nodup) (hy : X.N[i]? = some y) (hyl : X.env.scope.names.lookup y = some .local)
    (hsw : swapsWith (.DictComp kx vx [⟨tg, iter, ifs, 0⟩] scope pos) (some (.Name y py)) spos.line X.env = pure true)
    (hi : PI X tg iter wi) (ok : BlkOk X.N X.env.scope scope own)
    (hg : ∀ (s : Shared) (H : Hp) (C : Addr) (cl : List (Str × Addr)) (fp : List Addr),
      PG (X.blk s H scope (compEnvC scope cl C X.env) fp) tg g)
    (ht : ∀ (s : Shared) (H : Hp) (C : Addr) (cl : List (Str × Addr)) (fp : List Addr),
      PTs (X.blk s H scope (compEnvC scope cl C X.env) fp) ifs tt)
    (hk : ∀ (s : Shared) (H : Hp) (C : Addr) (cl : List (Str × Addr)) (fp : List Addr),
      PE (X.blk s H scope (compEnvC scope cl C X.env) fp) kx tk)
    (he : ∀ (s : Shared) (H : Hp) (C : Addr) (cl : List (Str × Addr)) (fp : List Addr),
      PE (X.blk s H scope (compEnvC scope cl C X.env) fp) vx tv)
    (hs : ∀ x, foldedSetIterable iter X.env x = pure x := by intro _; rfl) :
    PS X (.Assign [.Name y py] (.DictComp kx vx [⟨tg, iter, ifs, 0⟩] scope pos) spos) (tAsg (tDc wi g tt tk tv (own.map (·.2))) (gName i)) := by
  refine ⟨fun pins s σ H D I h => ?_⟩
  rw [exec_Assign_Name_used _ _ _ _ hsw]
  refine wpAny_bind (wpAny_standAt (wpAny_bind ?_))
  show wpAny _ X.A (do
    let _ ← comprehension (.DictComp kx vx [⟨tg, iter, ifs, 0⟩] scope pos) scope X.env
      (firstIterPos [⟨tg, iter, ifs, 0⟩] pos) newDict false (eval iter X.env) (some (assign (.Name y py) X.env))) _ _ s
  have h2 : tDc wi g tt tk tv (own.map (·.2)) σ H (fun x H1 => gName i x σ H1 D.nx) := h
  refine wpAny_bind (thn (dc_core (Qf := fun _ s' => SP X pins D .next s') hc hN I hi ok hg ht hk he hs h2
    fun L C s' m H' I' q hn f => ?_) fun _ s' hq => wpAny_pure (wpAny_pure hq))
  show wpAny _ _ (assign (.Name y py) X.env (.ref L)) _ _ _
  refine wpAny_assign_Name (store_ok2 (v := V.ref L) I' hN hy (.inl hyl) rfl (fun s2 I2 ⟨a, sb, ha⟩ => ?_) (.inr hyl))
  obtain ⟨f0, f1, f2, f3, f4, f5⟩ := f
  have haC : C ≠ a := by
    rcases ha with z | z
    · rw [z]; exact f1
    · exact fun e => f4 y a z e.symm
  exact ⟨m, hn.sameBut sb haC, fun h3 sb3 => ⟨_, H', I2.turned (t' := s2.toks) (fun b o hb e => (sb3.2 b hb).trans e) f0 f1 f3 f4 f5, q⟩⟩
theorem sw_trueD {kx vx : Expr} {gs : List Comprehension} {scope : Scope} {pos py : Pos} {y : Str} {l : Nat} {env : Env} (hk : env.scope.kind = .function)
    (hy : env.scope.names.lookup y = some .local) (hl : (py.line == pos.line) = true)
    (ha : (scope.names.any fun (n, k) => n == y && (k == .local || k == .cell)) = false) :
    swapsWith (.DictComp kx vx gs scope pos) (some (.Name y py)) l env = pure true := by
  have ky : env.kindOf y = some .local := hy
  have hb : env.blockKind = .function := by
    unfold Env.blockKind
    rw [hk]
    rfl
  unfold swapsWith
  simp only [hb, ky, ha, Expr.pos, hl]
  rfl
end
/-! ### tables from ints to ints -/
def tab (f : Int → Int) (vs : List Int) : List (Key × V) := vs.map fun v => ((Sum.inl v : Key), V.int (f v))
theorem tab_val (f : Int → Int) (v : Int) : ∀ vs : List Int, valV (tab f vs) (Sum.inl v) = if v ∈ vs then some (V.int (f v)) else none
  | [] => rfl
  | u :: vs => by
    have ih := tab_val f v vs
    unfold tab at ih ⊢
    rw [List.map_cons]
    by_cases e : u = v
    · subst e
      rw [valV_pos rfl, if_pos List.mem_cons_self]
    · have e' : ¬ (Sum.inl u : Key) = Sum.inl v := fun z => e (Sum.inl.inj z)
      rw [valV_neg e', ih]
      by_cases h : v ∈ vs
      · rw [if_pos h, if_pos (List.mem_cons_of_mem _ h)]
      · rw [if_neg h, if_neg fun z => (List.mem_cons.mp z).elim (fun z => e z.symm) h]
theorem tab_len (f : Int → Int) (vs : List Int) : (tab f vs).length = vs.length := List.length_map _
theorem tab_snoc (f : Int → Int) (vs : List Int) (v : Int) (h : v ∉ vs) : putK (tab f vs) (Sum.inl v) (V.int (f v)) = tab f (vs ++ [v]) := by
  rw [putK_new _ (by rw [tab_val, if_neg h])]
  unfold tab
  rw [List.map_append]
  rfl
/-- {v: f(v) for v in ..}: the turns leave what was tracked as it was -/
theorem dc_tab {J : It} {g : TG} {tk tv : TE} {vs : List Nat} {σ : L2.St} {H1 : Hp} {D : Addr} {Qd : Hp → Prop} (f : Int → Int) (bs : List Int) (σb : Int → L2.St)
    (nd : bs.Nodup) (nD : H1 D = none) (hl : bs.length ≤ 1000)
    (hgo : ∀ j H', j < bs.length → Same H1 H' → J.go j H') (hst : ∀ H', Same H1 H' → J.stop bs.length H')
    (hg : ∀ j b x H' H'', bs[j]? = some b → Same H1 H' → J.yld j H' x H'' → H'' = H' ∧ ∀ Q : L2.St → Hp → Prop, Q (σb b) H' → g x (wipe σ vs) H' Q)
    (hw : ∀ b, wipe (σb b) vs = wipe σ vs)
    (hk : ∀ b ∈ bs, ∀ H' (Q : VK), Same H1 H' → Q (.int b) H' → tk (σb b) H' Q)
    (hv : ∀ b ∈ bs, ∀ H' (Q : VK), Same H1 H' → (∀ H2, Same H' H2 → Q (.int (f b)) H2) → tv (σb b) H' Q)
    (hd : ∀ H', Same H1 H' → H' D = some (.dK (tab f bs)) → Qd H') :
    ∃ W : Nat → Nat → Hp → Prop, (∃ m, W 0 m (upd H1 D (.dK []))) ∧ ∀ i m H, W i m H →
      (J.stop i H ∧ Qd H) ∨
      (J.go i H ∧ ∃ Nx : Hp → Prop, (∀ H', Nx H' → ∃ m', m' < m ∧ W (i + 1) m' H') ∧
        ∀ x H', J.yld i H x H' → g x (wipe σ vs) H' fun σ2 H2 => wipe σ2 vs = wipe σ vs ∧ tYes σ2 H2 fun b H3 =>
          if b = true then
            tk σ2 H3 fun y H4 => tv σ2 H4 fun z H5 => ∃ kvs k, y = kV k ∧ H5 D = some (.dK kvs) ∧ kvs.length < sizeLine ∧ Nx (upd H5 D (.dK (putK kvs k z)))
          else Nx H3) := by
  let Pv : Nat → Hp → Prop := fun i H' => Same H1 H' ∧ H' D = some (.dK (tab f (bs.take i)))
  refine ⟨fun i m H => m = bs.length - i ∧ i ≤ bs.length ∧ Pv i H, ⟨bs.length, rfl, Nat.zero_le _, same_upd nD, upd_same⟩, fun i m H hW => ?_⟩
  obtain ⟨em, hi, s, eD⟩ := hW
  by_cases hlt : i < bs.length
  · refine .inr ⟨hgo i H hlt s, Pv (i + 1), fun H' p => ⟨bs.length - (i + 1), by omega, rfl, hlt, p⟩, fun x H' y => ?_⟩
    obtain ⟨rfl, k⟩ := hg i bs[i] x H H' (List.getElem?_eq_getElem hlt) s y
    have mb : bs[i] ∈ bs := List.getElem_mem hlt
    refine k _ ⟨hw _, yesI (iteT (hk _ mb _ _ s (hv _ mb _ _ s fun H5 s5 => ?_)))⟩
    have tk' : bs.take (i + 1) = bs.take i ++ [bs[i]] := by rw [List.take_add_one, List.getElem?_eq_getElem hlt]; rfl
    have ni : bs[i] ∉ bs.take i := fun z => by
      obtain ⟨j, hj, e⟩ := List.mem_iff_getElem.mp z
      rw [List.length_take] at hj
      rw [List.getElem_take] at e
      have := (List.getElem_inj nd).mp e
      omega
    refine ⟨tab f (bs.take i), Sum.inl bs[i], rfl, s5 _ _ eD, ?_, ?_, ?_⟩
    · rw [tab_len, List.length_take]
      exact small1000 (by omega)
    · intro b o e
      rw [upd_ne (ne_of_none e nD)]
      exact s5 _ _ (s _ _ e)
    · rw [upd_same, tab_snoc f _ _ ni, tk']
  · obtain rfl : i = bs.length := by omega
    rw [List.take_length] at eD
    exact .inl ⟨hst H s, hd H s eD⟩
end TL
namespace TL
open PySem PySem.Spec PyProof.Rows L2
/-- a def of the text that may raise, by its name -/
structure OwnX (P : Program) (w : World) (K : PySem.W.Frag) (mg : Str → Option Value) (base : Heap)
    (x : Str) (k : Nat) (ps : List Str) (sp : Sp) : Prop where
  ex : ∃ (f : Addr) (fd : FuncData), FnOk P w K mg base (L2.CX P w) k f fd ps sp ∧ mg x = some (.ref f) ∧
    PySem.W.keepIn K (.ref f) = true ∧ Binds K fd ps []
section
variable {X : Cx} {k : Nat} {ps : List Str} {sp : Sp} {x : Str} {p pos : Pos} {e : Expr} {es : List Expr} {t : TA} {W : WX}
theorem pe_ownX (O : OwnX X.prog X.w X.K X.mg X.base x k ps sp) (hr : Room k X.A) (tk : Takes X W) (hg : Gl X x) (ha : PA X (e :: es) t)
    (hdb : (x == ("__debug__" : Str)) = false := by decide)
    (he : starEach (e :: es) X.env = (false, eval e X.env) :: starEach es X.env := by rfl)
    (hpl : (backTo pos (starEach es X.env)).any (·.1) = false := by rfl) :
    PE X (.Call (.Name x p) (e :: es) [] pos) (tCallS sp (WE W) t) := by
  obtain ⟨f, fd, F, hm, hk, hb⟩ := O.ex
  exact pe_callS F hr hg hm hk hb (fun σ => passAt tk σ) ha hdb he hpl
end
/-! ### an error class of the text with one field -/
/-- self.f = value -/
def spInit (C : Addr) (f : Str) : Sp := fun vs H Q _ => ∃ (a : Addr) (y : V), vs = [.ref a, y] ∧ H a = some (exo a C none) ∧
  ∀ dx, H dx = none → dx ≠ a → Q .non (upd (upd H dx (exd dx [(f, y)])) a (exo a C (some dx)))
/-- what is said of such a class -/
structure ErrC (P : Program) (w : World) (K : PySem.W.Frag) (mg : Str → Option Value) (base : Heap) (x f : Str) (C : Addr) : Prop where
  oex : OexC K C
  xf : XfC K C
  exc : ExcC K C
  cls : (PySem.W.clsIn K C).isSome = true
  nof : PySem.W.findIn K (.ref C) f = some none
  glo : mg x = some (.ref C)
  ini : ∃ (fI : Addr) (fd : FuncData) (ps : List Str), PySem.W.findIn K (.ref C) "__init__" = some (some (.ref fI)) ∧ PySem.W.typeIn K (.ref fI) = some (.type "function") ∧
    FnOk P w K mg base CX0 1 fI fd ps (spInit C f) ∧ Binds K fd ps []
section
variable {X : Cx} {x f : Str} {C : Addr} {e : Expr} {p pos pos' : Pos} {ta : TA} {W : WX}
/-- raise x(e) -/
theorem ps_err (T : ErrC X.prog X.w X.K X.mg X.base x f C) (hr : Room 2 X.A) (tk : Takes X W) (hg : Gl X x) (ha : PA X [e] ta) (hc : X.calm = true := by rfl)
    (hdb : (x == ("__debug__" : Str)) = false := by decide)
    (he : starEach [e] X.env = (false, eval e X.env) :: starEach [] X.env := by rfl)
    (hpl : (backTo pos (starEach [] X.env)).any (·.1) = false := by rfl) :
    PS X (.Raise (some (.Call (.Name x p) [e] [] pos)) none pos') (fun _ σ H => tMkO C (spInit C f) [] ta σ H fun cls d H' => W cls d σ H') := by
  obtain ⟨fI, fd, ps, iC, tI, F, hb⟩ := T.ini
  exact ps_raise hc tk (pmk_oex (dvs := []) (ds := []) T.oex iC tI F hr hb .nil pass0 hg T.glo ha hdb he hpl)
/-- the reading of it -/
theorem errI {y : V} {H1 : Hp} {Q : XK} (q : ∀ (H' : Hp) (d : Addr), Same H1 H' → H' d = some (.xd [(f, y)]) → Q (.ref C) (some d) H') :
    [y].length ≤ 1000 ∧ ∀ a, H1 a = none → spInit C f (.ref a :: ([y] ++ [])) (upd H1 a (exo a C none))
      (fun v H2 => v = .non ∧ ∃ (d : Addr) (fs : List (Str × V)), H2 a = some (exo a C (some d)) ∧ H2 d = some (exd d fs) ∧ H1 d = none ∧ Q (.ref C) (some d) (upd (del H2 a) d (.xd fs))) (fun _ _ _ => False) := by
  refine ⟨by show 1 ≤ 1000; decide, fun a na => ⟨a, y, rfl, upd_same, fun dx nd ne => ?_⟩⟩
  rw [upd_ne ne] at nd
  refine ⟨rfl, dx, [(f, y)], upd_same, (upd_ne ne).trans upd_same, nd, q _ _ (fun b o e => ?_) upd_same⟩
  have hb : b ≠ a := fun z => by rw [z, na] at e; cases e
  have hd : b ≠ dx := fun z => by rw [z, nd] at e; cases e
  rw [upd_ne hd, del_ne hb, upd_ne hb, upd_ne hd, upd_ne hb]
  exact e
end
/-! ### isinstance of the error that a suite holds -/
def rIsX (K : PySem.W.Frag) (cls : Value) (d : Option Addr) (D a : Addr) : List V → Hp → VK → Prop := fun xs H Q => ∃ (c : V) (b : Bool), xs = [.ref a, c] ∧ cls = .ref D ∧ (∃ (dd : Addr) (fs : List (Str × V)), d = some dd ∧ H dd = some (.xd fs)) ∧
  ((∃ cv, (∀ u, RelV c u → u = cv) ∧ PySem.W.kitOne K (.ref D) cv = some b) ∨ ∃ (tp : Addr) (cs : List Addr), c = .ref tp ∧ H tp = some (.tup (cs.map V.ref)) ∧ PySem.W.kitAny K (.ref D) (cs.map Value.ref) = some b) ∧ Q (.bl b) H
theorem vals_refs : ∀ {cs : List Addr} {its : List Value}, Vals (cs.map V.ref) its → its = cs.map Value.ref
  | [], _, h => by cases h; rfl
  | c :: cs, _, h => by
    cases h with
    | cons r1 r2 =>
      cases r1
      rw [vals_refs r2]
      rfl
theorem isX {X : Cx} {a D : Addr} {oe : Obj} {cls : Value} {d : Option Addr} {pn : List (Addr × Obj)} (C : ExcC X.K D) (hcl : (PySem.W.clsIn X.K D).isSome = true) (hz : Zc cls d oe) (hf : ∃ vs, oe.data = .fields vs) :
    CallR (X.suite a ((a, oe) :: pn)) (.builtin "isinstance") (rIsX X.K cls d D a) := by
  intro pins s σ H xs us Q I r h
  obtain ⟨c, b, rfl, ec, ⟨dd, fs, ed, ex⟩, hk, q⟩ := h
  subst ec ed
  cases r with
  | cons rx rr =>
    cases rr with
    | cons rt rr =>
      cases rr
      cases rx
      obtain ⟨hget, _⟩ := I.pin (a, oe) (List.mem_append.mpr (.inl List.mem_cons_self))
      obtain ⟨vs, hv⟩ := hf
      have hx : ObjOk X.prog X.w H s.heap dd (.xd fs) := I.hok dd _ ex
      obtain ⟨mA, hns, hr⟩ := hx
      obtain ⟨od, ho, hl⟩ := lookIn_ns hns
      have J : PySem.W.InstAt s.heap a oe D (some od) := ⟨hget, hz.1, by unfold PySem.W.notCls; rw [hv] <;> rfl, by rw [hz.2]; exact ho⟩
      have Z := PySem.W.kitx_exc (x := a) (ox := oe) (od := some od) hcl C.hg C.hk C.hs C.ha C.hn C.ht C.hm
      rcases hk with ⟨cv, hcv, e⟩ | ⟨tp, cs, e1, e2, e⟩
      · have ec := hcv _ rt
        subst ec
        exact PySem.W.kia_one Z I.kIn J e (fun z => nomatch z) fun tk => ⟨.bl b, H, I.kept (t' := tk) fun _ _ z => z, rfl, q⟩
      · subst e1
        cases rt
        obtain ⟨_, its, r, o, h1, h2, n, h3⟩ := (show ObjOk X.prog X.w H s.heap tp (.tup (cs.map V.ref)) from I.hok tp _ e2)
        have ei : its = cs.map Value.ref := vals_refs r
        subst ei
        obtain ⟨oc, od2, oda, osl⟩ := o
        dsimp only at h2 h3
        subst h2 h3
        exact PySem.W.kia_tup Z I.kIn J h1 e (fun z => nomatch z) fun tk => ⟨.bl b, H, I.kept (t' := tk) fun _ _ z => z, rfl, q⟩
/-! ### in short, within a suite -/
theorem isXK (K : PySem.W.Frag) {X : Cx} {P : Program} {w : World} {mg : Str → Option Value} {base : Heap} {x f : Str} {a D : Addr} {oe : Obj} {cls : Value} {d : Option Addr} {pn : List (Addr × Obj)} (T : ErrC P w K mg base x f D) (hz : Zc cls d oe) (hf : ∃ vs, oe.data = .fields vs) (h : X.K = K := by rfl) :
    CallR (X.suite a ((a, oe) :: pn)) (.builtin "isinstance") (rIsX K cls d D a) := by
  subst h
  exact isX T.exc T.cls hz hf
theorem xfK (K : PySem.W.Frag) {X : Cx} {P : Program} {w : World} {mg : Str → Option Value} {base : Heap} {x n : Str} {a C : Addr} {oe : Obj} {cls : Value} {d : Option Addr} {pn : List (Addr × Obj)} {e : Expr} {te : TE} {pos : Pos} (T : ErrC P w K mg base x n C)
    (hz : Zc cls d oe) (hf : ∃ vs, oe.data = .fields vs) (he : PE (X.suite a ((a, oe) :: pn)) e te) (h : X.K = K := by rfl) (hb : attributeBase e n X.env (eval e X.env) = eval e X.env := by rfl) :
    PE (X.suite a ((a, oe) :: pn)) (.Attribute e n pos) (tXf a cls d C n te) := by
  subst h
  exact pe_xf T.xf T.nof hz hf he hb
/-! ### what the written part says of classes -/
section
variable {K : PySem.W.Frag} {C D : Addr}
theorem cls_of (h : PySem.W.hasDictIn K C = true) : (PySem.W.clsIn K C).isSome = true := by
  obtain ⟨cd, hc, _⟩ := PySem.W.any_some h
  rw [hc]
  rfl
theorem kit_own {b : Bool} (hd : PySem.W.hasDictIn K D = true) (ht : PySem.W.typeIn K (.ref D) = some (.type "type")) (hs : PySem.W.subIn K (.ref C) (.ref D) = some b) (self : PySem.W.subIn K (.ref C) (.ref C) = some true) : PySem.W.kitOne K (.ref C) (.ref D) = some b := by
  unfold PySem.W.kitOne
  by_cases e : (Value.ref C == Value.ref D) = true
  · rw [if_pos e]
    have e2 := beq_iff_eq.mp e
    rw [← e2, self] at hs
    exact hs
  · rw [if_neg e]
    unfold PySem.W.kitCls
    have e2 : ((PySem.W.clsIn K D).isSome && PySem.W.typeIn K (.ref D) == some (.type "type")) = true := by
      rw [cls_of hd, ht]
      rfl
    show (if ((PySem.W.clsIn K D).isSome && PySem.W.typeIn K (.ref D) == some (.type "type")) = true then _ else _) = _
    rw [if_pos e2]
    exact hs
theorem kit_ve {T : String} (hm : PySem.W.kitMeta T = true) (hs : PySem.W.subIn K (.ref C) (.type T) = some true) : PySem.W.kitOne K (.ref C) (.type T) = some true := by
  unfold PySem.W.kitOne
  rw [if_neg (by intro z; cases beq_iff_eq.mp z)]
  unfold PySem.W.kitCls
  show (if PySem.W.kitMeta T = true then _ else _) = _
  rw [if_pos hm]
  exact hs
theorem exm_own {b : Bool} (h1 : PySem.W.subIn K (.ref D) (.type "BaseException") = some true) (hd : PySem.W.hasDictIn K D = true) (ht : PySem.W.typeIn K (.ref D) = some (.type "type")) (h4 : PySem.W.subIn K (.ref C) (.ref D) = some b) : PySem.W.exmOne K (.ref C) (.ref D) = some b := PySem.W.exm_ref h1 hd ht h4
theorem kitAny_no : ∀ {cs : List Addr}, (∀ c ∈ cs, PySem.W.kitOne K (.ref C) (.ref c) = some false) → PySem.W.kitAny K (.ref C) (cs.map Value.ref) = some false
  | [], _ => rfl
  | c :: cs, h => by
    show (match PySem.W.kitOne K (.ref C) (.ref c) with | some true => some true | some false => PySem.W.kitAny K (.ref C) (cs.map Value.ref) | none => none) = _
    rw [h c List.mem_cons_self]
    exact kitAny_no fun c hc => h c (List.mem_cons_of_mem _ hc)
end
/-- the own __init__ of such a class -/
structure IniC (K : PySem.W.Frag) (C : Addr) (f : Str) : Prop where
  oex : OexC K C
  nof : PySem.W.findIn K (.ref C) f = some none
end TL
namespace TL
open PySem PySem.Spec PyProof.Rows L2
/-! ### the head's looks at an error class of the text -/
def excOb (K : PySem.W.Frag) (C : Addr) : Bool := match K.lookup C with
  | some ⟨.type "type", _, .cls cd, sl⟩ => (match cd.mro, sl.toList with
    | .ref C' :: bm, [_, _, _, _, some (.builtin n), _] => C' == C && (n == "ValueError.__new__" && (cd.hasDict && (!cd.hasDel && PySem.HandSPX.refsVE bm)))
    | _, _ => false)
  | _ => false
theorem excOb_ok {K : PySem.W.Frag} {C : Addr} (h : excOb K C = true) : ∃ nm q N bs bm sn sub ab col dd k0 k1 k2 k3 k5, K.lookup C = some (excClassObj nm q C N bs bm true sn sub ab col dd k0 k1 k2 k3 k5 "ValueError.__new__") ∧ PySem.HandSPX.refsVE bm = true := by
  unfold excOb at h
  split at h
  · rename_i dd cd sl ho
    split at h
    · rename_i C' bm k0 k1 k2 k3 n k5 hm hs
      simp only [Bool.and_eq_true, beq_iff_eq, Bool.not_eq_true'] at h
      obtain ⟨rfl, rfl, hd, hdel, hr⟩ := h
      obtain ⟨nm, bs, mro, ns, qn, hdc, sn, sub, ab, col, del⟩ := cd
      dsimp only at hm hdel hd
      subst hm hdel hd
      have hsl : sl = #[k0, k1, k2, k3, some (.builtin "ValueError.__new__"), k5] := by
        obtain ⟨l⟩ := sl
        simp only at hs
        rw [hs]
      subst hsl
      exact ⟨nm, qn, ns, bs, bm, sn, sub, ab, col, dd, k0, k1, k2, k3, k5, ho, hr⟩
    · cases h
  · cases h
theorem isFn_ty {K : PySem.W.Frag} {v : Value} (h : PySem.W.isFn K v = true) : PySem.W.typeIn K v = some (.type "function") := eq_of_beq h
end TL
namespace TL
open PySem PySem.Spec PyProof.Rows L2 PySem.W PySem.Calls HandSHeadRun LamX
/-! ### a law one of whose defs makes a lambda: its code object's table stands beside the head's fragment -/
def tabF (c P : Addr) (g : Addr → Option Obj) : Bool := frGF g [c, P] fun K => codeHdIn K c P && match K.lookup P with
  | some ⟨.none, none, .fields vs, sl⟩ => vs.isEmpty && sl.isEmpty
  | _ => false
theorem tabF_of {c P : Addr} {h : Heap} (e : tabF c P h.get? = true) : CodeHd h c P ∧ h.get? P = some { cls := .none, data := .fields #[] } := by
  unfold tabF at e
  rw [frGF_eq] at e
  obtain ⟨e1, e2⟩ := Bool.and_eq_true_iff.mp e
  have X : (He.frG h.get? [c, P]).In h := He.frG_in
  refine ⟨codeHd_of_K X e1, ?_⟩
  split at e2
  · rename_i vs sl q
    obtain ⟨e3, e4⟩ := Bool.and_eq_true_iff.mp e2
    have h3 : vs = #[] := Array.isEmpty_iff.mp e3
    have h4 : sl = #[] := Array.isEmpty_iff.mp e4
    subst h3 h4
    exact X _ _ q
  · cases e2
def tabsF (cs : List (Addr × Addr)) (g : Addr → Option Obj) : Bool := cs.all fun p => tabF p.1 p.2 g
def TabsIn (cs : List (Addr × Addr)) (h : Heap) : Prop := ∀ p ∈ cs, CodeHd h p.1 p.2 ∧ h.get? p.2 = some { cls := .none, data := .fields #[] }
theorem tabsF_of {cs : List (Addr × Addr)} {h : Heap} (e : tabsF cs h.get? = true) : TabsIn cs h := fun p hp => tabF_of (List.all_eq_true.mp e p hp)
def hookT (as : List Addr) (ex : List (Frag → Bool)) (fn : List He.DefD) (ts : List He.Tab) (cs : List (Addr × Addr)) : Hook where
  α := AlZ × Bool
  obs := fun s => (obsZ ex fn ts (He.frG s.heap.get? as), tabsF cs s.heap.get?)
  val := fun w => (valZ fn ts w, true)
  says := fun w h => (∃ K : Frag, K.In h ∧ SaysZ ex fn ts w K) ∧ TabsIn cs h
  of := fun _ _ e => ⟨⟨_, He.frG_in, congrArg Prod.fst e⟩, tabsF_of (congrArg Prod.snd e)⟩
  keeps := fun _ _ _ ⟨⟨K, hK, c⟩, t⟩ k => ⟨⟨K, Frag.In.keeps hK k, c⟩, fun p hp => ⟨(t p hp).1.keeps k, k _ _ (t p hp).2⟩⟩
def obsT (as : List Addr) (ex : List (Frag → Bool)) (fn : List He.DefD) (ts : List He.Tab) (cs : List (Addr × Addr)) (g : Addr → Option Obj) : AlZ × Bool := (obsL as ex fn ts g, tabsF cs g)
theorem obsT_eq {as : List Addr} {ex : List (Frag → Bool)} {fn : List He.DefD} {ts : List He.Tab} {cs : List (Addr × Addr)} {g : Addr → Option Obj} {s : Shared} (h : ∀ a, g a = s.heap.get? a) : obsT as ex fn ts cs g = (hookT as ex fn ts cs).obs s := by
  have e : g = s.heap.get? := funext h
  have e1 : obsL as ex fn ts g = obsZ ex fn ts (He.frG s.heap.get? as) := obsL_eq h
  show (obsL as ex fn ts g, tabsF cs g) = (obsZ ex fn ts (He.frG s.heap.get? as), tabsF cs s.heap.get?)
  rw [e1, e]
theorem ObsEq.pair {r : OpenRow} {M : Nat} {w : World} {α β : Type} {oa : SharedT → α} {ob : SharedT → β} {a : α} {b : β} (h1 : ObsEq r M w oa a) (h2 : ObsEq r M w ob b) : ObsEq r M w (fun s => (oa s, ob s)) (a, b) := by
  intro os
  have a := h1 os
  have b := h2 os
  cases h : endF (stepQ (denQ tabQ) r.prog w) M r.prog w os with
  | none =>
    rw [h] at b
    cases b
  | some s =>
    rw [h] at a b
    have a := Option.some.inj a
    have b := Option.some.inj b
    show some (_, _) = some (_, _)
    rw [a, b]
theorem ObsEq.fst {r : OpenRow} {M : Nat} {w : World} {α β : Type} {oa : SharedT → α} {ob : SharedT → β} {a : α} {b : β} (h1 : ObsEq r M w (fun s => (oa s, ob s)) (a, b)) : ObsEq r M w oa a := by
  intro os
  have a := h1 os
  cases h : endF (stepQ (denQ tabQ) r.prog w) M r.prog w os with
  | none =>
    rw [h] at a
    cases a
  | some s =>
    rw [h] at a
    have a := Option.some.inj a
    show some _ = some _
    exact congrArg some (congrArg Prod.fst a)
theorem ObsEq.snd {r : OpenRow} {M : Nat} {w : World} {α β : Type} {oa : SharedT → α} {ob : SharedT → β} {a : α} {b : β} (h1 : ObsEq r M w (fun s => (oa s, ob s)) (a, b)) : ObsEq r M w ob b := by
  intro os
  have a := h1 os
  cases h : endF (stepQ (denQ tabQ) r.prog w) M r.prog w os with
  | none =>
    rw [h] at a
    cases a
  | some s =>
    rw [h] at a
    have a := Option.some.inj a
    show some _ = some _
    exact congrArg some (congrArg Prod.snd a)
/-- the code object of a def -/
def lawC (K : Frag) (x : Str) (c : Addr) : Bool := match K.lookup (He.ga K x) with
  | some ⟨_, _, .func fd, _⟩ => (match fd.code with
    | .ref a => a == c
    | _ => false)
  | _ => false
theorem lawC_get {K : Frag} {x : Str} {c : Addr} {oc : Value} {od : Option Addr} {fd : FuncData} {osl : Array (Option Value)} (h : lawC K x c = true) (l : K.lookup (He.ga K x) = some ⟨oc, od, .func fd, osl⟩) : fd.code = .ref c := by
  unfold lawC at h
  rw [l] at h
  dsimp only at h
  split at h
  · rename_i a e
    rw [e, beq_iff_eq.mp h]
  · cases h
theorem noK_get {K : Frag} {P : Addr} (h : (K.lookup P).isNone = true) : K.lookup P = none := Option.isNone_iff_eq_none.mp h
/-! ### the law's call -/
theorem law_callGT {P : Program} {w : World} {K : Frag} {mg mb : Str → Option Value} {k : Nat} {fa a : Addr} {cs : List (Addr × Addr)} {fd : FuncData} {x : Str} {sp : Sp} {s₁ : Shared} {vs : List Value} {ns : List Int}
    (KX : K.In s₁.heap) (hns : s₁.heap.Ns mainGlobals mg) (hb : s₁.heap.Ns builtinsNs mb) (hbb : ∀ x : Str, x ≠ "__name__" → mb x = bootBuiltins x) (hlim : s₁.heap.NoLimit) (hg : s₁.gens = #[])
    (hT : ∀ p ∈ cs, s₁.heap.get? p.2 = some { cls := .none, data := .fields #[] }) (nT : ∀ p ∈ cs, K.lookup p.2 = none) (C : ∀ p ∈ cs, CodeHd s₁.heap p.1 p.2)
    (hbm : ∃ (bm : Addr) (ob : Obj), mg "__builtins__" = some (.ref bm) ∧ bm ≠ builtinsNs ∧ s₁.heap.get? bm = some ob ∧ ob.cls = .type "module" ∧ ob.dict = some builtinsNs ∧ ob.data = .plain)
    (ha : s₁.heap.get? a = some { cls := .type "list", data := .seq vs.toArray }) (hi : IntsAre vs ns) (hl : ns.length ≤ sizeLine) (hr : Room k callerA)
    (F : ∀ base : Heap, K.In base → base.Ns mainGlobals mg → (∀ p ∈ cs, TabB base mg p.1 p.2) → FnG P w K mg base k fa fd [x] sp) (hbind : ∀ (s : Shared) (u : Value), BindsTo s fd ⟨[u], []⟩ [(x, u)])
    (hsp : ∀ H : Hp, (∀ p ∈ cs, H p.2 = some (.tbl #[])) → SqL K H a (ns.map V.int) → sp [.ref a] H (fun v _ => v = .bl true) E0) :
    codeAny (model P w) callerA (.call (.ref fa) ⟨[.ref a], []⟩) (fun r s' => r = .ok (.ret (.bool true)) ∧ OldK s₁.heap s'.heap ∧ s'.os = s₁.os ∧ AllBare s'.gens) s₁ := by
  let isP : Addr → Prop := fun b => ∃ p ∈ cs, b = p.2
  have tabAt : ∀ b, isP b → s₁.heap.get? b = some { cls := .none, data := .fields #[] } := by
    rintro b ⟨p, hp, rfl⟩
    exact hT p hp
  have aP : ¬ isP a := fun z => by
    have e := (tabAt a z).symm.trans ha
    injection e with e
    exact nomatch congrArg Obj.data e
  have rv := vals_ints hi
  -- what may be told: the script, the tables
  have main : ∀ H : Hp, (∀ b, isP b → H b = some (.tbl #[])) → (∀ b u, H b = some u → isP b ∨ (b = a ∧ K.lookup a = none ∧ ∃ ob xs, u = .frz ob (.lst xs))) → SqL K H a (ns.map V.int) → HOk P w H s₁.heap →
      codeAny (model P w) callerA (.call (.ref fa) ⟨[.ref a], []⟩) (fun r s' => r = .ok (.ret (.bool true)) ∧ OldK s₁.heap s'.heap ∧ s'.os = s₁.os ∧ AllBare s'.gens) s₁ := by
    intro H hH hO hS hok
    -- a thing of another kind is not told
    have free : ∀ {b : Addr} {ob : Obj}, s₁.heap.get? b = some ob → (∀ xs n, ob.data ≠ .seq xs n) → ob.data ≠ .fields #[] → H b = none := by
      intro b ob e n1 n2
      cases q : H b with
      | none => rfl
      | some u =>
        rcases hO b u q with z | ⟨rfl, _, _⟩
        · rw [tabAt b z] at e
          cases e
          exact absurd rfl n2
        · rw [ha] at e
          cases e
          exact absurd rfl (n1 _ _)
    have dictFree : ∀ {b : Addr} {ob : Obj} {es : Array DictEntry} {n : Nat}, s₁.heap.get? b = some ob → ob.data = .dict es n → H b = none := fun e d => free e (fun xs n z => by rw [d] at z; cases z) fun z => by rw [d] at z; cases z
    have ns2 : ∀ {b : Addr} {m : Str → Option Value}, s₁.heap.Ns b m → (hidT s₁.heap H).Ns b m := by
      rintro b m ⟨ob, es, n, e, d, rest⟩
      exact ⟨ob, es, n, hidT_get e (dictFree e d), d, rest⟩
    have KB : K.In (hidT s₁.heap H) := fun b ob e => hidT_get (KX b ob e) (by
      cases q : H b with
      | none => rfl
      | some u =>
        rcases hO b u q with ⟨p, hp, rfl⟩ | ⟨rfl, z, _⟩
        · rw [nT p hp] at e
          cases e
        · rw [z] at e
          cases e)
    have M : L2.Mod K mg (hidT s₁.heap H) := by
      obtain ⟨mc, l1, l2⟩ := hlim
      exact ⟨KB, ns2 hns, ⟨mb, ns2 hb, hbb⟩, ⟨mc, ns2 l1, l2⟩⟩
    have TB : ∀ p ∈ cs, TabB (hidT s₁.heap H) mg p.1 p.2 := by
      intro p hp
      obtain ⟨oc, us, fl, t1, gl, t2, bf, tx, t3, c1, c2, c3, c4, rest⟩ := C p hp
      have cf : H p.1 = none := free c1 (fun xs n z => by rw [c3] at z; cases z) fun z => by
        rw [c3] at z
        cases z
        simp at c4
      obtain ⟨bm, om, b1, b2, b3, b4, b5, b6⟩ := hbm
      have bf2 : H bm = none := free b3 (fun xs n z => by rw [b6] at z; cases z) fun z => by rw [b6] at z; cases z
      obtain ⟨og, eg, ng, g1, g2, _⟩ := hns
      refine ⟨⟨oc, us, fl, t1, gl, t2, bf, tx, t3, hidT_get c1 cf, c2, c3, c4, rest⟩, ⟨bm, om, b1, b2, ?_, ?_, hidT_get b3 bf2, b4, b5, b6⟩, ?_⟩
      · rintro rfl
        rw [g1] at b3
        cases b3
        rw [g2] at b6
        cases b6
      · rintro rfl
        rw [hT p hp] at b3
        cases b3
        cases b6
      · intro z
        rw [z, hT p hp] at g1
        cases g1
        cases g2
    have e0 : Env0 P w K mg (hidT s₁.heap H) callerA [] s₁ H := ⟨rfl, M, fun b ob e => of_hidT e, Nat.le_of_eq (hidT_size _ _), trivial, fun b z => (nomatch z), hok, .of_eq hg⟩
    have all : ∀ p ∈ cs, H p.2 = some (.tbl #[]) := fun p hp => hH p.2 ⟨p, hp, rfl⟩
    refine codeAny_mono ((F _ KB (ns2 hns) TB).goes callerA [] s₁ H ⟨[.ref a], []⟩ [.ref a] [.ref a] _ _ hr rfl e0 (hbind s₁ (.ref a)) (.cons rfl .nil) (hsp H all hS)) fun r s' h => ?_
    match r, h with
    | .error e, h => exact False.elim h
    | .ok .next, h => exact False.elim h
    | .ok .brk, h => exact False.elim h
    | .ok .cont, h => exact False.elim h
    | .ok (.ret u), h =>
      obtain ⟨v, H', os, bare, un, hok', r', q⟩ := h
      obtain rfl : v = .bl true := q
      obtain rfl : u = Value.bool true := r'
      have stays : ∀ b ob, ¬ isP b → s₁.heap.get? b = some ob → s'.heap.get? b = some ob := by
        intro b ob nb e
        cases q : H b with
        | none => exact un.keep b ob e q (fun m => (nomatch m)) (fun m => (nomatch m))
        | some u =>
          rcases hO b u q with z | ⟨_, _, o1, xs, rfl⟩
          · exact absurd z nb
          · have e1 := (hok b _ q).1
            have e2 := (hok' b _ (un.frzs b o1 _ q)).1
            rw [e] at e1
            cases e1
            exact e2
      have more : ∀ b, isP b → ∃ us : Array Value, s'.heap.get? b = some { cls := .none, data := .fields us } := fun b hb => by
        obtain ⟨us, e⟩ := un.tbls b #[] (hH b hb)
        exact ⟨_, hok' b _ e⟩
      refine ⟨rfl, ⟨fun b ob e => ?_, fun b ob e => ?_⟩, os, bare⟩
      · by_cases nb : isP b
        · obtain ⟨us, e2⟩ := more b nb
          obtain ⟨p, hp, rfl⟩ := nb
          rw [hT p hp] at e
          cases e
          exact .inr (.inl ⟨((C p hp).tab (hT p hp)).isCodeTable, rfl, #[], us, rfl, by rw [Array.empty_append]; exact e2⟩)
        · exact .inl (stays b ob nb e)
      · by_cases nb : isP b
        · obtain ⟨us, e2⟩ := more b nb
          exact ⟨_, e2⟩
        · exact ⟨ob, stays b ob nb e⟩
  classical
  let tb : Hp := fun b => if isP b then some (.tbl #[]) else none
  have tb1 : ∀ b, isP b → tb b = some (.tbl #[]) := fun b h => if_pos h
  have tb2 : ∀ b u, tb b = some u → isP b ∧ u = .tbl #[] := fun b u e => by
    by_cases h : isP b
    · rw [tb1 b h] at e
      exact ⟨h, (Option.some.inj e).symm⟩
    · exact nomatch (show tb b = none from if_neg h).symm.trans e
  cases hk : K.lookup a with
  | some ob =>
    have e := KX a ob hk
    rw [ha] at e
    cases e
    refine main tb tb1 (fun b u e => .inl (tb2 b u e).1) (.inr ⟨_, vs.toArray, _, hk, rfl, rfl, rfl, ?_, by simpa using rv⟩) fun b u e => ?_
    · rw [List.size_toArray, hi.length]
      exact hl
    · obtain ⟨h, rfl⟩ := tb2 b u e
      exact tabAt b h
  | none =>
    let ob : Obj := { cls := .type "list", data := .seq vs.toArray }
    have na : tb a = none := if_neg aP
    refine main (upd tb a (.frz ob (.lst (ns.map V.int)))) (fun b h => (upd_ne fun z => aP (by rw [← z]; exact h)).trans (tb1 b h)) (fun b u e => ?_) (.inl (.inr ⟨ob, upd_same⟩)) fun b u e => ?_
    · by_cases z : b = a
      · subst z
        rw [upd_same] at e
        exact .inr ⟨rfl, hk, ob, _, (Option.some.inj e).symm⟩
      · rw [upd_ne z] at e
        exact .inl (tb2 b u e).1
    · by_cases z : b = a
      · subst z
        rw [upd_same] at e
        cases e
        exact ⟨ha, by rw [List.length_map]; exact hl, vs, _, rv, ha⟩
      · rw [upd_ne z] at e
        obtain ⟨h, rfl⟩ := tb2 b u e
        exact tabAt b h
theorem walk_ofGT {l : OpenLaw} {n k : Nat} {q : Program} {loose : List Str} {XP : (Str → Option Value) → Heap → Prop} {YP : World → Heap → Prop} {d : DefRec} {x : Str}
    (hn : l.most = some n) (hn2 : n ≤ sizeLine) (hdf : d.params.defaults = []) (hr : Room k callerA)
    (F : ∀ (w : World) (mg : Str → Option Value) (fa : Addr) (h : Heap), YP w h → h.Ns mainGlobals mg → mg d.name = some (.ref fa) →
      ∃ (K : Frag) (fd : FuncData) (sp : Sp) (cs : List (Addr × Addr)), K.In h ∧ TabsIn cs h ∧ (∀ p ∈ cs, K.lookup p.2 = none) ∧ (∀ (s : Shared) (u : Value), BindsTo s fd ⟨[u], []⟩ [(x, u)]) ∧
        (∀ (H : Hp) (a : Addr) (ns : List Int), ns.length ≤ n → (∀ p ∈ cs, H p.2 = some (.tbl #[])) → SqL K H a (ns.map V.int) → sp [.ref a] H (fun v _ => v = .bl true) E0) ∧
        ∀ base : Heap, K.In base → base.Ns mainGlobals mg → (∀ p ∈ cs, TabB base mg p.1 p.2) → FnG l.prog w K mg base k fa fd [x] sp) :
    WalkO q loose XP YP l.row.toRowW d [] (fun f vs => PySem.call f vs) := by
  refine Att.attach_call hn hdf fun w s₀ s₁ mg mb fa o pm cd doc a vs ns G Y ho hd hcd hmg hobj hints hlen hg => ?_
  obtain ⟨K, fd, sp, cs, KX, ht, nT, hb, hsp, hF⟩ := F w mg fa _ Y G.T.g hmg
  exact law_callGT KX G.T.g G.T.b G.T.builtins G.T.nolimit hg (fun p hp => (ht p hp).2) nT (fun p hp => (ht p hp).1) G.T.bmain hobj hints (Nat.le_trans hlen hn2) hr hF hb fun H hH hS => hsp H a ns hlen hH hS
end TL
namespace TL
open PySem PySem.Spec PyProof.Rows L2
def topS (i : Nat) : Stmt := PySem.Challenge.pw_treelamps_k36_shortest_plan.main.body.getD i (.Pass ⟨0, 0, 0, 0⟩)
abbrev sIsNumber : Stmt := topS 1
abbrev nIsNumber : List Str := ["value"]
theorem scIsNumber : FnScope nIsNumber ["value"] (defScope sIsNumber) :=
  ⟨rfl, rfl, rfl, by decide +kernel, rfl, by decide +kernel, by decide +kernel⟩
abbrev sNeighboursOf : Stmt := topS 2
abbrev nNeighboursOf : List Str := ["forest", "vertex", "n", "edges", "lower", "upper", "a", "b"]
theorem scNeighboursOf : FnScope nNeighboursOf ["forest", "vertex"] (defScope sNeighboursOf) :=
  ⟨rfl, rfl, rfl, by decide +kernel, rfl, by decide +kernel, by decide +kernel⟩
abbrev sBlockingLamps : Stmt := topS 9
abbrev nBlockingLamps : List Str := ["forest", "setting", "u", "v", "vertex"]
theorem scBlockingLamps : FnScope nBlockingLamps ["forest", "setting", "u", "v"] (defScope sBlockingLamps) :=
  ⟨rfl, rfl, rfl, by decide +kernel, rfl, by decide +kernel, by decide +kernel⟩
abbrev sCheckLamp : Stmt := topS 10
abbrev nCheckLamp : List Str := ["setting", "value"]
theorem scCheckLamp : FnScope nCheckLamp ["setting", "value"] (defScope sCheckLamp) :=
  ⟨rfl, rfl, rfl, by decide +kernel, rfl, by decide +kernel, by decide +kernel⟩
abbrev sSlideLamp : Stmt := topS 11
abbrev nSlideLamp : List Str := ["forest", "setting", "u", "v", "blocking", "lamp"]
theorem scSlideLamp : FnScope nSlideLamp ["forest", "setting", "u", "v"] (defScope sSlideLamp) :=
  ⟨rfl, rfl, rfl, by decide +kernel, rfl, by decide +kernel, by decide +kernel⟩
abbrev sPossibleSlides : Stmt := topS 12
abbrev nPossibleSlides : List Str := ["forest", "setting", "steps", "u", "v"]
theorem scPossibleSlides : FnScope nPossibleSlides ["forest", "setting"] (defScope sPossibleSlides) :=
  ⟨rfl, rfl, rfl, by decide +kernel, rfl, by decide +kernel, by decide +kernel⟩
abbrev sDistancesFrom : Stmt := topS 14
abbrev nDistancesFrom : List Str := ["forest", "setting", "distances", "waiting", "lamps", "u", "v", "other"]
theorem scDistancesFrom : FnScope nDistancesFrom ["forest", "setting"] (defScope sDistancesFrom) :=
  ⟨rfl, rfl, rfl, by decide +kernel, rfl, by decide +kernel, by decide +kernel⟩
abbrev sCloserSlide : Stmt := topS 15
abbrev nCloserSlide : List Str := ["forest", "setting", "distances", "u", "v"]
theorem scCloserSlide : FnScope nCloserSlide ["forest", "setting", "distances"] (defScope sCloserSlide) :=
  ⟨rfl, rfl, rfl, by decide +kernel, rfl, by decide +kernel, by decide +kernel⟩
abbrev sShortestPlan : Stmt := topS 16
abbrev nShortestPlan : List Str := ["forest", "first", "second", "distances", "plan", "lamps", "u", "v"]
theorem scShortestPlan : FnScope nShortestPlan ["forest", "first", "second"] (defScope sShortestPlan) :=
  ⟨rfl, rfl, rfl, by decide +kernel, rfl, by decide +kernel, by decide +kernel⟩
abbrev sLDraws : Stmt := topS 18
abbrev nLDraws : List Str := ["_law_script", "_law_cells", "_law_cell"]
theorem scLDraws : FnScope nLDraws ["_law_script"] (defScope sLDraws) :=
  ⟨rfl, rfl, rfl, by decide +kernel, rfl, by decide +kernel, by decide +kernel⟩
abbrev sLNext : Stmt := topS 19
abbrev nLNext : List Str := ["_law_state", "_law_many", "_law_cells", "_law_count", "_law_rests", "_law_index", "_law_digit", "_law_mixed"]
theorem scLNext : FnScope nLNext ["_law_state", "_law_many"] (defScope sLNext) :=
  ⟨rfl, rfl, rfl, by decide +kernel, rfl, by decide +kernel, by decide +kernel⟩
abbrev sLOne : Stmt := topS 20
abbrev nLOne : List Str := ["_law_state", "_law_items"]
theorem scLOne : FnScope nLOne ["_law_state", "_law_items"] (defScope sLOne) :=
  ⟨rfl, rfl, rfl, by decide +kernel, rfl, by decide +kernel, by decide +kernel⟩
abbrev sLShuffled : Stmt := topS 21
abbrev nLShuffled : List Str := ["_law_state", "_law_items", "_law_left", "_law_found"]
theorem scLShuffled : FnScope nLShuffled ["_law_state", "_law_items"] (defScope sLShuffled) :=
  ⟨rfl, rfl, rfl, by decide +kernel, rfl, by decide +kernel, by decide +kernel⟩
abbrev sLForest : Stmt := topS 22
abbrev nLForest : List Str := ["_law_state", "_law_least", "_law_most", "_law_n", "_law_order", "_law_edges", "_law_kind", "_law_lack", "_law_k", "_law_on"]
theorem scLForest : FnScope nLForest ["_law_state", "_law_least", "_law_most"] (defScope sLForest) :=
  ⟨rfl, rfl, rfl, by decide +kernel, rfl, by decide +kernel, by decide +kernel⟩
abbrev sLNear : Stmt := topS 23
abbrev nLNear : List Str := ["_law_forest_here", "_law_vertex", "_law_a", "_law_b"]
theorem scLNear : FnScope nLNear ["_law_forest_here", "_law_vertex"] (defScope sLNear) :=
  ⟨rfl, rfl, rfl, by decide +kernel, rfl, by decide +kernel, by decide +kernel⟩
abbrev sLSetting : Stmt := topS 24
abbrev nLSetting : List Str := ["_law_state", "_law_forest_here", "_law_limit", "_law_found", "_law_vertex", "_law_near_here", "_law_lamp"]
theorem scLSetting : FnScope nLSetting ["_law_state", "_law_forest_here"] (defScope sLSetting) :=
  ⟨rfl, rfl, rfl, by decide +kernel, rfl, by decide +kernel, by decide +kernel⟩
abbrev sLSlides : Stmt := topS 25
abbrev nLSlides : List Str := ["_law_forest_here", "_law_setting_here", "_law_found", "_law_u", "_law_v", "_law_lamp"]
theorem scLSlides : FnScope nLSlides ["_law_forest_here", "_law_setting_here"] (defScope sLSlides) :=
  ⟨rfl, rfl, rfl, by decide +kernel, rfl, by decide +kernel, by decide +kernel⟩
abbrev sLMoved : Stmt := topS 26
abbrev nLMoved : List Str := ["_law_setting_here", "_law_u", "_law_v", "_law_lamp"]
theorem scLMoved : FnScope nLMoved ["_law_setting_here", "_law_u", "_law_v"] (defScope sLMoved) :=
  ⟨rfl, rfl, rfl, by decide +kernel, rfl, by decide +kernel, by decide +kernel⟩
abbrev sLReached : Stmt := topS 27
abbrev nLReached : List Str := ["_law_forest_here", "_law_setting_here", "_law_steps", "_law_level", "_law_longer", "_law_here", "_law_u", "_law_v", "_law_there"]
theorem scLReached : FnScope nLReached ["_law_forest_here", "_law_setting_here"] (defScope sLReached) :=
  ⟨rfl, rfl, rfl, by decide +kernel, rfl, by decide +kernel, by decide +kernel⟩
abbrev sLDue : Stmt := topS 28
abbrev nLDue : List Str := ["_law_forest_here", "_law_first", "_law_second", "_law_steps", "_law_rests", "_law_here", "_law_found", "_law_u", "_law_v", "_law_there"]
theorem scLDue : FnScope nLDue ["_law_forest_here", "_law_first", "_law_second"] (defScope sLDue) :=
  ⟨rfl, rfl, rfl, by decide +kernel, rfl, by decide +kernel, by decide +kernel⟩
abbrev sLRight : Stmt := topS 29
abbrev nLRight : List Str := ["_law_forest_here", "_law_first", "_law_second", "_law_due_here"]
theorem scLRight : FnScope nLRight ["_law_forest_here", "_law_first", "_law_second"] (defScope sLRight) :=
  ⟨rfl, rfl, rfl, by decide +kernel, rfl, by decide +kernel, by decide +kernel⟩
abbrev sLaw : Stmt := topS 30
abbrev nLaw : List Str := ["_law_script", "_law_state", "_law_turn", "_law_forest_here", "_law_first", "_law_reached_here", "_law_some", "_law_k", "_law_second"]
theorem scLaw : FnScope nLaw ["_law_script"] (defScope sLaw) :=
  ⟨rfl, rfl, rfl, by decide +kernel, rfl, by decide +kernel, by decide +kernel⟩
end TL
namespace TL
open PySem PySem.Spec PyProof.Rows L2
/-! ### the head -/
def exs0 : List (PySem.W.Frag → Bool) := [fun K => (He.Fa.glo "is_number").ok K,
  fun K => (He.Fa.glo "neighbours_of").ok K,
  fun K => (He.Fa.glo "blocking_lamps").ok K,
  fun K => (He.Fa.glo "check_lamp").ok K,
  fun K => (He.Fa.glo "slide_lamp").ok K,
  fun K => (He.Fa.glo "possible_slides").ok K,
  fun K => (He.Fa.glo "distances_from").ok K,
  fun K => (He.Fa.glo "closer_slide").ok K,
  fun K => (He.Fa.glo "shortest_plan").ok K,
  fun K => (He.Fa.glo "_law_draws").ok K,
  fun K => (He.Fa.glo "_law_next").ok K,
  fun K => (He.Fa.glo "_law_one").ok K,
  fun K => (He.Fa.glo "_law_shuffled").ok K,
  fun K => (He.Fa.glo "_law_forest").ok K,
  fun K => (He.Fa.glo "_law_near").ok K,
  fun K => (He.Fa.glo "_law_setting").ok K,
  fun K => (He.Fa.glo "_law_slides").ok K,
  fun K => (He.Fa.glo "_law_moved").ok K,
  fun K => (He.Fa.glo "_law_reached").ok K,
  fun K => (He.Fa.glo "_law_due").ok K,
  fun K => (He.Fa.glo "_law_right").ok K,
  fun K => (He.Fa.glo "law").ok K,
  fun K => lawC K "_law_due" 205,
  fun K => (K.lookup (201 : Addr)).isNone,
  fun K => (He.Fa.free "abs").ok K]
def exs1 : List (PySem.W.Frag → Bool) := [fun K => (He.Fa.free "len").ok K,
  fun K => (He.Fa.free "int").ok K,
  fun K => (He.Fa.free "list").ok K,
  fun K => (He.Fa.free "range").ok K,
  fun K => (He.Fa.free "max").ok K,
  fun K => (He.Fa.free "min").ok K,
  fun K => (He.Fa.free "tuple").ok K,
  fun K => (He.Fa.free "sorted").ok K,
  fun K => (He.Fa.free "isinstance").ok K,
  fun K => (He.Fa.free "bool").ok K,
  fun K => (He.Fa.free "repr").ok K]
def exsP0 : List (PySem.W.Frag → Bool) := exs0 ++ (exs1)
def exs : List (PySem.W.Frag → Bool) := exsP0
def fns0 : List (He.DefD) := [⟨("is_number", none), "is_number", "is_number", defArgs sIsNumber, defBody sIsNumber, defScope sIsNumber, [], []⟩,
  ⟨("neighbours_of", none), "neighbours_of", "neighbours_of", defArgs sNeighboursOf, defBody sNeighboursOf, defScope sNeighboursOf, [], []⟩,
  ⟨("blocking_lamps", none), "blocking_lamps", "blocking_lamps", defArgs sBlockingLamps, defBody sBlockingLamps, defScope sBlockingLamps, [], []⟩,
  ⟨("check_lamp", none), "check_lamp", "check_lamp", defArgs sCheckLamp, defBody sCheckLamp, defScope sCheckLamp, [], []⟩,
  ⟨("slide_lamp", none), "slide_lamp", "slide_lamp", defArgs sSlideLamp, defBody sSlideLamp, defScope sSlideLamp, [], []⟩,
  ⟨("possible_slides", none), "possible_slides", "possible_slides", defArgs sPossibleSlides, defBody sPossibleSlides, defScope sPossibleSlides, [], []⟩,
  ⟨("distances_from", none), "distances_from", "distances_from", defArgs sDistancesFrom, defBody sDistancesFrom, defScope sDistancesFrom, [], []⟩,
  ⟨("closer_slide", none), "closer_slide", "closer_slide", defArgs sCloserSlide, defBody sCloserSlide, defScope sCloserSlide, [], []⟩,
  ⟨("shortest_plan", none), "shortest_plan", "shortest_plan", defArgs sShortestPlan, defBody sShortestPlan, defScope sShortestPlan, [], []⟩,
  ⟨("_law_draws", none), "_law_draws", "_law_draws", defArgs sLDraws, defBody sLDraws, defScope sLDraws, [], []⟩,
  ⟨("_law_next", none), "_law_next", "_law_next", defArgs sLNext, defBody sLNext, defScope sLNext, [], []⟩,
  ⟨("_law_one", none), "_law_one", "_law_one", defArgs sLOne, defBody sLOne, defScope sLOne, [], []⟩,
  ⟨("_law_shuffled", none), "_law_shuffled", "_law_shuffled", defArgs sLShuffled, defBody sLShuffled, defScope sLShuffled, [], []⟩,
  ⟨("_law_forest", none), "_law_forest", "_law_forest", defArgs sLForest, defBody sLForest, defScope sLForest, [], []⟩,
  ⟨("_law_near", none), "_law_near", "_law_near", defArgs sLNear, defBody sLNear, defScope sLNear, [], []⟩,
  ⟨("_law_setting", none), "_law_setting", "_law_setting", defArgs sLSetting, defBody sLSetting, defScope sLSetting, [], []⟩,
  ⟨("_law_slides", none), "_law_slides", "_law_slides", defArgs sLSlides, defBody sLSlides, defScope sLSlides, [], []⟩,
  ⟨("_law_moved", none), "_law_moved", "_law_moved", defArgs sLMoved, defBody sLMoved, defScope sLMoved, [], []⟩,
  ⟨("_law_reached", none), "_law_reached", "_law_reached", defArgs sLReached, defBody sLReached, defScope sLReached, [], []⟩,
  ⟨("_law_due", none), "_law_due", "_law_due", defArgs sLDue, defBody sLDue, defScope sLDue, [], []⟩,
  ⟨("_law_right", none), "_law_right", "_law_right", defArgs sLRight, defBody sLRight, defScope sLRight, [], []⟩,
  ⟨("law", none), "law", "law", defArgs sLaw, defBody sLaw, defScope sLaw, [], []⟩]
def fnsP0 : List (He.DefD) := fns0
def fns : List (He.DefD) := fnsP0
def tbs0 : List (He.Tab) := []
def tbs : List (He.Tab) := tbs0
def lz0 : List Str := ["__name__", "is_number", "neighbours_of", "LampError", "NoLamp", "NotAdjacent", "Blocked", "blocking_lamps", "check_lamp", "slide_lamp", "possible_slides", "distances_from", "closer_slide", "shortest_plan", "_law_draws", "_law_next", "_law_one", "_law_shuffled", "_law_forest", "_law_near", "_law_setting", "_law_slides", "_law_moved", "_law_reached", "_law_due", "_law_right"]
def lz : List Str := lz0
abbrev RR : PySem.W.OpenRow := PySem.W.OpenLaw.row PySem.Challenge.rw_treelamps_k36_shortest_plan
def ad0 : List Addr := [3, 36, 35, 21, 20, 26, 25, 101, 100, 108, 107, 113, 112, 118, 117, 125, 124, 132, 131, 139, 138, 144, 143, 151, 150, 158, 157, 165, 164, 172, 171, 177, 176, 182, 181, 187, 186, 192, 191, 199]
def ad1 : List Addr := [198, 206, 205, 213, 212, 218, 217]
def adr : List Addr := ad0 ++ (ad1)
abbrev tabsZ : List (Addr × Addr) := [(205, 201)]
abbrev hkZ : PySem.W.Hook := hookT adr exs fns tbs tabsZ
noncomputable def obZ (s : PySem.W.SharedT) : AlZ × Bool := obsT adr exs fns tbs tabsZ (HandSHeadRun.getT s)
theorem obZ_eq (s : PySem.W.SharedT) : obZ s = hkZ.obs s.abs := obsT_eq (HandSHeadRun.getT_eq s)
abbrev qv : Program := PySem.W.view RR.prog [30]
noncomputable def obP0 (s : PySem.W.SharedT) : AlZ := obsL adr exsP0 fnsP0 tbs (HandSHeadRun.getT s)
theorem runFL (w : World) : LooksEq RR qv 12000 lz (w.withFollow "special-get-raises" false) := by
  intro os
  kernel_rfl
theorem runF0 (w : World) : ObsEq RR 12000 (w.withFollow "special-get-raises" false) (fun s => (obP0 s, tabsF tabsZ (HandSHeadRun.getT s))) (valZ fnsP0 tbs (w.withFollow "special-get-raises" false), true) := by
  intro os
  kernel_rfl
theorem runF (w : World) : HandSHeadRun.RunEq RR qv hkZ obZ 12000 lz (w.withFollow "special-get-raises" false) := RunEq.of (runFL w) (ObsEq.pair ((runF0 w).fst) (runF0 w).snd)
theorem runTL (w : World) : LooksEq RR qv 12000 lz (w.withFollow "special-get-raises" true) := by
  intro os
  kernel_rfl
theorem runT0 (w : World) : ObsEq RR 12000 (w.withFollow "special-get-raises" true) (fun s => (obP0 s, tabsF tabsZ (HandSHeadRun.getT s))) (valZ fnsP0 tbs (w.withFollow "special-get-raises" true), true) := by
  intro os
  kernel_rfl
theorem runT (w : World) : HandSHeadRun.RunEq RR qv hkZ obZ 12000 lz (w.withFollow "special-get-raises" true) := RunEq.of (runTL w) (ObsEq.pair ((runT0 w).fst) (runT0 w).snd)
theorem runZ (w : World) : HandSHeadRun.RunEq RR qv hkZ obZ 12000 lz w := PySem.W.byRow2 "special-get-raises" (P := fun w => HandSHeadRun.RunEq RR qv hkZ obZ 12000 lz w) runF runT w
end TL
namespace TL
/-! ### slides one after another -/
def walk (m : Nat) (es : List (Int × Int)) : List Int → List (Int × Int) → Option (List Int)
  | S, [] => some S
  | S, p :: ps => if p ∈ slidesP m es S then walk m es (after S p.1 p.2) ps else none
theorem walk_cons {m : Nat} {es : List (Int × Int)} {S T : List Int} {p : Int × Int} {ps : List (Int × Int)} (h : walk m es S (p :: ps) = some T) :
    p ∈ slidesP m es S ∧ walk m es (after S p.1 p.2) ps = some T := by
  unfold walk at h
  split at h
  · rename_i h1
    exact ⟨h1, h⟩
  · cases h
theorem IsSet.slide {m : Nat} {es : List (Int × Int)} {S : List Int} {p : Int × Int} (f : IsFor m es) (h : IsSet m es S) (hp : p ∈ slidesP m es S) : IsSet m es (TL.after S p.1 p.2) := by
  obtain ⟨u, v⟩ := p
  obtain ⟨h1, h2, h3⟩ := mem_slidesP.mp hp
  exact IsSet.after f h h1 h2 h3
theorem mem_nearL_comm {m : Nat} {es : List (Int × Int)} (f : IsFor m es) {u v : Int} : v ∈ nearL m es u ↔ u ∈ nearL m es v := by
  rw [mem_nearL, mem_nearL, ordP_comm v u]
  constructor
  · rintro ⟨_, h⟩
    refine ⟨?_, h⟩
    rcases f.mem_ord.mp h with q | q
    · have := f.rng _ q; simp only at this; omega
    · have := f.rng _ q; simp only at this; omega
  · rintro ⟨_, h⟩
    refine ⟨?_, h⟩
    rcases f.mem_ord.mp h with q | q
    · have := f.rng _ q; simp only at this; omega
    · have := f.rng _ q; simp only at this; omega
theorem adj_free {m : Nat} {es : List (Int × Int)} {S : List Int} (h : IsSet m es S) {u v : Int} (hu : u ∈ S) (hv : v ∈ nearL m es u) : v ∉ S :=
  fun z => h.free v z u hu (mem_nearL.mp hv).2
/-- another lamp's slide after a slide -/
theorem slide_other {m : Nat} {es : List (Int × Int)} {S : List Int} (f : IsFor m es) (h : IsSet m es S) {u v u' v' : Int} (p : (u, v) ∈ slidesP m es S) (q : (u', v') ∈ slidesP m es S) (ne : u ≠ u') :
    (u', v') ∈ slidesP m es (after S u v) ↔ v' ∉ nearL m es v := by
  obtain ⟨hu, hv, ho⟩ := mem_slidesP.mp p
  obtain ⟨hu', hv', ho'⟩ := mem_slidesP.mp q
  have nv := adj_free h hu hv
  rw [mem_slidesP]
  constructor
  · rintro ⟨_, _, o⟩ z
    have : v ∈ oth m es (after S u v) u' v' := mem_oth.mpr ⟨(mem_nearL_comm f).mp z, mem_after.mpr (.inr rfl), fun e => nv (e ▸ hu')⟩
    rw [o] at this
    cases this
  · intro z
    refine ⟨mem_after.mpr (.inl ⟨hu', fun e => ne e.symm⟩), hv', ?_⟩
    refine List.eq_nil_iff_forall_not_mem.mpr fun a ha => ?_
    obtain ⟨h1, h2, h3⟩ := mem_oth.mp ha
    rcases mem_after.mp h2 with ⟨h4, h5⟩ | rfl
    · have : a ∈ oth m es S u' v' := mem_oth.mpr ⟨h1, h4, h3⟩
      rw [ho'] at this
      cases this
    · exact z ((mem_nearL_comm f).mp h1)
theorem slide_same {m : Nat} {es : List (Int × Int)} {S : List Int} (f : IsFor m es) (h : IsSet m es S) {u v v' : Int} (p : (u, v) ∈ slidesP m es S) : (u, v') ∉ slidesP m es (after S u v) := by
  obtain ⟨hu, hv, ho⟩ := mem_slidesP.mp p
  have nv := adj_free h hu hv
  intro z
  rcases mem_after.mp (mem_slidesP.mp z).1 with ⟨_, h2⟩ | h2
  · exact h2 rfl
  · exact nv (h2 ▸ hu)
theorem slide_back {m : Nat} {es : List (Int × Int)} {S : List Int} (f : IsFor m es) (h : IsSet m es S) {u v : Int} (p : (u, v) ∈ slidesP m es S) : (v, u) ∈ slidesP m es (after S u v) := by
  obtain ⟨hu, hv, ho⟩ := mem_slidesP.mp p
  refine mem_slidesP.mpr ⟨mem_after.mpr (.inr rfl), (mem_nearL_comm f).mp hv, ?_⟩
  refine List.eq_nil_iff_forall_not_mem.mpr fun a ha => ?_
  obtain ⟨h1, h2, h3⟩ := mem_oth.mp ha
  rcases mem_after.mp h2 with ⟨h4, h5⟩ | h4
  · exact h.free a h4 u hu (mem_nearL.mp h1).2
  · exact h3 h4
theorem after_comm {m : Nat} {es : List (Int × Int)} {S : List Int} (f : IsFor m es) (h : IsSet m es S) {u v u' v' : Int} (p : (u, v) ∈ slidesP m es S) (q : (u', v') ∈ slidesP m es S) (ne : u ≠ u')
    (ap : v' ∉ nearL m es v) : after (after S u v) u' v' = after (after S u' v') u v := by
  obtain ⟨hu, hv, ho⟩ := mem_slidesP.mp p
  obtain ⟨hu', hv', ho'⟩ := mem_slidesP.mp q
  have nv := adj_free h hu hv
  have nv' := adj_free h hu' hv'
  have s1 := IsSet.slide f (IsSet.slide f h p) ((slide_other f h p q ne).mpr ap)
  have ap' : v ∉ nearL m es v' := fun z => ap ((mem_nearL_comm f).mp z)
  have s2 := IsSet.slide f (IsSet.slide f h q) ((slide_other f h q p (Ne.symm ne)).mpr ap')
  refine asc_ext s1.asc s2.asc fun z => ?_
  have e1 : v ≠ u' := fun e => nv (e ▸ hu')
  have e2 : v' ≠ u := fun e => nv' (e ▸ hu)
  rw [mem_after, mem_after, mem_after, mem_after]
  constructor
  · rintro (⟨⟨a, b⟩ | a, c⟩ | a)
    · exact .inl ⟨.inl ⟨a, c⟩, b⟩
    · exact .inr a
    · exact .inl ⟨.inr a, by rw [a]; exact e2⟩
  · rintro (⟨⟨a, b⟩ | a, c⟩ | a)
    · exact .inl ⟨.inl ⟨a, c⟩, b⟩
    · exact .inr a
    · exact .inl ⟨.inr a, by rw [a]; exact e1⟩
theorem walk_two {m : Nat} {es : List (Int × Int)} {S : List Int} (f : IsFor m es) (h : IsSet m es S) {p q : Int × Int} (hp : p ∈ slidesP m es S) (hq : q ∈ slidesP m es S) (ne : p.1 ≠ q.1)
    (ap : q.2 ∉ nearL m es p.2) : walk m es S [p, q] = some (after (after S p.1 p.2) q.1 q.2) := by
  have h2 : q ∈ slidesP m es (after S p.1 p.2) := (slide_other f h (u := p.1) (v := p.2) (u' := q.1) (v' := q.2) hp hq ne).mpr ap
  unfold walk
  rw [if_pos hp]
  unfold walk
  rw [if_pos h2]
  rfl
end TL
namespace TL
/-! ### labels: vertices that edges join have one label -/
inductive Conn (es : List (Int × Int)) : Int → Int → Prop
  | refl (a : Int) : Conn es a a
  | step {a b c : Int} : Conn es a b → ((b, c) ∈ es ∨ (c, b) ∈ es) → Conn es a c
theorem Conn.trans {es : List (Int × Int)} {a b c : Int} (h : Conn es a b) (k : Conn es b c) : Conn es a c := by
  induction k with
  | refl => exact h
  | step _ e ih => exact .step ih e
theorem Conn.symm {es : List (Int × Int)} {a b : Int} (h : Conn es a b) : Conn es b a := by
  induction h with
  | refl => exact .refl _
  | step _ e ih => exact Conn.trans (.step (.refl _) e.symm) ih
theorem Conn.mono {es fs : List (Int × Int)} (s : ∀ p ∈ es, p ∈ fs) {a b : Int} (h : Conn es a b) : Conn fs a b := by
  induction h with
  | refl => exact .refl _
  | step _ e ih => exact .step ih (e.imp (s _) (s _))
def mrg (f : Int → Int) (a b : Int) : Int → Int := fun v => if f v = f a then f b else f v
structure Lab (es : List (Int × Int)) (vs : List Int) (f : Int → Int) : Prop where
  join : ∀ p ∈ es, p.1 ∈ vs → p.2 ∈ vs → f p.1 = f p.2
  conn : ∀ a ∈ vs, ∀ b ∈ vs, f a = f b → Conn (es.filter fun p => decide (p.1 ∈ vs) && decide (p.2 ∈ vs)) a b
theorem Lab.start (vs : List Int) : Lab [] vs id := ⟨(fun _ h => nomatch h), fun a _ b _ e => by
  have e : a = b := e
  rw [e]
  exact .refl _⟩
theorem filt_sub {es : List (Int × Int)} {p : Int × Int} {q : Int × Int → Bool} : ∀ r ∈ es.filter q, r ∈ (es ++ [p]).filter q := fun r hr => by
  rw [List.filter_append]
  exact List.mem_append_left _ hr
theorem Lab.skip {es : List (Int × Int)} {vs : List Int} {f : Int → Int} {p : Int × Int} (h : Lab es vs f) (n : ¬ (p.1 ∈ vs ∧ p.2 ∈ vs)) : Lab (es ++ [p]) vs f where
  join := fun r hr h1 h2 => by
    rcases List.mem_append.mp hr with hr | hr
    · exact h.join r hr h1 h2
    · rw [List.mem_singleton.mp hr] at h1 h2
      exact absurd ⟨h1, h2⟩ n
  conn := fun a ha b hb e => (h.conn a ha b hb e).mono filt_sub
theorem Lab.merge {es : List (Int × Int)} {vs : List Int} {f : Int → Int} {p : Int × Int} (h : Lab es vs f) (h1 : p.1 ∈ vs) (h2 : p.2 ∈ vs) : Lab (es ++ [p]) vs (mrg f p.1 p.2) where
  join := fun r hr k1 k2 => by
    unfold mrg
    rcases List.mem_append.mp hr with hr | hr
    · rw [h.join r hr k1 k2]
    · rw [List.mem_singleton.mp hr, if_pos rfl]
      split <;> rfl
  conn := fun a ha b hb e => by
    have up : ∀ x ∈ vs, ∀ y ∈ vs, f x = f y → Conn ((es ++ [p]).filter fun p => decide (p.1 ∈ vs) && decide (p.2 ∈ vs)) x y := fun x hx y hy q => (h.conn x hx y hy q).mono filt_sub
    have ed : Conn ((es ++ [p]).filter fun p => decide (p.1 ∈ vs) && decide (p.2 ∈ vs)) p.1 p.2 := by
      refine .step (.refl _) (.inl ?_)
      refine List.mem_filter.mpr ⟨List.mem_append_right _ (List.mem_singleton.mpr rfl), ?_⟩
      rw [Bool.and_eq_true, decide_eq_true_eq, decide_eq_true_eq]
      exact ⟨h1, h2⟩
    unfold mrg at e
    by_cases ea : f a = f p.1
    · by_cases eb : f b = f p.1
      · exact up a ha b hb (ea.trans eb.symm)
      · rw [if_pos ea, if_neg eb] at e
        exact ((up a ha _ h1 ea).trans ed).trans (up _ h2 b hb e)
    · by_cases eb : f b = f p.1
      · rw [if_neg ea, if_pos eb] at e
        exact (((up b hb _ h1 eb).trans ed).trans (up _ h2 a ha e.symm)).symm
      · rw [if_neg ea, if_neg eb] at e
        exact up a ha b hb e
/-! ### groups of one label -/
structure Grp (f : Int → Int) (T : List Int) (gs : List (Int × List Int)) : Prop where
  nd : (gs.map (·.1)).Nodup
  is : ∀ g ∈ gs, g.2 = T.filter (fun v => decide (f v = g.1)) ∧ g.2 ≠ []
  all : ∀ v ∈ T, f v ∈ gs.map (·.1)
theorem Grp.start (f : Int → Int) : Grp f [] [] := ⟨.nil, (fun _ h => nomatch h), (fun _ h => nomatch h)⟩
def addG (gs : List (Int × List Int)) (l v : Int) : List (Int × List Int) :=
  if l ∈ gs.map (·.1) then gs.map (fun g => if g.1 = l then (g.1, g.2 ++ [v]) else g) else gs ++ [(l, [v])]
theorem addG_keys_old {gs : List (Int × List Int)} {l v : Int} : (gs.map (fun g => if g.1 = l then (g.1, g.2 ++ [v]) else g)).map (·.1) = gs.map (·.1) := by
  rw [List.map_map]
  refine List.map_congr_left fun g _ => ?_
  show (if g.1 = l then (g.1, g.2 ++ [v]) else g).1 = g.1
  split <;> rfl
theorem Grp.add {f : Int → Int} {T : List Int} {gs : List (Int × List Int)} (h : Grp f T gs) (v : Int) : Grp f (T ++ [v]) (addG gs (f v) v) := by
  unfold addG
  by_cases hin : f v ∈ gs.map (·.1)
  · rw [if_pos hin]
    refine ⟨by rw [addG_keys_old]; exact h.nd, fun g hg => ?_, fun u hu => ?_⟩
    · obtain ⟨g0, hg0, rfl⟩ := List.mem_map.mp hg
      obtain ⟨i1, i2⟩ := h.is g0 hg0
      by_cases e : g0.1 = f v
      · rw [if_pos e]
        refine ⟨?_, by simp⟩
        show g0.2 ++ [v] = _
        rw [List.filter_append, ← i1, List.filter_cons_of_pos (by simp [e])]
        rfl
      · rw [if_neg e]
        refine ⟨?_, i2⟩
        rw [List.filter_append, ← i1, List.filter_cons_of_neg (by simp; exact fun z => e z.symm), List.filter_nil, List.append_nil]
    · rw [addG_keys_old]
      rcases List.mem_append.mp hu with hu | hu
      · exact h.all u hu
      · rw [List.mem_singleton.mp hu]
        exact hin
  · rw [if_neg hin]
    have none : T.filter (fun u => decide (f u = f v)) = [] := List.filter_eq_nil_iff.mpr fun u hu z => hin (by
      rw [← of_decide_eq_true z]
      exact h.all u hu)
    refine ⟨?_, fun g hg => ?_, fun u hu => ?_⟩
    · rw [List.map_append]
      refine List.nodup_append.mpr ⟨h.nd, List.pairwise_singleton _ _, fun a ha b hb e => ?_⟩
      rw [List.mem_singleton.mp hb] at e
      have e : a = f v := e
      rw [e] at ha
      exact hin ha
    · rcases List.mem_append.mp hg with hg | hg
      · obtain ⟨i1, i2⟩ := h.is g hg
        refine ⟨?_, i2⟩
        have : ¬ f v = g.1 := fun z => hin (by rw [z]; exact List.mem_map.mpr ⟨g, hg, rfl⟩)
        rw [List.filter_append, ← i1, List.filter_cons_of_neg (by simp [this]), List.filter_nil, List.append_nil]
      · rw [List.mem_singleton.mp hg]
        refine ⟨?_, by simp⟩
        rw [List.filter_append, none, List.nil_append, List.filter_cons_of_pos (by simp)]
        rfl
    · rw [List.map_append]
      rcases List.mem_append.mp hu with hu | hu
      · exact List.mem_append_left _ (h.all u hu)
      · rw [List.mem_singleton.mp hu]
        exact List.mem_append_right _ (List.mem_singleton.mpr rfl)
theorem Grp.len {f : Int → Int} {T : List Int} {gs : List (Int × List Int)} (h : Grp f T gs) : gs.length ≤ T.length := by
  have key : ∀ (l : List Int), l.Nodup → (∀ x ∈ l, x ∈ T.map f) → l.length ≤ T.length := by
    intro l nd sub
    have := nd.length_le_of_subset sub
    rw [List.length_map] at this
    exact this
  have := key (gs.map (·.1)) h.nd fun x hx => by
    obtain ⟨g, hg, rfl⟩ := List.mem_map.mp hx
    obtain ⟨i1, i2⟩ := h.is g hg
    obtain ⟨u, hu⟩ := List.exists_mem_of_ne_nil _ i2
    rw [i1] at hu
    obtain ⟨a, b⟩ := List.mem_filter.mp hu
    exact List.mem_map.mpr ⟨u, a, of_decide_eq_true b⟩
  rw [List.length_map] at this
  exact this
end TL
namespace TL
open PySem PySem.Spec L2
/-! ### walks and the way back -/
def run (S : List Int) (ps : List (Int × Int)) : List Int := ps.foldl (fun S p => after S p.1 p.2) S
theorem run_snoc (S : List Int) (ps : List (Int × Int)) (p : Int × Int) : run S (ps ++ [p]) = after (run S ps) p.1 p.2 := by
  unfold run
  rw [List.foldl_append]
  rfl
theorem walk_run {m : Nat} {es : List (Int × Int)} : ∀ {ps : List (Int × Int)} {S T : List Int}, walk m es S ps = some T → T = run S ps
  | [], S, T, h => by cases h; rfl
  | p :: ps, S, T, h => by
    obtain ⟨_, h2⟩ := walk_cons h
    exact (walk_run h2 : T = run (after S p.1 p.2) ps)
theorem walk_push {m : Nat} {es : List (Int × Int)} {S : List Int} {p : Int × Int} {ps : List (Int × Int)} (h : p ∈ slidesP m es S) : walk m es S (p :: ps) = walk m es (after S p.1 p.2) ps := by
  show (if p ∈ slidesP m es S then _ else _) = _
  rw [if_pos h]
theorem walk_app {m : Nat} {es : List (Int × Int)} {qs : List (Int × Int)} : ∀ {ps : List (Int × Int)} {S T : List Int}, walk m es S ps = some T → walk m es S (ps ++ qs) = walk m es T qs
  | [], S, T, h => by cases h; rfl
  | p :: ps, S, T, h => by
    obtain ⟨h1, h2⟩ := walk_cons h
    rw [List.cons_append, walk_push h1]
    exact walk_app h2
theorem walk_some {m : Nat} {es : List (Int × Int)} {qs : List (Int × Int)} : ∀ {ps : List (Int × Int)} {S T : List Int}, walk m es S (ps ++ qs) = some T → walk m es S ps = some (run S ps) ∧ walk m es (run S ps) qs = some T
  | [], S, T, h => ⟨rfl, h⟩
  | p :: ps, S, T, h => by
    rw [List.cons_append] at h
    obtain ⟨h1, h2⟩ := walk_cons h
    rw [walk_push h1]
    exact walk_some h2
theorem walk_cut {m : Nat} {es : List (Int × Int)} {ps : List (Int × Int)} {S T : List Int} (n : Nat) (h : walk m es S ps = some T) : walk m es S (ps.take n) = some (run S (ps.take n)) ∧ walk m es (run S (ps.take n)) (ps.drop n) = some T := by
  rw [← List.take_append_drop n ps] at h
  exact walk_some h
theorem walk_set {m : Nat} {es : List (Int × Int)} (f : IsFor m es) : ∀ {ps : List (Int × Int)} {S T : List Int}, IsSet m es S → walk m es S ps = some T → IsSet m es T
  | [], S, T, i, h => by cases h; exact i
  | p :: ps, S, T, i, h => by
    obtain ⟨h1, h2⟩ := walk_cons h
    exact walk_set f (IsSet.slide f i h1) h2
theorem after_back {m : Nat} {es : List (Int × Int)} {S : List Int} (f : IsFor m es) (h : IsSet m es S) {u v : Int} (p : (u, v) ∈ slidesP m es S) : after (after S u v) v u = S := by
  obtain ⟨hu, hv, ho⟩ := mem_slidesP.mp p
  have nv := adj_free h hu hv
  have s1 := IsSet.slide f (IsSet.slide f h p) (slide_back f h p)
  refine asc_ext s1.asc h.asc fun z => ?_
  show z ∈ after (after S u v) v u ↔ _
  rw [mem_after, mem_after]
  constructor
  · rintro (⟨⟨a, b⟩ | a, c⟩ | a)
    · exact a
    · exact absurd a c
    · rw [a]; exact hu
  · intro hz
    by_cases e : z = u
    · exact .inr e
    · exact .inl ⟨.inl ⟨hz, e⟩, fun y => nv (y ▸ hz)⟩
def bk (ps : List (Int × Int)) : List (Int × Int) := (ps.map fun p => (p.2, p.1)).reverse
theorem bk_length (ps : List (Int × Int)) : (bk ps).length = ps.length := by
  unfold bk
  rw [List.length_reverse, List.length_map]
theorem walk_bk {m : Nat} {es : List (Int × Int)} (f : IsFor m es) : ∀ {ps : List (Int × Int)} {S T : List Int}, IsSet m es S → walk m es S ps = some T → walk m es T (bk ps) = some S
  | [], S, T, i, h => by cases h; rfl
  | p :: ps, S, T, i, h => by
    obtain ⟨h1, h2⟩ := walk_cons h
    have h3 := walk_bk f (IsSet.slide f i h1) h2
    have e : bk (p :: ps) = bk ps ++ [(p.2, p.1)] := by
      unfold bk
      rw [List.map_cons, List.reverse_cons]
    rw [e, walk_app h3, walk_push (slide_back f i (u := p.1) (v := p.2) h1)]
    show some (after (after S p.1 p.2) p.2 p.1) = _
    rw [after_back f i (u := p.1) (v := p.2) h1]
/-! ### the settings on the way -/
def sts (S : List Int) (ps : List (Int × Int)) : List (List Int) := (List.range (ps.length + 1)).map fun i => run S (ps.take i)
theorem sts_nil (S : List Int) : sts S [] = [S] := rfl
theorem sts_len (S : List Int) (ps : List (Int × Int)) : (sts S ps).length = ps.length + 1 := by
  unfold sts
  rw [List.length_map, List.length_range]
theorem sts_snoc (S : List Int) (ps : List (Int × Int)) (p : Int × Int) : sts S (ps ++ [p]) = sts S ps ++ [run S (ps ++ [p])] := by
  unfold sts
  rw [List.length_append, List.length_singleton, List.range_succ, List.map_append, List.map_singleton, List.take_of_length_le (l := ps ++ [p]) (by rw [List.length_append]; exact Nat.le_refl _)]
  congr 1
  refine List.map_congr_left fun i hi => ?_
  have := List.mem_range.mp hi
  rw [List.take_append_of_le_length (by omega)]
theorem sts_get {S : List Int} {ps : List (Int × Int)} {i : Nat} (h : i ≤ ps.length) : (sts S ps)[i]? = some (run S (ps.take i)) := by
  unfold sts
  rw [List.getElem?_map, List.getElem?_range (by omega)]
  rfl
theorem mem_sts {S R : List Int} {ps : List (Int × Int)} (h : R ∈ sts S ps) : ∃ i, i ≤ ps.length ∧ R = run S (ps.take i) := by
  unfold sts at h
  obtain ⟨i, hi, rfl⟩ := List.mem_map.mp h
  have := List.mem_range.mp hi
  exact ⟨i, by omega, rfl⟩
/-! ### lamps counted -/
def cnt (bs : List (List Int)) (S : List Int) : List Int := bs.map fun b => (((S.filter fun l => decide (l ∈ b)).length : Nat) : Int)
theorem cnt_slide {m : Nat} {es : List (Int × Int)} {f : Int → Int} {gs : List (Int × List Int)} {S : List Int} {u v : Int} {bs : List (List Int)} (isf : IsFor m es) (iss : IsSet m es S) (lab : Lab es (rng m) f) (gr : Grp f (rng m) gs)
    (hb : ∀ b ∈ bs, b ∈ gs.map (·.2)) (p : (u, v) ∈ slidesP m es S) : cnt bs (after S u v) = cnt bs S := by
  obtain ⟨hu, hv, ho⟩ := mem_slidesP.mp p
  obtain ⟨rv, av⟩ := mem_nearL.mp hv
  have ru := iss.rng u hu
  have mu : u ∈ rng m := mem_rng.mpr ru
  have mv : v ∈ rng m := mem_rng.mpr rv
  have e : f u = f v := by
    unfold ordP at av
    split at av
    · exact (lab.join _ av mv mu).symm
    · exact lab.join _ av mu mv
  unfold cnt
  refine List.map_congr_left fun b hb0 => ?_
  obtain ⟨g, hg, rfl⟩ := List.mem_map.mp (hb b hb0)
  have key : ∀ x, x ∈ g.2 ↔ x ∈ rng m ∧ f x = g.1 := fun x => by
    rw [(gr.is g hg).1, List.mem_filter, decide_eq_true_eq]
  have uv : u ∈ g.2 ↔ v ∈ g.2 := by
    rw [key, key, e]
    exact ⟨fun z => ⟨mv, z.2⟩, fun z => ⟨mu, z.2⟩⟩
  have h1 : (after S u v).Perm (S.map fun l => if l = u then v else l) := (srtI_perm _).trans (move_perm iss.asc.nodup hu).symm
  rw [(h1.filter _).length_eq, List.filter_map, List.length_map]
  congr 2
  refine List.filter_congr fun l _ => ?_
  show decide ((if l = u then v else l) ∈ g.2) = _
  split
  · rename_i h
    rw [h]
    exact decide_eq_decide.mpr uv.symm
  · rfl
theorem cnt_walk {m : Nat} {es : List (Int × Int)} {f : Int → Int} {gs : List (Int × List Int)} {bs : List (List Int)} (isf : IsFor m es) (lab : Lab es (rng m) f) (gr : Grp f (rng m) gs)
    (hb : ∀ b ∈ bs, b ∈ gs.map (·.2)) : ∀ {ps : List (Int × Int)} {S T : List Int}, IsSet m es S → walk m es S ps = some T → cnt bs T = cnt bs S
  | [], S, T, i, h => by cases h; rfl
  | p :: ps, S, T, i, h => by
    obtain ⟨h1, h2⟩ := walk_cons h
    rw [cnt_walk isf lab gr hb (IsSet.slide isf i h1) h2]
    exact cnt_slide isf i lab gr hb (u := p.1) (v := p.2) h1
/-! ### a comprehension within another -/
def env0 (sc : Scope) : Env := { scope := sc, locals := 0, globals := 0, cells := [], qual := "", func := none, code := .none, frame := default, builtins := default }
theorem blkOk_in {N : List Str} {scope0 scope : Scope} {own : List (Str × Nat)} {env : Env} {cl : List (Str × Addr)} {C : Addr} (sc : Scope) (e : env.scope = sc) (h : blkC N (relabel scope0 (env0 sc)) scope own = true) :
    BlkOk N (compEnvC scope0 cl C env).scope scope own := by
  subst e
  exact blkOk_by h
/-! ### comprehensions over lists and tuples of data -/
theorem zip_filter {α β γ : Type} {xs : List α} {bs : List β} (h : xs.length = bs.length) (p : β → Bool) (d : β → γ) : ((xs.zip bs).filter (fun q => p q.2)).map (fun q => d q.2) = (bs.filter p).map d := by
  have e : (xs.zip bs).map Prod.snd = bs := List.map_snd_zip (by omega)
  conv => rhs; rw [← e, List.filter_map, List.map_map]
  rfl
section
variable {K : PySem.W.Frag} {tt : TT} {te : TE} {vs : List Nat} {σ : L2.St} {H1 : Hp} {D : Addr} {Qd : Hp → Prop}
theorem lc_listD {a : Addr} {xs : List V} {β : Type} {bs : List β} {e : β → PyData} {i : Nat} (p : β → Bool) (d : β → PyData) (nD : H1 D = none) (hS : SqL K H1 a xs) (hA : DpAll K H1 xs (bs.map e))
    (hw : ∀ v, wipe ((wipe σ vs).set i (some v)) vs = wipe σ vs)
    (ht : ∀ x b, b ∈ bs → Dp K H1 x (e b) → ∀ H' (Q : Bool → Hp → Prop), Same H1 H' → (∀ H2, Same H' H2 → Q (p b) H2) → tt ((wipe σ vs).set i (some x)) H' Q)
    (he : ∀ x b, b ∈ bs → p b = true → Dp K H1 x (e b) → ∀ H' (Q : VK), Same H1 H' → (∀ H2 y, Same H' H2 → Dp K H2 y (d b) → Q y H2) → te ((wipe σ vs).set i (some x)) H' Q)
    (ho : ∀ o, only (d o) = true) (hl : bs.length ≤ 1000)
    (hd : ∀ H' ys, Same H1 H' → H' D = some (.lst ys) → DpAll K H' ys ((bs.filter p).map d) → Qd H') : LcGoal (Itl K a) (gName i) tt te vs σ H1 D Qd := by
  have xl : xs.length = bs.length := by rw [DpAll.length hA, List.length_map]
  have mem : ∀ q ∈ xs.zip bs, q.2 ∈ bs ∧ Dp K H1 q.1 (e q.2) := fun q hq => by
    obtain ⟨k, hk⟩ := List.getElem?_of_mem hq
    obtain ⟨h1, h2⟩ := List.getElem?_zip_eq_some.mp hk
    obtain ⟨z, hz, dz⟩ := DpAll.get hA h1
    rw [List.getElem?_map, h2] at hz
    cases hz
    exact ⟨List.mem_of_getElem? h2, dz⟩
  have zl : (xs.zip bs).length = xs.length := by rw [List.length_zip]; omega
  refine lc_gen (K := K) (xs.zip bs) (fun q => (wipe σ vs).set i (some q.1)) (fun q => p q.2) (fun q => d q.2) nD (fun j H' hj s => ⟨_, _, s.seq hS, List.getElem?_eq_getElem (by omega)⟩)
    (fun H' s => ⟨_, s.seq hS, by omega⟩) (fun j b x H' H'' hb s y => ?_) (fun b => hw _) (fun b hb H' Q s hQ => ht _ _ (mem b hb).1 (mem b hb).2 H' Q s hQ) (fun b hb hp H' Q s hQ => he _ _ (mem b hb).1 hp (mem b hb).2 H' Q s hQ) (fun o => ho _) (by omega)
    (fun H' ys s eD dy => hd H' ys s eD ?_)
  · obtain ⟨e1, hy⟩ := y
    have h1 := hy _ (s.seq hS)
    obtain ⟨h2, h3⟩ := List.getElem?_zip_eq_some.mp hb
    rw [h2] at h1
    cases h1
    exact ⟨e1, fun Q q => q⟩
  · rw [zip_filter xl] at dy
    exact dy
theorem lc_tupD {a : Addr} {xs : List V} {β : Type} {bs : List β} {e : β → PyData} {i : Nat} (p : β → Bool) (d : β → PyData) (nD : H1 D = none) (hS : SqT K H1 a xs) (hA : DpAll K H1 xs (bs.map e))
    (hw : ∀ v, wipe ((wipe σ vs).set i (some v)) vs = wipe σ vs)
    (ht : ∀ x b, b ∈ bs → Dp K H1 x (e b) → ∀ H' (Q : Bool → Hp → Prop), Same H1 H' → (∀ H2, Same H' H2 → Q (p b) H2) → tt ((wipe σ vs).set i (some x)) H' Q)
    (he : ∀ x b, b ∈ bs → p b = true → Dp K H1 x (e b) → ∀ H' (Q : VK), Same H1 H' → (∀ H2 y, Same H' H2 → Dp K H2 y (d b) → Q y H2) → te ((wipe σ vs).set i (some x)) H' Q)
    (ho : ∀ o, only (d o) = true) (hl : bs.length ≤ 1000)
    (hd : ∀ H' ys, Same H1 H' → H' D = some (.lst ys) → DpAll K H' ys ((bs.filter p).map d) → Qd H') : LcGoal (Itt K a) (gName i) tt te vs σ H1 D Qd := by
  have xl : xs.length = bs.length := by rw [DpAll.length hA, List.length_map]
  have mem : ∀ q ∈ xs.zip bs, q.2 ∈ bs ∧ Dp K H1 q.1 (e q.2) := fun q hq => by
    obtain ⟨k, hk⟩ := List.getElem?_of_mem hq
    obtain ⟨h1, h2⟩ := List.getElem?_zip_eq_some.mp hk
    obtain ⟨z, hz, dz⟩ := DpAll.get hA h1
    rw [List.getElem?_map, h2] at hz
    cases hz
    exact ⟨List.mem_of_getElem? h2, dz⟩
  have zl : (xs.zip bs).length = xs.length := by rw [List.length_zip]; omega
  refine lc_gen (K := K) (xs.zip bs) (fun q => (wipe σ vs).set i (some q.1)) (fun q => p q.2) (fun q => d q.2) nD (fun j H' hj s => ⟨_, _, Same.tup s hS, List.getElem?_eq_getElem (by omega)⟩)
    (fun H' s => ⟨_, Same.tup s hS, by omega⟩) (fun j b x H' H'' hb s y => ?_) (fun b => hw _) (fun b hb H' Q s hQ => ht _ _ (mem b hb).1 (mem b hb).2 H' Q s hQ) (fun b hb hp H' Q s hQ => he _ _ (mem b hb).1 hp (mem b hb).2 H' Q s hQ) (fun o => ho _) (by omega)
    (fun H' ys s eD dy => hd H' ys s eD ?_)
  · obtain ⟨e1, hy⟩ := y
    have h1 := hy _ (Same.tup s hS)
    obtain ⟨h2, h3⟩ := List.getElem?_zip_eq_some.mp hb
    rw [h2] at h1
    cases h1
    exact ⟨e1, fun Q q => q⟩
  · rw [zip_filter xl] at dy
    exact dy
end
end TL
namespace TL
open PySem PySem.Spec L2
/-! ### vertices joined by edges, found pass by pass -/
def stp (f : List Int) (p : Int × Int) : List Int := if decide (p.1 ∈ f) = decide (p.2 ∈ f) then f else f ++ [if p.1 ∈ f then p.2 else p.1]
def pas (E : List (Int × Int)) (f : List Int) : List Int := E.foldl stp f
def passes (E : List (Int × Int)) (v : Int) : Nat → List Int
  | 0 => [v]
  | n + 1 => pas E (passes E v n)
theorem filt_le {α : Type} {P Q : α → Bool} (h : ∀ x, P x = true → Q x = true) : ∀ l : List α, (l.filter P).length ≤ (l.filter Q).length
  | [] => Nat.le_refl _
  | a :: l => by
    have ih := filt_le h l
    rw [List.filter_cons, List.filter_cons]
    by_cases hp : P a = true
    · rw [if_pos hp, if_pos (h a hp), List.length_cons, List.length_cons]
      omega
    · rw [if_neg hp]
      split
      · rw [List.length_cons]
        omega
      · exact ih
theorem filt_lt {α : Type} {P Q : α → Bool} (h : ∀ x, P x = true → Q x = true) : ∀ {l : List α} {a : α}, a ∈ l → P a = false → Q a = true → (l.filter P).length < (l.filter Q).length
  | b :: l, a, ha, hp, hq => by
    rw [List.filter_cons, List.filter_cons]
    rcases List.mem_cons.mp ha with e | ha
    · rw [← e, if_neg (by rw [hp]; decide), if_pos hq, List.length_cons]
      have := filt_le h l
      omega
    · have ih := filt_lt h ha hp hq
      by_cases hb : P b = true
      · rw [if_pos hb, if_pos (h b hb), List.length_cons, List.length_cons]
        omega
      · rw [if_neg hb]
        split
        · rw [List.length_cons]
          omega
        · exact ih
def inn (f : List Int) (p : Int × Int) : Bool := decide (p.1 ∈ f) && decide (p.2 ∈ f)
structure Jn (E : List (Int × Int)) (v : Int) (f : List Int) : Prop where
  nd : f.Nodup
  has : v ∈ f
  conn : ∀ x ∈ f, Conn E v x
  cnt : f.length ≤ 1 + (E.filter (inn f)).length
theorem Jn.start (E : List (Int × Int)) (v : Int) : Jn E v [v] where
  nd := List.pairwise_singleton _ _
  has := List.mem_singleton.mpr rfl
  conn := fun x hx => by rw [List.mem_singleton.mp hx]; exact .refl _
  cnt := by rw [List.length_singleton]; omega
theorem Jn.put {E : List (Int × Int)} {v : Int} {f : List Int} {p : Int × Int} {y : Int} (h : Jn E v f) (hp : p ∈ E) (ny : y ∉ f) (cy : Conn E v y) (n : inn f p = false) (m : inn (f ++ [y]) p = true) : Jn E v (f ++ [y]) where
  nd := List.nodup_append.mpr ⟨h.nd, List.pairwise_singleton _ _, fun a ha b hb e => by rw [List.mem_singleton.mp hb] at e; exact ny (e ▸ ha)⟩
  has := List.mem_append_left _ h.has
  conn := fun x hx => (List.mem_append.mp hx).elim (h.conn x) fun z => by rw [List.mem_singleton.mp z]; exact cy
  cnt := by
    have := filt_lt (P := inn f) (Q := inn (f ++ [y])) (fun x hx => by
      unfold inn at hx ⊢
      rw [Bool.and_eq_true, decide_eq_true_eq, decide_eq_true_eq] at hx ⊢
      exact ⟨List.mem_append_left _ hx.1, List.mem_append_left _ hx.2⟩) hp n m
    have := h.cnt
    rw [List.length_append, List.length_singleton]
    omega
theorem Jn.stp {E : List (Int × Int)} {v : Int} {f : List Int} {p : Int × Int} (h : Jn E v f) (hp : p ∈ E) : Jn E v (TL.stp f p) := by
  unfold TL.stp
  split
  · exact h
  · rename_i ne
    by_cases h1 : p.1 ∈ f
    · have h2 : p.2 ∉ f := fun z => ne (by rw [decide_eq_true h1, decide_eq_true z])
      rw [if_pos h1]
      refine h.put hp h2 (.step (h.conn _ h1) (.inl hp)) ?_ ?_
      · unfold inn; rw [decide_eq_false h2, Bool.and_false]
      · unfold inn; rw [decide_eq_true (List.mem_append_left _ h1), decide_eq_true (List.mem_append_right _ (List.mem_singleton.mpr rfl))]; rfl
    · have h2 : p.2 ∈ f := Decidable.byContradiction fun z => ne (by rw [decide_eq_false h1, decide_eq_false z])
      rw [if_neg h1]
      refine h.put hp h1 (.step (h.conn _ h2) (.inr hp)) ?_ ?_
      · unfold inn; rw [decide_eq_false h1, Bool.false_and]
      · unfold inn; rw [decide_eq_true (List.mem_append_left _ h2), decide_eq_true (List.mem_append_right _ (List.mem_singleton.mpr rfl))]; rfl
theorem Jn.fold {E : List (Int × Int)} {v : Int} : ∀ {D : List (Int × Int)} {f : List Int}, (∀ p ∈ D, p ∈ E) → Jn E v f → Jn E v (D.foldl TL.stp f)
  | [], _, _, h => h
  | p :: D, f, s, h => Jn.fold (D := D) (fun q hq => s q (List.mem_cons_of_mem _ hq)) (h.stp (s p List.mem_cons_self))
theorem Jn.passes (E : List (Int × Int)) (v : Int) : ∀ n, Jn E v (TL.passes E v n)
  | 0 => Jn.start E v
  | n + 1 => Jn.fold (fun _ h => h) (Jn.passes E v n)
def Closed (E : List (Int × Int)) (f : List Int) : Prop := ∀ p ∈ E, decide (p.1 ∈ f) = decide (p.2 ∈ f)
theorem fold_grow : ∀ {D : List (Int × Int)} {f : List Int}, (D.foldl TL.stp f = f ∧ Closed D f) ∨ f.length + 1 ≤ (D.foldl TL.stp f).length
  | [], f => .inl ⟨rfl, fun _ h => nomatch h⟩
  | p :: D, f => by
    rw [List.foldl_cons]
    by_cases e : decide (p.1 ∈ f) = decide (p.2 ∈ f)
    · have es : TL.stp f p = f := by unfold TL.stp; rw [if_pos e]
      rw [es]
      rcases fold_grow (D := D) (f := f) with ⟨h1, h2⟩ | h
      · exact .inl ⟨h1, fun q hq => (List.mem_cons.mp hq).elim (fun z => z ▸ e) (h2 q)⟩
      · exact .inr h
    · have es : (TL.stp f p).length = f.length + 1 := by unfold TL.stp; rw [if_neg e, List.length_append, List.length_singleton]
      rcases fold_grow (D := D) (f := TL.stp f p) with ⟨h1, h2⟩ | h
      · rw [h1]
        exact .inr (by omega)
      · exact .inr (by omega)
theorem fold_closed : ∀ {D : List (Int × Int)} {f : List Int}, Closed D f → D.foldl TL.stp f = f
  | [], _, _ => rfl
  | p :: D, f, h => by
    have es : TL.stp f p = f := by unfold TL.stp; rw [if_pos (h p List.mem_cons_self)]
    rw [List.foldl_cons, es]
    exact fold_closed fun q hq => h q (List.mem_cons_of_mem _ hq)
theorem passes_grow (E : List (Int × Int)) (v : Int) : ∀ n, Closed E (passes E v n) ∨ n + 1 ≤ (passes E v n).length
  | 0 => .inr (Nat.le_refl _)
  | n + 1 => by
    rcases passes_grow E v n with h | h
    · left
      show Closed E (pas E (passes E v n))
      unfold pas
      rw [fold_closed h]
      exact h
    · rcases fold_grow (D := E) (f := passes E v n) with ⟨h1, h2⟩ | h3
      · left
        show Closed E (pas E (passes E v n))
        unfold pas
        rw [h1]
        exact h2
      · right
        show _ ≤ (pas E (passes E v n)).length
        unfold pas
        omega
theorem passes_closed (E : List (Int × Int)) (v : Int) : Closed E (passes E v E.length) := by
  rcases passes_grow E v E.length with h | h
  · exact h
  · have c := (Jn.passes E v E.length).cnt
    have l := List.length_filter_le (inn (passes E v E.length)) E
    have e : E.filter (inn (passes E v E.length)) = E := List.filter_sublist.eq_of_length (by omega)
    intro p hp
    rw [← e] at hp
    have h2 := (List.mem_filter.mp hp).2
    unfold inn at h2
    rw [Bool.and_eq_true] at h2
    rw [h2.1, h2.2]
theorem mem_passes (E : List (Int × Int)) (v x : Int) : x ∈ passes E v E.length ↔ Conn E v x := by
  refine ⟨(Jn.passes E v _).conn x, fun h => ?_⟩
  induction h with
  | refl => exact (Jn.passes E v _).has
  | step _ hp ih =>
    rcases hp with hp | hp
    · have := passes_closed E v _ hp
      exact of_decide_eq_true (by rw [← this]; exact decide_eq_true ih)
    · have := passes_closed E v _ hp
      exact of_decide_eq_true (by rw [this]; exact decide_eq_true ih)
/-! ### groups of one label -/
def within (es : List (Int × Int)) (ws : List Int) : List (Int × Int) := es.filter fun p => decide (p.1 ∈ ws) && decide (p.2 ∈ ws)
theorem mem_within {es : List (Int × Int)} {ws : List Int} {p : Int × Int} : p ∈ within es ws ↔ p ∈ es ∧ p.1 ∈ ws ∧ p.2 ∈ ws := by
  unfold within
  rw [List.mem_filter, Bool.and_eq_true, decide_eq_true_eq, decide_eq_true_eq]
theorem conn_lab {es : List (Int × Int)} {ws : List Int} {f : Int → Int} (h : Lab es ws f) {a b : Int} (ha : a ∈ ws) (c : Conn (within es ws) a b) : b ∈ ws ∧ f a = f b := by
  induction c with
  | refl => exact ⟨ha, rfl⟩
  | step _ hp ih =>
    rcases hp with hp | hp
    · obtain ⟨h1, h2, h3⟩ := mem_within.mp hp
      exact ⟨h3, ih.2.trans (h.join _ h1 h2 h3)⟩
    · obtain ⟨h1, h2, h3⟩ := mem_within.mp hp
      exact ⟨h2, ih.2.trans (h.join _ h1 h2 h3).symm⟩
theorem group_eq {es : List (Int × Int)} {ws : List Int} {f : Int → Int} (h : Lab es ws f) (asc : Asc ws) {v : Int} (hv : v ∈ ws) :
    srtI (passes (within es ws) v (within es ws).length) = ws.filter fun u => decide (f u = f v) := by
  refine asc_ext (srtI_asc (Jn.passes _ _ _).nd) (asc.filter _) fun z => ?_
  rw [(srtI_perm _).mem_iff, mem_passes, List.mem_filter, decide_eq_true_eq]
  constructor
  · intro c
    obtain ⟨h1, h2⟩ := conn_lab h hv c
    exact ⟨h1, h2.symm⟩
  · intro hz
    exact h.conn v hv z hz.1 hz.2.symm
end TL
namespace TL
open PySem PySem.Spec PyProof.Rows L2
/-! ### sorted, of a set of tuples of ints of any lengths -/
theorem perm_map {α β : Type} {f : α → β} {vs ms : List β} (h : vs.Perm ms) : ∀ {l : List α}, ms = l.map f → ∃ l' : List α, l'.Perm l ∧ vs = l'.map f := by
  induction h with
  | nil =>
    intro l e
    exact ⟨l, .refl _, e⟩
  | cons x _ ih =>
    intro l e
    cases l with
    | nil => cases e
    | cons y l =>
      rw [List.map_cons] at e
      injection e with e1 e2
      obtain ⟨l', p, e3⟩ := ih e2
      exact ⟨y :: l', p.cons y, by rw [List.map_cons, ← e1, e3]⟩
  | swap x y l0 =>
    intro l e
    match l, e with
    | a :: b :: l, e =>
      rw [List.map_cons, List.map_cons] at e
      injection e with e1 e2
      injection e2 with e2 e3
      exact ⟨b :: a :: l, .swap _ _ _, by rw [List.map_cons, List.map_cons, ← e1, ← e2, e3]⟩
  | trans _ _ ih1 ih2 =>
    intro l e
    obtain ⟨l2, p2, e2⟩ := ih2 e
    obtain ⟨l1, p1, e1⟩ := ih1 e2
    exact ⟨l1, p1.trans p2, e1⟩
theorem reads_ints {h : Heap} : ∀ {vs : List Value} {ns : List Int}, IntsAre vs ns → ReadsAll h vs (ns.map .int) []
  | [], [], _ => .nil
  | v :: vs, n :: ns, a => by
    cases a with
    | cons _ t a2 => exact ReadsAll.cons (as := []) (bs := []) (.int n t) (reads_ints a2)
def rSortSet (K : PySem.W.Frag) (P : Program) (w : World) : List V → Hp → VK → Prop := fun vs H Q => ∃ (a : Addr) (L : List (Addr × List Int)), vs = [V.ref a] ∧ H a = some (SetTO P w a L) ∧ (∀ p ∈ L, SqT K H p.1 (p.2.map V.int)) ∧ (∀ p ∈ L, p.2 ≠ []) ∧
  ∀ (L' : List (Addr × List Int)) p ys, H p = none → L'.Perm L → (L'.map (·.2)).Nodup → DpAll K H ys (((L'.map (·.2)).mergeSort (PySem.W.dataLe false intsD)).map intsD) → Q (.ref p) (upd H p (.lst ys))
theorem alike_ints : ∀ x y : List Int, PySem.W.alikeAll (x.map PyData.int) (y.map PyData.int) = true := by
  intro x
  induction x with
  | nil => intro y; cases y <;> simp [PySem.W.alikeAll]
  | cons n x ih =>
    intro y
    cases y with
    | nil => simp [PySem.W.alikeAll]
    | cons k y => simp [PySem.W.alikeAll, PySem.W.alike, ih y]
theorem dataLe_intsD : PySem.W.dataLe false intsD = fun p q : List Int => decide (p ≤ q) := by
  funext p q
  show (!PySem.W.dataLt (.tuple (q.map .int)) (.tuple (p.map .int))) = _
  rw [PySem.W.dataLt_tuple]
  show (!PySem.W.rowLt (q.map .int) (p.map .int)) = _
  rw [PySem.W.dataLt_ints]
  by_cases h : q < p
  · have h' : ¬ p ≤ q := fun r => List.not_lt.mpr r h
    simp [h, h']
  · have h' : p ≤ q := List.not_lt.mp h
    simp [h, h']
theorem rows_le (A : List (List Int)) : (A.mergeSort (PySem.W.dataLe false intsD)).Pairwise (· ≤ ·) := by
  rw [dataLe_intsD]
  refine (List.pairwise_mergeSort (le := fun p q : List Int => decide (p ≤ q)) (fun a b c h1 h2 => decide_eq_true (List.le_trans (of_decide_eq_true h1) (of_decide_eq_true h2))) (fun a b => ?_) A).imp fun h => of_decide_eq_true h
  rcases List.le_total a b with h | h
  · simp [h]
  · simp [h]
theorem rows_sort {A B : List (List Int)} (h : A.Perm B) : A.mergeSort (PySem.W.dataLe false intsD) = B.mergeSort (PySem.W.dataLe false intsD) :=
  ((List.mergeSort_perm A _).trans (h.trans (List.mergeSort_perm B _).symm)).eq_of_pairwise (fun x y _ _ h1 h2 => List.le_antisymm h1 h2) (rows_le A) (rows_le B)
section
variable {X : Cx}
theorem cr_sortSet (hc : X.calm = true) (hu : X.A.units + 64 < cLine) : CallR X (.builtin "sorted") (rSortSet X.K X.prog X.w) := by
  intro pins s σ H vs us Q I r h
  obtain ⟨a, L, rfl, ha, hk, hne, q⟩ := h
  have R0 : SetT0 X.prog X.w s.heap a L := (I.hok a _ ha).1
  obtain ⟨es, ep, t, R⟩ := R0.full fun p hp => I.isT (hk p hp)
  rw [Vals.ref1 r]
  obtain ⟨o, ho, hex, hd⟩ := R.ob
  have hsz := R.size
  have hfew := R.few
  refine Calls.call_function_entry kind_sorted plain_sorted entry_sorted (args_sorted1 _) ?_
  unfold Builtin.«sorted»
  refine wpAny_bind (m := checkCount "sorted" 1 1 _) (wpAny_pure ?_)
  refine wpAny_bind (collect_set (A := X.A.in1) (I.ok.hd hc) ⟨o, ho, hex.1, hd⟩ R.fits (by unfold scanBound; omega) R.tab.ris R.led fun s1 vs k1 hz g1 o1 pm => ?_)
  have hes : es.toList.map (·.2) = L.map fun q => Value.ref q.1 := by
    rw [R.rows]
    unfold rowsOf
    rw [List.map_map] <;> rfl
  rw [hes] at pm
  obtain ⟨L1, p1, rfl⟩ := perm_map pm rfl
  have l1 : L1.length < 64 := by rw [p1.length_eq]; exact hfew
  refine wpAny_bind (wpAny_newList ?_ (by rw [sizeLine_eq, List.length_map]; omega))
  have hoL : (s1.heap.push (seqObj "list" (L1.map fun q => Value.ref q.1).toArray 0)).get? s1.heap.objs.size = some (seqObj "list" (L1.map fun q => Value.ref q.1).toArray 0) := Heap.get?_push_size _ rfl
  have e1 : ∀ l : List (Addr × List Int), (∀ p ∈ l, p ∈ L) → PySem.W.EachIs (fun (u : Value) (b : List Int) => ∃ x, RelV x u ∧ Dp X.K H x (intsD b)) (l.map fun q => Value.ref q.1) (l.map (·.2)) := by
    intro l
    induction l with
    | nil => intro _; exact .nil
    | cons q l ih =>
      intro hs
      exact .cons ⟨.ref q.1, rfl, Dp.ints (hk q (hs q List.mem_cons_self))⟩ (ih fun p hp => hs p (List.mem_cons_of_mem _ hp))
  have e2 : ∀ l : List (Addr × List Int), (∀ p ∈ l, p ∈ L) → PySem.W.EachIs (fun (u : Value) (b : List Int) => ∃ as, Reads (s1.heap.push (seqObj "list" (L1.map fun q => Value.ref q.1).toArray 0)) u (intsD b) as ∧ s1.heap.objs.size ∉ as) (l.map fun q => Value.ref q.1) (l.map (·.2)) := by
    intro l
    induction l with
    | nil => intro _; exact .nil
    | cons q l ih =>
      intro hs
      obtain ⟨oq, its, n, hoq, hcq, hdq, hit⟩ := R.tup q (hs q List.mem_cons_self)
      refine .cons ⟨[], ?_, fun z => nomatch z⟩ (ih fun p hp => hs p (List.mem_cons_of_mem _ hp))
      exact .tuple (Heap.get?_push_of_some _ (k1 _ _ hoq)) hcq hdq (reads_ints (ints_of_items hit))
  have hin : ∀ p ∈ L1, p ∈ L := fun p hp => p1.mem_iff.mp hp
  refine wpAny_bind (wpAny_holding (PySem.W.list_sort_data (s := { s1 with heap := s1.heap.push (seqObj "list" (L1.map fun q => Value.ref q.1).toArray 0) }) hoL (e1 L1 hin) (e2 L1 hin) ?_ ?_ (by rw [List.length_map, sizeLine_eq]; omega) (fun b _ => ?_) fun out ho2 eo => ?_))
  · intro d hd e he
    obtain ⟨x, _, rfl⟩ := List.mem_map.mp hd
    obtain ⟨y, _, rfl⟩ := List.mem_map.mp he
    simp only [intsD, PySem.W.alike]
    exact alike_ints x y
  · refine .inl fun d hd => ?_
    obtain ⟨x, hx, rfl⟩ := List.mem_map.mp hd
    obtain ⟨p, hp, rfl⟩ := List.mem_map.mp hx
    cases h2 : p.2 with
    | nil => exact absurd h2 (hne p (hin p hp))
    | cons n r => exact ⟨_, _, rfl⟩
  · have : (intsD b).depth ≤ 50 := by
      simp only [intsD, PyData.depth, dep_ints]
      decide
    show X.A.in1.units + 1 + _ < _
    have : X.A.in1.units ≤ X.A.units + 1 := Nat.le_refl _
    omega
  obtain ⟨ys, ry, dy⟩ := of_each intsD eo
  obtain ⟨c, hc2⟩ := sortedHeap_at (vs := L1.map fun q => Value.ref q.1) (out := out.toArray) hoL
  have hn : H s1.heap.objs.size = none := I.hok.fresh hz
  have hq : ∀ b o, s.heap.get? b = some o → (sortedHeap (s1.heap.push (seqObj "list" (L1.map fun q => Value.ref q.1).toArray 0)) s1.heap.objs.size (L1.map fun q => Value.ref q.1) out.toArray).get? b = some o := fun b u e => by
    have q := k1 b u e
    have hlt := Heap.lt_size q
    rw [sortedHeap_old (Nat.ne_of_lt hlt) (by rw [size_push']; exact Nat.lt_succ_of_lt hlt)]
    exact Heap.get?_push_of_some _ q
  have hol : out.length = L1.length := by rw [ho2, List.length_map]
  have hlen : ys.length ≤ sizeLine := by rw [ry.length, hol, sizeLine_eq]; omega
  have J : L2.Inv X pins σ (upd H s1.heap.objs.size (.lst ys)) { s1 with heap := sortedHeap (s1.heap.push (seqObj "list" (L1.map fun q => Value.ref q.1).toArray 0)) s1.heap.objs.size (L1.map fun q => Value.ref q.1) out.toArray } :=
    I.call' (ch := []) o1 (Un.laid hq hz hn) (I.hok.laid hq hz ⟨hlen, out, c, ry, hc2⟩) (by show AllBare s1.gens; rw [g1]; exact I.bare) (fun _ z => nomatch z)
  exact wpAny_pure ⟨_, rfl, ⟨.ref s1.heap.objs.size, _, J, rfl, q L1 _ ys hn p1 ((p1.map (·.2)).nodup_iff.mpr R.nd) dy⟩⟩
end
end TL
namespace TL
open PySem PySem.Spec PyProof.Rows L2
/-! ### enumerate(a tuple) -/
abbrev tupIt (l : Addr) : Obj := { cls := .type "tuple_iterator", data := .fields #[.ref l, .int 0 0] }
abbrev enumOb (it : Addr) : Obj :=
  { cls := .type "enumerate", data := .fields #[.none, .bool false, .ref it, rawInt 0, .none, .none] }
theorem meets_enumT (l : Addr) (items : Array Value) (n : Nat) (dct : Option Addr) (sl : Array (Option Value)) :
    Meets (Builtin.«enumerate.__new__» ⟨[.type "enumerate", .ref l], []⟩) (fun _ R s =>
      s.heap.get? l = some { cls := .type "tuple", dict := dct, data := .seq items n, slots := sl } ∧
      R (.ok (.ret (.ref (s.heap.push (tupIt l)).objs.size)))
        { s with heap := (s.heap.push (tupIt l)).push (enumOb s.heap.objs.size) }) :=
  .of_wp fun prog w A R s h => by
    obtain ⟨hp, g, d, tk, os⟩ := s
    obtain ⟨hl, h⟩ := h
    have hsub := sub_enumerate
    have hL : Heap.IsTuple (Shared.heap ⟨hp, g, d, tk, os⟩) l items := ⟨_, hl, rfl, n, rfl⟩
    wp_walk using AutoSeq1.wpAny_loadPart' hl
    refine wpAny_stack_any fun st => wpAny_pure ?_
    split
    · rename_i c _ _ _ _ _
      cases (c == Value.type "enumerate")
      · wp_walk using AutoSeq1.wpAny_loadPart' hl, wpAny_pyIter_tuple hL
        exact ⟨_, rfl, h⟩
      · wp_walk using AutoSeq1.wpAny_loadPart' hl, wpAny_pyIter_tuple hL
        exact ⟨_, rfl, h⟩
    · wp_walk using AutoSeq1.wpAny_loadPart' hl, wpAny_pyIter_tuple hL
      exact ⟨_, rfl, h⟩
section
variable {prog : Program} {w : World} {A : Around} {E : Value → Shared → Prop} {s : Shared}
theorem call_enumT {l : Addr} {items : Array Value} {Q : Value → Shared → Prop} (hL : s.heap.IsTuple l items)
    (h : ∀ h', IsEnum h' (s.heap.objs.size + 1) s.heap.objs.size 0 .none → h'.IsTupleIter s.heap.objs.size l 0 →
      (∀ b o, s.heap.get? b = some o → h'.get? b = some o) → Q (.ref (s.heap.objs.size + 1)) { s with heap := h' }) :
    wpAny (model prog w) A (call (.type "enumerate") [.ref l]) Q E s := by
  obtain ⟨⟨c, dct, dt, sl⟩, hl, hc, n, hd⟩ := hL
  obtain rfl : c = .type "tuple" := hc
  obtain rfl : dt = .seq items n := hd
  refine callType_new F.called_enumerate (by decide) (F.typeCall_enumerate_1 _) (F.newCall_enumerate_1 _)
    (fun obj => F.args_object_init_2 obj _) F.entry_enumerate_new (meets_enumT l items n dct sl) ⟨hl, ?_⟩
  have hz : (s.heap.push (tupIt l)).objs.size = s.heap.objs.size + 1 := Heap.size_push ..
  show _ ∧ _
  rw [hz]
  have he : IsEnum ((s.heap.push (tupIt l)).push (enumOb s.heap.objs.size)) (s.heap.objs.size + 1) s.heap.objs.size 0 .none := by
    have q := Heap.get?_push_size (s.heap.push (tupIt l)) (o := enumOb s.heap.objs.size) rfl
    rw [hz] at q
    exact q
  exact ⟨⟨_, he, rfl⟩, h _ he ⟨_, Heap.get?_push_of_some _ (Heap.get?_push_size _ rfl), rfl, rfl⟩
    fun b o x => Heap.get?_push_of_some _ (Heap.get?_push_of_some _ x)⟩
end
/-- the tuple at a, each item in a new pair -/
def IteT (K : PySem.W.Frag) (a : Addr) : It :=
  ⟨fun i H => ∃ (xs : List V) (x : V), SqT K H a xs ∧ xs[i]? = some x,
   fun i H v H' => ∃ T x, v = .ref T ∧ H T = none ∧ H' = upd H T (.tup [.int (i : Nat), x]) ∧ ∀ xs, SqT K H a xs → xs[i]? = some x,
   fun i H => ∃ xs : List V, SqT K H a xs ∧ xs.length ≤ i⟩
theorem turn_enumT {P : Program} {w : World} {K : PySem.W.Frag} {elts : List Expr} {kk : Nat} {tpos : Pos} (a e it : Addr) (ha : a ≠ it) :
    Turn P w K (.Tuple elts kk tpos) (IteT K a) [e, it] e
      (fun i h => (∃ old, IsEnum h e it ((i : Nat) : Int) old) ∧ h.IsTupleIter it a i ∧ e ≠ it) where
  mem := by simp
  obj := fun i h st b hb => by
    obtain ⟨⟨old, he⟩, ⟨o, ho, hc, hd⟩, _⟩ := st
    have e' : b = e ∨ b = it := by simpa using hb
    rcases e' with rfl | rfl
    · exact ⟨_, he, fun v q => nomatch q⟩
    · exact ⟨o, ho, fun v q => by rw [hd] at q; cases q⟩
  keep := fun i h h' st k => by
    obtain ⟨⟨old, he⟩, hi, hne⟩ := st
    exact ⟨⟨old, k e (by simp) _ he⟩, hi.at fun o q => k it (by simp) o q, hne⟩
  item := by
    intro X hP hw hK hc i pins s σ H E I hf st hg
    subst hP hw hK
    obtain ⟨⟨old, he⟩, hit, hne⟩ := st
    obtain ⟨xs, x, hq, hx⟩ := hg
    obtain ⟨its, rv, p, hz⟩ := I.tuple hq
    obtain ⟨u, hu, ru⟩ := rv.get hx
    have hel : e < s.heap.objs.size := Heap.lt_size he
    have hil : it < s.heap.objs.size := by
      obtain ⟨_, q, _⟩ := hit
      exact Heap.lt_size q
    have hi : i < its.toArray.size := by
      rw [List.size_toArray]
      exact (List.getElem?_eq_some_iff.mp hu).1
    obtain ⟨o0, ho0, hc0, n0, hd0⟩ := p
    have pT : s.heap.IsTuple a its.toArray := ⟨o0, ho0, hc0, n0, hd0⟩
    refine wpAny_pyNext_enum_itemD (Draws.tuple (A := X.A.in1) (I.ok.hd hc) it a ha its.toArray) he ⟨hit, pT⟩ hi hne (fun z => ?_) fun x' h' tk hP ho hit' hT hsz hk => ?_
    · rcases List.mem_cons.mp z with z | z
      · exact hne z
      · have z := List.mem_singleton.mp z
        rw [z] at he
        have q := Option.some.inj (ho0.symm.trans he)
        rw [q] at hc0
        exact absurd (show Value.type "enumerate" = Value.type "tuple" from hc0) (by decide)
    have ex : x' = u := by
      have h1 : its.toArray[i]? = some x' := hP
      have h2 : its.toArray[i]? = some u := by simpa using hu
      exact Option.some.inj (h1.symm.trans h2)
    subst ex
    refine ⟨_, rfl, wpAny_letOwnedTupleGo_enum (s := { s with heap := h', toks := tk + 1 }) ho fun h'' he' sb => ?_⟩
    have hT2 : h''.get? s.heap.objs.size = some { cls := .type "tuple", data := .seq #[.int i tk, x'] } := (sb.2 _ (Nat.ne_of_gt hel)).trans hT
    have new : ObjOk X.prog X.w (upd H s.heap.objs.size (.tup [.int (i : Nat), x])) h'' s.heap.objs.size (.tup [.int (i : Nat), x]) :=
      ⟨by show 2 ≤ sizeLine; decide, [.int i tk, x'], .cons ⟨_, rfl⟩ (.cons ru .nil), ⟨_, hT2, rfl, _, rfl⟩⟩
    have kept : ∀ b ob, b ∉ [e, it] → s.heap.get? b = some ob → h''.get? b = some ob := fun b ob hb q =>
      (sb.2 b (fun z => hb (by simp [z]))).trans (hk b ob (fun z => hb (by simp [z])) (fun z => hb (by simp [z])) q)
    have I1 := I.turnedNew (t' := tk + 1) (ch := [e, it]) kept hf (Nat.le_refl _) new
    refine ⟨.ref s.heap.objs.size, _, I1, rfl, ⟨_, x, rfl, I.hok.fresh (Nat.le_refl _), rfl, fun ys hy => by rw [I.tuple_inj hy hq]; exact hx⟩,
      ⟨⟨x', ?_⟩, hit'.1.at fun o q => (sb.2 it (Ne.symm hne)).trans q, hne⟩, fun b hb => ?_⟩
    · have e1 : ((i + 1 : Nat) : Int) = (i : Int) + 1 := by omega
      rw [e1]
      exact he'
    · have hb' : b < s.heap.objs.size := by
        have e' : b = e ∨ b = it := by simpa using hb
        rcases e' with rfl | rfl
        · exact hel
        · exact hil
      rw [upd_ne (Nat.ne_of_lt hb')]
      exact (hf b hb).1
  done := by
    intro X hP hw hK hc i pins s σ H E I hf st hg
    subst hP hw hK
    obtain ⟨⟨old, he⟩, hit, hne⟩ := st
    obtain ⟨xs, hq, hx⟩ := hg
    obtain ⟨its, rv, p, hz⟩ := I.tuple hq
    obtain ⟨f0, f1, f2, f3, f4, f5⟩ := hf it (by simp)
    have hl := rv.length
    obtain ⟨o0, ho0, hc0, n0, hd0⟩ := p
    have pT : s.heap.IsTuple a its.toArray := ⟨o0, ho0, hc0, n0, hd0⟩
    have hT : s.TypeIs (.ref e) "enumerate" := ⟨_, he, rfl⟩
    unfold pyNext
    refine wpAny_bind (wpAny_attempt (wpAny_callSpecial?_slot (name := Str.ofString "__next__") hT F.slot_enumerate_next
      (wpAny_call_entry F.slot_enumerate_next hT F.entry_enumerate_next ?_ (F.args_enumerate_next_1 _))))
    show wpAny _ _ (field (.ref e) 2 >>= _) _ _ _
    refine wpAny_bind (wpAny_field he rfl (x := .ref it) rfl ?_)
    refine wpAny_bind (wpAny_nextOf_tuple_end (I.ok.hd hc) hit pT (by simp; omega) fun h' x he' hx' => ?_)
    obtain ⟨o, ho, hc⟩ := hx'
    refine wpAny_bind (wpAny_isInstance (T := "StopIteration") (b := true) ⟨o, ho, hc⟩ isSubtype_stop ?_)
    exact wpAny_pure ⟨rfl, I.turned (t' := s.toks) (fun b o hb q => he' b o hb q) f0 f1 f3 f4 f5⟩
  self := fun A i s Q E st h => by
    obtain ⟨⟨_, he⟩, _⟩ := st
    exact wpAny_pyIter_enum he h
def iEnumT (K : PySem.W.Frag) (ta : TA) : TI := fun σ H R => ta σ H fun vs H1 => ∃ a xs, vs = [.ref a] ∧ SqT K H1 a xs ∧ R (IteT K a) H1
theorem pi_enumT (K : PySem.W.Frag) {X : Cx} {e : Expr} {ta : TA} {p pos tpos : Pos} {elts : List Expr} {kk : Nat} (hg : Gl X "enumerate") (hm : X.mg "enumerate" = none)
    (ha : PA X [e] ta) (hK : X.K = K := by rfl) (hs : starEach [e] X.env = [(false, eval e X.env)] := by rfl) :
    PI X (.Tuple elts kk tpos) (.Call (.Name "enumerate" p) [e] [] pos) (iEnumT K ta) := by
  subst hK
  refine ⟨fun pins s σ H R I h => ?_⟩
  refine Call_ (ld_blt I hg hm boot_enumerate (PyProof.Rows.callWith_type1
    (thn (ha.run pos pins s σ H _ I h) fun us s1 ⟨vs, H1, I1, r1, q1⟩ => ?_) hs rfl))
  obtain ⟨a, xs, ex, hq, q⟩ := q1
  subst ex
  cases r1 with
  | cons r rr =>
    cases rr
    cases r
    obtain ⟨its, rv, ⟨o0, ho0, hc0, n0, hd0⟩, hz⟩ := I1.tuple hq
    have pT : s1.heap.IsTuple a its.toArray := ⟨o0, ho0, hc0, n0, hd0⟩
    refine call_enumT pT fun h' he hit hk => wpAny_pyIter_enum he ?_
    have I2 : Inv X pins σ H1 { s1 with heap := h' } := I1.kept (t' := s1.toks) hk
    refine ⟨s1.heap.objs.size + 1, [s1.heap.objs.size + 1, s1.heap.objs.size], _, _, H1, rfl, I2,
      turn_enumT a (s1.heap.objs.size + 1) s1.heap.objs.size (Nat.ne_of_lt (Heap.lt_size ho0)), ⟨⟨.none, he⟩, hit, Nat.succ_ne_self _⟩, fun b hb => ?_, q⟩
    have hle : s1.heap.objs.size ≤ b := by
      have e' : b = s1.heap.objs.size + 1 ∨ b = s1.heap.objs.size := by simpa using hb
      rcases e' with z | z
      · rw [z]; exact Nat.le_add_right _ _
      · rw [z]; exact Nat.le_refl _
    exact I1.fpOk hle (I1.hok.fresh hle)
/-- a loop over enumerate(a tuple): the new pair at T -/
theorem for_enumT {K : PySem.W.Frag} {a : Addr} {xs : List V} {g : TG} {tb : TS} {D : Ends} {σ : L2.St} {H : Hp} (Pv : Nat → L2.St → Hp → Prop) (h0 : Pv 0 σ H) (hl : ∀ i σ H, Pv i σ H → SqT K H a xs)
    (hs : ∀ i x T σ H, xs[i]? = some x → H T = none → Pv i σ H →
      g (.ref T) σ (upd H T (.tup [.int (i : Nat), x])) fun σ2 H2 => tb { D with nx := Pv (i + 1), ct := Pv (i + 1), bk := D.nx } σ2 H2)
    (hd : ∀ σ H, Pv xs.length σ H → D.nx σ H) :
    ∃ W : Nat → Nat → L2.St → Hp → Prop, (∃ m, W 0 m σ H) ∧ ∀ i m σ H, W i m σ H →
      ((IteT K a).stop i H ∧ D.nx σ H) ∨ ((IteT K a).go i H ∧ ∃ N : L2.St → Hp → Prop, (∀ σ' H', N σ' H' → ∃ m', m' < m ∧ W (i + 1) m' σ' H') ∧
        ∀ v H', (IteT K a).yld i H v H' → g v σ H' fun σ2 H2 => tb { D with nx := N, ct := N, bk := D.nx } σ2 H2) := by
  refine ⟨fun i m σ H => m = xs.length - i ∧ i ≤ xs.length ∧ Pv i σ H, ⟨xs.length, rfl, Nat.zero_le _, h0⟩, fun i m σ H hW => ?_⟩
  obtain ⟨em, hi, p⟩ := hW
  by_cases hlt : i < xs.length
  · refine .inr ⟨⟨xs, _, hl i σ H p, List.getElem?_eq_getElem hlt⟩, Pv (i + 1), fun σ' H' p' => ⟨xs.length - (i + 1), by omega, rfl, hlt, p'⟩, fun v H' y => ?_⟩
    obtain ⟨T, x, rfl, nT, rfl, hx⟩ := y
    exact hs i x T σ H (hx _ (hl i σ H p)) nT p
  · obtain rfl : i = xs.length := by omega
    exact .inl ⟨⟨xs, hl _ σ H p, Nat.le_refl _⟩, hd σ H p⟩
end TL
namespace TL
/-! ### paths in forests: between two vertices there is at most one -/
def Adj (es : List (Int × Int)) (a b : Int) : Prop := (a, b) ∈ es ∨ (b, a) ∈ es
theorem Adj.symm {es : List (Int × Int)} {a b : Int} (h : Adj es a b) : Adj es b a := h.elim .inr .inl
inductive Pth (es : List (Int × Int)) : Int → Int → List Int → Prop
  | one (a : Int) : Pth es a a [a]
  | cons {a b c : Int} {p : List Int} : Adj es a b → Pth es b c p → a ∉ p → Pth es a c (a :: p)
theorem Pth.mono {es fs : List (Int × Int)} (s : ∀ p ∈ es, p ∈ fs) {a b : Int} {p : List Int} (h : Pth es a b p) : Pth fs a b p := by
  induction h with
  | one a => exact .one a
  | cons ad _ n ih => exact .cons (ad.elim (fun z => .inl (s _ z)) fun z => .inr (s _ z)) ih n
theorem Pth.first {es : List (Int × Int)} {a b : Int} {p : List Int} (h : Pth es a b p) : a ∈ p := by
  cases h with
  | one => exact List.mem_singleton.mpr rfl
  | cons => exact List.mem_cons_self
theorem Pth.last {es : List (Int × Int)} {a b : Int} {p : List Int} (h : Pth es a b p) : b ∈ p := by
  induction h with
  | one a => exact List.mem_singleton.mpr rfl
  | cons _ _ _ ih => exact List.mem_cons_of_mem _ ih
theorem Pth.self {es : List (Int × Int)} {a : Int} {p : List Int} (h : Pth es a a p) : p = [a] := by
  cases h with
  | one => rfl
  | cons _ h n => exact absurd h.last n
theorem Pth.nodup {es : List (Int × Int)} {a b : Int} {p : List Int} (h : Pth es a b p) : p.Nodup := by
  induction h with
  | one a => exact List.pairwise_singleton _ _
  | cons _ _ n ih => exact List.nodup_cons.mpr ⟨n, ih⟩
theorem Pth.snoc {es : List (Int × Int)} {a b c : Int} {p : List Int} (h : Pth es a b p) (ad : Adj es b c) (n : c ∉ p) : Pth es a c (p ++ [c]) := by
  induction h with
  | one a =>
    refine .cons ad (.one c) fun z => n ?_
    rw [List.mem_singleton.mp z]
    exact List.mem_singleton.mpr rfl
  | cons ad0 _ n0 ih =>
    refine .cons ad0 (ih ad fun z => n (List.mem_cons_of_mem _ z)) fun z => ?_
    rcases List.mem_append.mp z with z | z
    · exact n0 z
    · rw [List.mem_singleton.mp z] at n
      exact n List.mem_cons_self
theorem Pth.rev {es : List (Int × Int)} {a b : Int} {p : List Int} (h : Pth es a b p) : Pth es b a p.reverse := by
  induction h with
  | one a => exact .one a
  | cons ad _ n ih =>
    rw [List.reverse_cons]
    exact ih.snoc ad.symm fun z => n (List.mem_reverse.mp z)
def Uniq (es : List (Int × Int)) : Prop := ∀ a b p q, Pth es a b p → Pth es a b q → p = q
section
variable {es : List (Int × Int)} {u v : Int} {e : Int × Int} (he : e = (v, u) ∨ e = (u, v)) (nv : ∀ p ∈ es, p.1 ≠ v ∧ p.2 ≠ v) (uv : u ≠ v)
include he nv
theorem adj_snoc {a b : Int} (h : Adj (es ++ [e]) a b) : Adj es a b ∨ (a = v ∧ b = u) ∨ (a = u ∧ b = v) := by
  rcases h with h | h
  · rcases List.mem_append.mp h with h | h
    · exact .inl (.inl h)
    · have h := List.mem_singleton.mp h
      rcases he with he | he
      · rw [he] at h; cases h; exact .inr (.inl ⟨rfl, rfl⟩)
      · rw [he] at h; cases h; exact .inr (.inr ⟨rfl, rfl⟩)
  · rcases List.mem_append.mp h with h | h
    · exact .inl (.inr h)
    · have h := List.mem_singleton.mp h
      rcases he with he | he
      · rw [he] at h; cases h; exact .inr (.inr ⟨rfl, rfl⟩)
      · rw [he] at h; cases h; exact .inr (.inl ⟨rfl, rfl⟩)
include uv
theorem adj_leaf {b : Int} (h : Adj (es ++ [e]) v b) : b = u := by
  rcases adj_snoc he nv h with h | h | h
  · rcases h with h | h
    · exact absurd rfl (nv _ h).1
    · exact absurd rfl (nv _ h).2
  · exact h.2
  · exact absurd h.1.symm uv
theorem pth_leaf1 {a b : Int} {p : List Int} (h : Pth (es ++ [e]) a b p) (ha : a ≠ v) (hb : b ≠ v) : v ∉ p ∧ Pth es a b p := by
  induction h with
  | one a => exact ⟨fun z => ha (List.mem_singleton.mp z).symm, .one a⟩
  | @cons a x c p ad hp na ih =>
    by_cases hx : x = v
    · subst hx
      have au : a = u := adj_leaf he nv uv ad.symm
      cases hp with
      | one => exact absurd rfl hb
      | cons ad2 hp2 n2 =>
        have yu := adj_leaf he nv uv ad2
        rw [yu, ← au] at hp2
        exact absurd (List.mem_cons_of_mem _ hp2.first) na
    · obtain ⟨h1, h2⟩ := ih hx hb
      refine ⟨fun z => (List.mem_cons.mp z).elim (fun z => ha z.symm) h1, .cons ?_ h2 na⟩
      rcases adj_snoc he nv ad with h | h | h
      · exact h
      · exact absurd h.1 ha
      · exact absurd h.2 hx
theorem pth_leaf2 {b : Int} {p : List Int} (h : Pth (es ++ [e]) v b p) (hb : b ≠ v) : ∃ p', p = v :: p' ∧ Pth es u b p' := by
  cases h with
  | one => exact absurd rfl hb
  | cons ad hp _ =>
    have yu := adj_leaf he nv uv ad
    rw [yu] at hp
    exact ⟨_, rfl, (pth_leaf1 he nv uv hp uv hb).2⟩
theorem uniq_snoc (U : Uniq es) : Uniq (es ++ [e]) := by
  intro a b p q hp hq
  by_cases ha : a = v
  · by_cases hb : b = v
    · rw [ha, hb] at hp hq
      rw [hp.self, hq.self]
    · rw [ha] at hp hq
      obtain ⟨p', rfl, h1⟩ := pth_leaf2 he nv uv hp hb
      obtain ⟨q', rfl, h2⟩ := pth_leaf2 he nv uv hq hb
      rw [U _ _ _ _ h1 h2]
  · by_cases hb : b = v
    · rw [hb] at hp hq
      obtain ⟨p', e1, h1⟩ := pth_leaf2 he nv uv hp.rev ha
      obtain ⟨q', e2, h2⟩ := pth_leaf2 he nv uv hq.rev ha
      rw [← U _ _ _ _ h1 h2, ← e1] at e2
      exact (List.reverse_inj.mp e2).symm
    · exact U _ _ _ _ (pth_leaf1 he nv uv hp ha hb).2 (pth_leaf1 he nv uv hq ha hb).2
end
theorem uniq_nil : Uniq [] := by
  intro a b p q hp hq
  cases hp with
  | one => rw [hq.self]
  | cons ad => exact ad.elim (fun z => nomatch z) fun z => nomatch z
theorem uniq_grow {m : Nat} {nm : List Int} : ∀ {n : Nat} {ks : List (Nat × Nat)}, ks.length = n → Grow m nm ks → Uniq (ks.map (edgeOf nm))
  | 0, ks, hn, g => by
    rw [List.length_eq_zero_iff.mp hn]
    exact uniq_nil
  | n + 1, ks, hn, g => by
    have hne : ks ≠ [] := fun z => by rw [z] at hn; cases hn
    obtain ⟨js, q, rfl⟩ : ∃ js q, ks = js ++ [q] := ⟨_, _, (List.dropLast_concat_getLast hne).symm⟩
    rw [List.length_append, List.length_singleton] at hn
    have gj : Grow m nm js := ⟨g.names, (List.pairwise_append.mp g.up).1, fun r hr => g.down r (List.mem_append_left _ hr)⟩
    have up := (List.pairwise_append.mp g.up).2.2
    obtain ⟨hq1, hq2⟩ := g.down q (List.mem_append_right _ (List.mem_singleton.mpr rfl))
    rw [List.map_append, List.map_singleton]
    have ne : nm.getD q.2 0 ≠ nm.getD q.1 0 := fun z => by have := g.inj (Nat.lt_trans hq1 hq2) hq2 z; omega
    refine uniq_snoc (v := nm.getD q.1 0) (u := nm.getD q.2 0) ?_ (fun p hp => ?_) ne (uniq_grow (n := n) (by omega) gj)
    · unfold edgeOf ordP
      split
      · exact .inl rfl
      · exact .inr rfl
    · obtain ⟨r, hr, rfl⟩ := List.mem_map.mp hp
      obtain ⟨hr1, hr2⟩ := gj.down r hr
      have hlt := up r hr q (List.mem_singleton.mpr rfl)
      have n1 : nm.getD r.1 0 ≠ nm.getD q.1 0 := fun z => by have := g.inj hr2 hq2 z; omega
      have n2 : nm.getD r.2 0 ≠ nm.getD q.1 0 := fun z => by have := g.inj (Nat.lt_trans hr1 hr2) hq2 z; omega
      unfold edgeOf ordP
      split
      · exact ⟨n1, n2⟩
      · exact ⟨n2, n1⟩
theorem IsFor.uniq {m : Nat} {es : List (Int × Int)} (f : IsFor m es) : Uniq es := by
  obtain ⟨nm, ks, g, p⟩ := f.grow
  intro a b x y hx hy
  exact uniq_grow rfl g a b x y (hx.mono fun q hq => p.mem_iff.mp hq) (hy.mono fun q hq => p.mem_iff.mp hq)
end TL
namespace TL
/-! ### an edge of a forest joins what no other edges join -/
theorem Pth.cut {es : List (Int × Int)} {a b : Int} {p : List Int} (h : Pth es a b p) : ∀ c ∈ p, ∃ q, Pth es a c q ∧ ∀ x ∈ q, x ∈ p := by
  induction h with
  | one a =>
    intro c hc
    rw [List.mem_singleton.mp hc]
    exact ⟨[a], .one a, fun x hx => hx⟩
  | @cons a y b p ad hp n ih =>
    intro c hc
    rcases List.mem_cons.mp hc with rfl | hc
    · exact ⟨[c], .one c, fun x hx => by rw [List.mem_singleton.mp hx]; exact List.mem_cons_self⟩
    · obtain ⟨q, hq, sub⟩ := ih c hc
      refine ⟨a :: q, .cons ad hq fun z => n (sub a z), fun x hx => ?_⟩
      rcases List.mem_cons.mp hx with rfl | hx
      · exact List.mem_cons_self
      · exact List.mem_cons_of_mem _ (sub x hx)
theorem Conn.pth {es : List (Int × Int)} {a b : Int} (h : Conn es a b) : ∃ p, Pth es a b p := by
  induction h with
  | refl => exact ⟨_, .one _⟩
  | @step b c _ e ih =>
    obtain ⟨p, hp⟩ := ih
    by_cases hc : c ∈ p
    · obtain ⟨q, hq, _⟩ := hp.cut c hc
      exact ⟨q, hq⟩
    · exact ⟨_, hp.snoc e hc⟩
theorem Pth.pair {es : List (Int × Int)} {a b x y : Int} {l : List Int} (h : Pth es a b l) (e : l = [x, y]) : Adj es x y := by
  cases h with
  | one => cases e
  | cons ad hp n =>
    cases hp with
    | one => cases e; exact ad
    | cons _ hp _ => cases hp <;> cases e
theorem IsFor.open {m : Nat} {A B : List (Int × Int)} {p : Int × Int} (f : IsFor m (A ++ p :: B)) : ¬ Conn A p.1 p.2 := by
  intro h
  obtain ⟨q, hq⟩ := h.pth
  have mem : p ∈ A ++ p :: B := List.mem_append_right _ List.mem_cons_self
  have r := f.rng p mem
  have h1 : Pth (A ++ p :: B) p.1 p.2 q := hq.mono fun x hx => List.mem_append_left _ hx
  have h2 : Pth (A ++ p :: B) p.1 p.2 [p.1, p.2] := .cons (.inl mem) (.one _) fun z => by
    have := List.mem_singleton.mp z
    omega
  have e := f.uniq _ _ _ _ h1 h2
  subst e
  have ad : Adj A p.1 p.2 := hq.pair rfl
  rcases ad with z | z
  · have := (List.pairwise_append.mp f.asc).2.2 _ z p List.mem_cons_self
    rcases this with y | y
    · simp only at y; omega
    · simp only at y; omega
  · have := f.rng _ (List.mem_append_left _ z)
    simp only at this
    omega
/-! ### sorted pairs -/
theorem srtP_congr {a b : List (Int × Int)} (h : a.Perm b) : srtP a = srtP b := by
  have p : (srtP a).Perm (srtP b) := (srtP_perm a).trans (h.trans (srtP_perm b).symm)
  refine p.eq_of_pairwise (fun x y _ _ h1 h2 => ?_) (srtP_le a) (srtP_le b)
  refine Prod.ext ?_ ?_ <;> omega
theorem Grow.sorted {m : Nat} {nm : List Int} {ks : List (Nat × Nat)} {es : List (Int × Int)} (g : Grow m nm ks) (p : es.Perm (ks.map (edgeOf nm))) : IsFor m (srtP es) := by
  rw [srtP_congr p]
  exact g.isFor
theorem ordP_eq {a b : Int} (h : a ≤ b) : ordP a b = (a, b) := by
  unfold ordP
  rw [if_pos h]
/-! ### names for vertices -/
def nam (ns : List Int) (v : Int) : Int := ns.getD v.toNat 0
def ren (ns : List Int) (p : Int × Int) : Int × Int := ordP (nam ns p.1) (nam ns p.2)
theorem ren_ord (ns : List Int) (a b : Int) : ren ns (ordP a b) = ordP (nam ns a) (nam ns b) := by
  unfold ren ordP
  by_cases h : a ≤ b
  · rw [if_pos h]
  · rw [if_neg h]
    exact ordP_comm (nam ns b) (nam ns a)
theorem nam_rng {ns : List Int} : (rng ns.length).map (nam ns) = ns := by
  unfold rng
  rw [List.map_map]
  refine List.ext_getElem? fun i => ?_
  rw [List.getElem?_map]
  by_cases h : i < ns.length
  · rw [List.getElem?_range h, List.getElem?_eq_getElem h]
    show some (ns.getD (Int.toNat (Int.ofNat i)) 0) = _
    show some (ns.getD i 0) = _
    rw [List.getD_eq_getElem?_getD, List.getElem?_eq_getElem h]
    rfl
  · rw [List.getElem?_eq_none (by rw [List.length_range]; omega), List.getElem?_eq_none (by omega)]
    rfl
theorem perm_len {m : Nat} {ns : List Int} (h : ns.Perm (rng m)) : ns.length = m := by rw [h.length_eq, rng_length]
theorem nam_in {m : Nat} {ns : List Int} (h : ns.Perm (rng m)) {v : Int} (hv : 0 ≤ v ∧ v < m) : 0 ≤ nam ns v ∧ nam ns v < m := by
  have hl : v.toNat < ns.length := by rw [perm_len h]; omega
  refine mem_rng.mp (h.mem_iff.mp ?_)
  unfold nam
  rw [List.getD_eq_getElem?_getD, List.getElem?_eq_getElem hl]
  exact List.getElem_mem hl
theorem nam_inj {m : Nat} {ns : List Int} (h : ns.Perm (rng m)) {u v : Int} (hu : 0 ≤ u ∧ u < m) (hv : 0 ≤ v ∧ v < m) (e : nam ns u = nam ns v) : u = v := by
  have hl : u.toNat < ns.length := by rw [perm_len h]; omega
  have hk : v.toNat < ns.length := by rw [perm_len h]; omega
  unfold nam at e
  rw [List.getD_eq_getElem?_getD, List.getElem?_eq_getElem hl, List.getD_eq_getElem?_getD, List.getElem?_eq_getElem hk] at e
  have nd : ns.Nodup := h.nodup_iff.mpr (rng_asc m).nodup
  have := (List.getElem_inj nd).mp e
  omega
theorem IsFor.renamed {m : Nat} {es : List (Int × Int)} {ns : List Int} (f : IsFor m es) (h : ns.Perm (TL.rng m)) : IsFor m (srtP (es.map (ren ns))) := by
  obtain ⟨nm, ks, g, p⟩ := f.grow
  have gn : ∀ i, i < m → (nm.map (nam ns)).getD i 0 = nam ns (nm.getD i 0) := fun i hi => by
    have hl : i < nm.length := by rw [g.len]; exact hi
    rw [List.getD_eq_getElem?_getD, List.getElem?_map, List.getD_eq_getElem?_getD, List.getElem?_eq_getElem hl]
    rfl
  have g' : Grow m (nm.map (nam ns)) ks := ⟨by
    refine (g.names.map (nam ns)).trans ?_
    have e : (TL.rng m).map (nam ns) = ns := by rw [← perm_len h]; exact nam_rng
    rw [e]
    exact h, g.up, g.down⟩
  refine g'.sorted ((p.map (ren ns)).trans ?_)
  rw [List.map_map]
  refine List.Perm.of_eq (List.map_congr_left fun q hq => ?_)
  obtain ⟨h1, h2⟩ := g.down q hq
  show ren ns (edgeOf nm q) = edgeOf (nm.map (nam ns)) q
  unfold edgeOf
  rw [ren_ord, gn _ h2, gn _ (Nat.lt_trans h1 h2)]
theorem ren_back {m : Nat} {es : List (Int × Int)} {ns ms : List Int} (f : IsFor m es) (back : ∀ v : Int, 0 ≤ v → v < m → nam ms (nam ns v) = v) : srtP ((srtP (es.map (ren ns))).map (ren ms)) = es := by
  rw [srtP_congr ((srtP_perm _).map (ren ms)), List.map_map]
  have e : es.map (ren ms ∘ ren ns) = es := by
    conv => rhs; rw [← List.map_id es]
    refine List.map_congr_left fun p hp => ?_
    have r := f.rng p hp
    show ren ms (ren ns p) = p
    unfold ren
    have := ren_ord ms (nam ns p.1) (nam ns p.2)
    unfold ren at this
    rw [this, back _ r.1 (by omega), back _ (by omega) r.2.2, ordP_eq (by omega)]
  rw [e]
  exact srtP_of_asc f.asc
/-! ### side by side -/
def shf (m : Nat) (p : Int × Int) : Int × Int := (p.1 + m, p.2 + m)
theorem rng_add (m n : Nat) : rng (m + n) = rng m ++ (rng n).map (· + (m : Int)) := by
  unfold rng
  rw [List.range_add, List.map_append, List.map_map, List.map_map]
  congr 1
  refine List.map_congr_left fun i _ => ?_
  show Int.ofNat (m + i) = Int.ofNat i + (m : Int)
  simp only [Int.ofNat_eq_natCast]
  omega
theorem ordP_add (a b c : Int) : ordP (a + c) (b + c) = ((ordP a b).1 + c, (ordP a b).2 + c) := by
  unfold ordP
  by_cases h : a ≤ b
  · rw [if_pos h, if_pos (by omega)]
  · rw [if_neg h, if_neg (by omega)]
theorem IsFor.beside {m n : Nat} {es fs : List (Int × Int)} (f : IsFor m es) (g : IsFor n fs) : IsFor (m + n) (es ++ fs.map (shf m)) := by
  obtain ⟨nm, ks, G, p⟩ := f.grow
  obtain ⟨nn, js, G2, p2⟩ := g.grow
  have l1 := G.len
  have l2 := G2.len
  have left : ∀ i, i < m → (nm ++ nn.map (· + (m : Int))).getD i 0 = nm.getD i 0 := fun i hi => by
    rw [List.getD_eq_getElem?_getD, List.getElem?_append_left (by omega), List.getD_eq_getElem?_getD]
  have right : ∀ i, i < n → (nm ++ nn.map (· + (m : Int))).getD (i + m) 0 = nn.getD i 0 + m := fun i hi => by
    rw [List.getD_eq_getElem?_getD, List.getElem?_append_right (by omega), l1, Nat.add_sub_cancel, List.getElem?_map, List.getD_eq_getElem?_getD, List.getElem?_eq_getElem (by omega)]
    rfl
  refine ⟨?_, fun q hq => ?_, nm ++ nn.map (· + (m : Int)), ks ++ js.map (fun q => (q.1 + m, q.2 + m)), ⟨?_, ?_, fun q hq => ?_⟩, ?_⟩
  · refine List.pairwise_append.mpr ⟨f.asc, ?_, fun a ha b hb => ?_⟩
    · refine List.pairwise_map.mpr ?_
      refine g.asc.imp fun {a b} h => ?_
      unfold shf LtP
      simp only
      rcases h with h | h
      · left; omega
      · right; omega
    · obtain ⟨c, hc, rfl⟩ := List.mem_map.mp hb
      have := f.rng a ha
      have := g.rng c hc
      left
      unfold shf
      simp only
      omega
  · rcases List.mem_append.mp hq with hq | hq
    · have := f.rng q hq
      omega
    · obtain ⟨c, hc, rfl⟩ := List.mem_map.mp hq
      have := g.rng c hc
      unfold shf
      simp only
      omega
  · rw [rng_add]
    exact G.names.append (G2.names.map _)
  · refine List.pairwise_append.mpr ⟨G.up, ?_, fun a ha b hb => ?_⟩
    · rw [List.pairwise_map]
      exact G2.up.imp fun {a b} h => by simp only; omega
    · obtain ⟨c, hc, rfl⟩ := List.mem_map.mp hb
      have := G.down a ha
      simp only
      omega
  · rcases List.mem_append.mp hq with hq | hq
    · have := G.down q hq
      omega
    · obtain ⟨c, hc, rfl⟩ := List.mem_map.mp hq
      have := G2.down c hc
      simp only
      omega
  · rw [List.map_append]
    refine List.Perm.append (p.trans (List.Perm.of_eq (List.map_congr_left fun q hq => ?_))) ((p2.map (shf m)).trans (List.Perm.of_eq ?_))
    · have := G.down q hq
      unfold edgeOf
      rw [left _ (by omega), left _ (by omega)]
    · rw [List.map_map, List.map_map]
      refine List.map_congr_left fun q hq => ?_
      have := G2.down q hq
      show shf m (edgeOf nn q) = ordP ((nm ++ nn.map (· + (m : Int))).getD (q.1 + m) 0) ((nm ++ nn.map (· + (m : Int))).getD (q.2 + m) 0)
      rw [right _ (by omega), right _ (by omega), ordP_add]
      rfl
/-! ### one vertex more -/
theorem Grow.more {m : Nat} {nm : List Int} {ks : List (Nat × Nat)} (g : Grow m nm ks) : Grow (m + 1) (nm ++ [(m : Int)]) ks where
  names := by
    have e : rng (m + 1) = rng m ++ [(m : Int)] := by
      rw [rng_add]
      congr 1
      show [Int.ofNat 0 + (m : Int)] = _
      simp
    rw [e]
    exact g.names.append (List.Perm.refl _)
  up := g.up
  down := fun q hq => by have := g.down q hq; omega
theorem more_get {m : Nat} {nm : List Int} {i : Nat} (l : nm.length = m) (hi : i < m) : (nm ++ [(m : Int)]).getD i 0 = nm.getD i 0 := by
  rw [List.getD_eq_getElem?_getD, List.getElem?_append_left (by omega), List.getD_eq_getElem?_getD]
theorem more_edges {m : Nat} {nm : List Int} {ks : List (Nat × Nat)} (g : Grow m nm ks) : ks.map (edgeOf (nm ++ [(m : Int)])) = ks.map (edgeOf nm) :=
  List.map_congr_left fun q hq => by
    have := g.down q hq
    unfold edgeOf
    rw [more_get g.len (by omega), more_get g.len (by omega)]
theorem IsFor.more {m : Nat} {es : List (Int × Int)} (f : IsFor m es) : IsFor (m + 1) es := by
  obtain ⟨nm, ks, g, p⟩ := f.grow
  refine ⟨f.asc, fun q hq => by have := f.rng q hq; omega, nm ++ [(m : Int)], ks, g.more, ?_⟩
  rw [more_edges g]
  exact p
theorem IsFor.attach {m : Nat} {es : List (Int × Int)} {v : Int} (f : IsFor m es) (hv : 0 ≤ v ∧ v < m) : IsFor (m + 1) (srtP (es ++ [(v, (m : Int))])) := by
  obtain ⟨nm, ks, g, p⟩ := f.grow
  have l := g.len
  obtain ⟨i, hi, ei⟩ := List.mem_iff_getElem.mp (g.names.mem_iff.mpr (mem_rng.mpr hv))
  have gi : nm.getD i 0 = v := by rw [List.getD_eq_getElem?_getD, List.getElem?_eq_getElem hi]; exact ei
  have gm : (nm ++ [(m : Int)]).getD m 0 = (m : Int) := by
    rw [List.getD_eq_getElem?_getD, List.getElem?_append_right (by omega), l, Nat.sub_self]
    rfl
  have g' : Grow (m + 1) (nm ++ [(m : Int)]) (ks ++ [(m, i)]) := ⟨g.more.names, List.pairwise_append.mpr ⟨g.up, List.pairwise_singleton _ _, fun a ha b hb => by
    rw [List.mem_singleton.mp hb]
    exact (g.down a ha).2⟩, fun q hq => by
    rcases List.mem_append.mp hq with hq | hq
    · have := g.down q hq
      omega
    · rw [List.mem_singleton.mp hq]
      simp only
      omega⟩
  refine g'.sorted ?_
  rw [List.map_append, more_edges g]
  refine List.Perm.append p (List.Perm.of_eq ?_)
  rw [List.map_singleton]
  unfold edgeOf
  simp only
  rw [gm, more_get l (by omega), gi, ordP_comm, ordP_eq (by omega)]
theorem IsFor.empty : IsFor 0 [] := ⟨.nil, (fun _ h => nomatch h), [], [], ⟨.nil, .nil, (fun _ h => nomatch h)⟩, .nil⟩
end TL
namespace TL
open PySem PySem.Spec PyProof.Rows L2
section
variable {X : Cx} {pos : Pos}
theorem pgLK (K : PySem.W.Frag) {es : List Expr} {k : Nat} {t : TGs} {n : Nat} (h : PGs X es t) (hc : X.calm = true := by rfl) (hK : X.K = K := by rfl)
    (hn : (assignEach es X.env).length = n := by rfl) (hst : (assignEach es X.env).findIdx? (·.1) = none := by rfl) :
    PG X (.Tuple es k pos) (gLst K n t) := hK ▸ pg_lst hc h hn hst
theorem leTK (K : PySem.W.Frag) (hu : X.A.units + 64 < cLine) (h : X.K = K := by rfl) : OpR X (compareOp .LtE) (rLeT K) := h ▸ op_leT (by omega)
end
section
variable {X : Cx}
/-- t.index(n), t a tuple of ints that holds n -/
def rTix (K : PySem.W.Frag) : V → List V → Hp → VK → Prop := fun x xs H Q => ∃ (p : Addr) (ns : List Int) (k : Int), x = .ref p ∧ xs = [.int k] ∧ SqT K H p (ns.map V.int) ∧ k ∈ ns ∧ Q (.int (ns.idxOf k : Nat)) H
theorem mt_tix : MtR X "tuple.index" (rTix X.K) := by
  intro pins s σ H x xs v us Q I rx rs h
  obtain ⟨p, ns, k, rfl, rfl, hq, hk, q⟩ := h
  cases rx
  obtain ⟨u, rfl, t, rfl⟩ := vals1 rs
  obtain ⟨its, r, ⟨o0, ho0, hc0, n0, hd0⟩, hz⟩ := I.tuple hq
  have i1 : IntsAre its ns := Vals.ints r
  refine SeqAt.call_tuple_index (ks := ns) (k := k) ⟨o0, ho0, hc0, n0, hd0⟩ ⟨i1.length, fun j h1 h2 => ?_⟩ hk ⟨.int _, H, I.tok _, ⟨_, rfl⟩, q⟩
  obtain ⟨t', et⟩ := PyProof.Rows.IntsAre.int_at i1 j its[j] (List.getElem?_eq_getElem h1)
  rw [et]
  have e : ns.getD j 0 = ns[j] := by rw [List.getD_eq_getElem?_getD, List.getElem?_eq_getElem h2]; rfl
  rw [e]
  have z : (ns[j] == k) = decide (ns[j] = k) := by
    by_cases q : ns[j] = k
    · rw [decide_eq_true q]; exact beq_iff_eq.mpr q
    · rw [decide_eq_false q]; exact beq_eq_false_iff_ne.mpr q
  rw [← z]
  exact SeqAt.EqAt.int_int _ _ _ _
theorem tixK (K : PySem.W.Frag) (h : X.K = K := by rfl) : MtR X "tuple.index" (rTix K) := h ▸ mt_tix
end
theorem filt_true {α : Type} (l : List α) : l.filter (fun _ => true) = l := List.filter_eq_self.mpr fun _ _ => rfl
/-- a loop by a measure that is carried along -/
theorem while_ms {c : TT} {tb : TS} {D : Ends} {σ : L2.St} {H : Hp} (W : Nat → L2.St → Hp → Prop) (n : Nat) (h0 : W n σ H)
    (hs : ∀ n σ H, W n σ H → c σ H fun b H1 => if b = true then tb { D with nx := fun σ' H' => ∃ n', n' < n ∧ W n' σ' H', ct := fun σ' H' => ∃ n', n' < n ∧ W n' σ' H', bk := D.nx } σ H1 else D.nx σ H1)
    (mono : ∀ σ H Q Q', (∀ b H1, Q b H1 → Q' b H1) → c σ H Q → c σ H Q') : tWhile c tb D σ H := by
  refine ⟨W, ⟨n, h0⟩, fun m σ H p => mono σ H _ _ (fun b H1 q => ?_) (hs m σ H p)⟩
  cases b with
  | true => exact ⟨_, fun σ' H' h => h, q⟩
  | false => exact q
/-! ### the state of the draws: cells, a count, what is left of great cells -/
structure Dw (H : Hp) (d r c : Addr) (n : Nat) : Prop where
  ex : ∃ (k : Nat) (cs rs : List Int), k ≤ n ∧ H d = some (.lst [.ref c, .int (k : Int), .ref r]) ∧ H c = some (.lst (cs.map V.int)) ∧ H r = some (.lst (rs.map V.int)) ∧
    c ≠ r ∧ 0 < cs.length ∧ rs.length = cs.length ∧ cs.length ≤ 63 ∧ (∀ z ∈ cs, 0 ≤ z) ∧ (∀ z ∈ rs, 0 ≤ z)
theorem ne_ints {H : Hp} {d c x : Addr} {vs : List V} {ns : List Int} (h1 : H d = some (.lst (.ref x :: vs))) (h2 : H c = some (.lst (ns.map V.int))) : d ≠ c := by
  intro e
  rw [e, h2] at h1
  cases ns with
  | nil => cases h1
  | cons z r => cases h1
theorem Dw.same {H H' : Hp} {d r c : Addr} {n : Nat} (h : Dw H d r c n) (e : Same H H') : Dw H' d r c n := by
  obtain ⟨k, cs, rs, hk, h1, h2, h3, h4⟩ := h.ex
  exact ⟨k, cs, rs, hk, e _ _ h1, e _ _ h2, e _ _ h3, h4⟩
theorem Dw.le {H : Hp} {d r c : Addr} {n m : Nat} (h : Dw H d r c n) (e : n ≤ m) : Dw H d r c m := by
  obtain ⟨k, cs, rs, hk, h4⟩ := h.ex
  exact ⟨k, cs, rs, Nat.le_trans hk e, h4⟩
theorem Dw.off {H : Hp} {d r c a : Addr} {n : Nat} (h : Dw H d r c n) (ha : H a = none) : a ≠ d ∧ a ≠ r ∧ a ≠ c := by
  obtain ⟨k, cs, rs, hk, h1, h2, h3, h4⟩ := h.ex
  exact ⟨fun z => (by rw [z, h1] at ha; cases ha), fun z => (by rw [z, h3] at ha; cases ha), fun z => (by rw [z, h2] at ha; cases ha)⟩
theorem Dw.put {H : Hp} {d r c a : Addr} {n : Nat} {o : HO} (h : Dw H d r c n) (e : a ≠ d ∧ a ≠ r ∧ a ≠ c) : Dw (upd H a o) d r c n := by
  obtain ⟨k, cs, rs, hk, h1, h2, h3, h4⟩ := h.ex
  exact ⟨k, cs, rs, hk, by rw [upd_ne e.1.symm]; exact h1, by rw [upd_ne e.2.2.symm]; exact h2, by rw [upd_ne e.2.1.symm]; exact h3, h4⟩
theorem Fm.ktw {K : PySem.W.Frag} {H H' : Hp} {d r c : Addr} {n : Nat} (e : Fm d r H H') (h : Dw H d r c n) : KT K H H' := by
  obtain ⟨k, cs, rs, hk, h1, h2, h3, h4⟩ := h.ex
  intro a xs q
  rcases q with (q | ⟨o, q⟩) | q
  · refine .inl (.inl (e _ _ (fun z => ?_) (fun z => ?_) q))
    · rw [z, h1] at q; cases q
    · rw [z, h3] at q; cases q
  · refine .inl (.inr ⟨o, e _ _ (fun z => ?_) (fun z => ?_) q⟩)
    · rw [z, h1] at q; cases q
    · rw [z, h3] at q; cases q
  · exact .inr q
theorem Fm.put1 {d l a : Addr} {H H' : Hp} {o : HO} (h : Fm d l H H') (ha : H a = none) : Fm d l H (upd H' a o) := fun b u n1 n2 e => by
  rw [upd_ne (ne_of_none e ha)]
  exact h b u n1 n2 e
theorem erase_prm {rs : List Int} {k : Nat} (h : k < rs.length) : (rs[k] :: rs.eraseIdx k).Perm rs := by
  induction rs generalizing k with
  | nil => exact absurd h (Nat.not_lt_zero _)
  | cons a r ih =>
    cases k with
    | zero => exact List.Perm.refl _
    | succ k =>
      have h' : k < r.length := by rw [List.length_cons] at h; omega
      exact (List.Perm.swap _ _ _).trans (List.Perm.cons a (ih h'))
theorem erase_mp : ∀ (rs : List Int) (k : Nat), (rs.map V.int).eraseIdx k = (rs.eraseIdx k).map V.int
  | [], _ => rfl
  | a :: r, 0 => rfl
  | a :: r, k + 1 => congrArg (V.int a :: ·) (erase_mp r k)
theorem modIn {x m : Int} (h : 0 < m) : 0 ≤ x % m ∧ x % m < m := ⟨Int.emod_nonneg x (by omega), Int.emod_lt_of_pos x h⟩
theorem rgVrng (m : Nat) : rgV 0 (m : Int) = (rng m).map V.int := by
  unfold rgV rng
  rw [List.map_map]
  have e : ((m : Int) - 0).toNat = m := by omega
  rw [e]
  refine List.map_congr_left fun i _ => ?_
  show V.int (0 + (i : Int)) = V.int (Int.ofNat i)
  rw [Int.zero_add]
  rfl
theorem decInt (a b : Int) : decide (V.int a = V.int b) = decide (a = b) := by
  by_cases h : a = b
  · subst h; simp
  · have : ¬ V.int a = V.int b := fun z => h (V.int.inj z)
    rw [decide_eq_false h, decide_eq_false this]
theorem cut63 {ns : List Int} (h : ns.length ≤ 63) : cutV (ns.map V.int) none (some 63) = ns.map V.int := by
  unfold cutV
  rw [HT.sIx_none, show HT.sIx (ns.map V.int).length (ns.map V.int).length (some 63) = min 63 (ns.map V.int).length from HT.sIx_nat _ _ 63]
  rw [List.drop_zero]
  exact List.take_of_length_le (by rw [List.length_map]; omega)
theorem shaped_forD (m : Nat) (es : List (Int × Int)) : SeqAt.shaped (forD m es) = true := by
  have h1 : ∀ l : List (Int × Int), PyData.depthAll (l.map prD) ≤ 1 := by
    intro l
    induction l with
    | nil => simp [PyData.depthAll]
    | cons p l ih =>
      simp only [List.map_cons, PyData.depthAll]
      exact Nat.max_le.mpr ⟨by simp [prD, PyData.depth, PyData.depthAll], ih⟩
  have h2 := h1 es
  have h : (forD m es).depth ≤ 64 := by
    simp only [forD, prsD, PyData.depth, PyData.depthAll]
    omega
  unfold SeqAt.shaped
  rw [decide_eq_true h, Bool.and_true]
  simp only [forD, prsD, PyData.canLay0, PyData.canLayAll0, lay_prs, Bool.and_self, Bool.and_true]
theorem idx_back {m : Nat} {ns : List Int} (h : ns.Perm (rng m)) {v : Int} (v0 : 0 ≤ v) (v1 : v < m) : nam ((rng m).map fun u => ((ns.idxOf u : Nat) : Int)) (nam ns v) = v := by
  have hn := nam_in h ⟨v0, v1⟩
  have nd : ns.Nodup := h.nodup_iff.mpr (rng_asc m).nodup
  have hl : v.toNat < ns.length := by rw [perm_len h]; omega
  have e1 : nam ns v = ns[v.toNat] := by
    unfold nam
    rw [List.getD_eq_getElem?_getD, List.getElem?_eq_getElem hl]
    rfl
  have e2 : (rng m)[(nam ns v).toNat]? = some (nam ns v) := by
    unfold rng
    rw [List.getElem?_map, List.getElem?_range (by omega)]
    show some (Int.ofNat (nam ns v).toNat) = _
    congr 1
    simp only [Int.ofNat_eq_natCast]
    omega
  have e3 : ns.idxOf (nam ns v) = v.toNat := by
    rw [e1]
    exact nd.idxOf_getElem _ hl
  show ((rng m).map fun u => ((ns.idxOf u : Nat) : Int)).getD (nam ns v).toNat 0 = v
  rw [List.getD_eq_getElem?_getD, List.getElem?_map, e2]
  show ((ns.idxOf (nam ns v) : Nat) : Int) = v
  rw [e3]
  omega
theorem nam_at {m : Nat} {ns : List Int} (h : ns.length = m) {v : Int} (v0 : 0 ≤ v) (v1 : v < m) : atI (ns.map V.int) v = some (.int (nam ns v)) := by
  have hl : v.toNat < ns.length := by omega
  refine at_of (j := v.toNat) (by omega) ?_
  unfold nam
  rw [List.getElem?_map, List.getD_eq_getElem?_getD, List.getElem?_eq_getElem hl]
  rfl
end TL
namespace TL
open PySem PySem.Spec PyProof.Rows L2
/-! ### methods of a tuple: the tuple is laid with its very object, so that it is known to have no dict -/
def rTupF (K : PySem.W.Frag) : List V → Hp → VK → Prop := fun xs H Q => ∃ p ys, xs = [.ref p] ∧ SqL K H p ys ∧
  ∀ l ob, H l = none → ob.dict = none → Q (.ref l) (upd H l (.frz ob (.tup ys)))
/-- the value is a tuple laid so -/
def FrzT (x : V) (H : Hp) : Prop := ∃ p ob xs, x = .ref p ∧ H p = some (.frz ob (.tup xs)) ∧ ob.dict = none
def tBMF (r : V → List V → Hp → VK → Prop) (to : TE) (t : TA) : TE := fun σ H Q => to σ H fun x G => FrzT x G ∧ t σ G fun ys G2 => r x ys G2 Q
section
variable {X : Cx}
theorem call_tupF : CallR X (.type "tuple") (rTupF X.K) := by
  intro pins s σ H xs us Q I rr ⟨p, ys, ex, hq, q⟩
  subst ex
  obtain ⟨u, eu, rx⟩ := vals1 rr
  subst eu
  cases rx
  obtain ⟨its, rv, pl, hz⟩ := I.list hq
  have ln := rv.length
  refine call_tuple_list pl.isList (fun G kp => ?_) (by rw [List.size_toArray]; omega)
  have J : Inv X pins σ H { s with heap := G } := I.kept (t' := s.toks) kp
  let ob : Obj := { cls := .type "tuple", data := .seq its.toArray }
  have at0 : (G.push ob).get? G.objs.size = some ob := Heap.get?_push_size _ rfl
  have new : ObjOk X.prog X.w (upd H G.objs.size (.frz ob (.tup ys))) (G.push ob) G.objs.size (.frz ob (.tup ys)) := ⟨at0, hz, its, rv, ob, at0, rfl, _, rfl⟩
  have J2 := J.laid (t' := s.toks) (h' := G.push ob) (fun b o e => Heap.get?_push_of_some _ e) (Nat.le_refl _) new
  exact ⟨.ref G.objs.size, _, J2, rfl, q _ ob (J.hok.fresh (Nat.le_refl _)) rfl⟩
theorem frz_is {pins : List (Addr × Obj)} {σ : L2.St} {H : Hp} {s : Shared} {x : V} {v : Value} (I : Inv X pins σ H s) (rx : RelV x v) (f : FrzT x H) :
    s.TypeIs v "tuple" ∧ ∀ a, v = .ref a → ∃ o, s.heap.get? a = some o ∧ o.dict = none := by
  obtain ⟨p, ob, xs, ex, hp, nd⟩ := f
  subst ex
  cases rx
  obtain ⟨g, _, its, _, o, ho, hc, _⟩ := I.hok p _ hp
  exact ⟨⟨o, ho, hc⟩, fun a e => by cases e; exact ⟨ob, g, nd⟩⟩
theorem pe_bmF {o e : Expr} {es : List Expr} {to : TE} {t : TA} {name : Str} {apos cpos : Pos} {id : String} {r : V → List V → Hp → VK → Prop}
    (slot : Slot "tuple" name id) (hty : typeOf (.builtin id) = pure (.type "method_descriptor")) (hm : MtR X id r) (ho : PE X o to) (ha : PA X (e :: es) t)
    (hbase : attributeBase o name X.env (eval o X.env) = eval o X.env := by rfl)
    (few : ((backTo cpos (starEach (e :: es) X.env)).all (fun z => !z.1) && (backToKw cpos (keywordEach [] X.env)).all (fun z => z.1.isSome)
      && decide ((e :: es).length + ([] : List Keyword).length + (if ([] : List Keyword).isEmpty then 0 else 1) < 30)) = true := by rfl)
    (hline : (apos.endLine == cpos.line) = true := by rfl) (hst : starEach (e :: es) X.env = (false, eval e X.env) :: starEach es X.env := by rfl)
    (hpl : (backTo cpos (starEach es X.env)).any (·.1) = false := by rfl) :
    PE X (.Call (.Attribute o name apos) (e :: es) [] cpos) (tBMF r to t) := by
  constructor
  intro pins s σ H Q I h
  refine wpAny_Call_method_late hbase few hline rfl (thn (ho.run pins s σ H _ I h) fun v s1 got => ?_)
  obtain ⟨x, H1, J, rx, fz, rest⟩ := got
  have ty := frz_is J rx fz
  refine ⟨"tuple", id, PySem.F.plainAttrs_tuple, slot, hty, ty.1, ty.2, ?_⟩
  have args := ha.run cpos pins s1 σ H1 _ J rest
  rw [hst] at args ⊢
  have noStar : ((false, eval e X.env) :: backTo cpos (starEach es X.env)).any (·.1) = false := by
    rw [List.any_cons, hpl]
    rfl
  refine Calls.callWith_builtin (by exact noStar) (Calls.evalArgs_plain (thn args fun us s2 got2 => ?_))
  obtain ⟨vs, H2, J2, r2, q2⟩ := got2
  exact hm pins s2 σ H2 x vs v us Q J2 rx r2 q2
theorem tupFK (K : PySem.W.Frag) (h : X.K = K := by rfl) : CallR X (.type "tuple") (rTupF K) := h ▸ call_tupF
end
theorem lay_forD (m : Nat) (es : List (Int × Int)) : (forD m es).canLay0 = true := by
  simp only [forD, prsD, PyData.canLay0, PyData.canLayAll0, lay_prs, Bool.and_self, Bool.and_true]
theorem frz_T {K : PySem.W.Frag} {H : Hp} {p : Addr} {ob : Obj} {xs : List V} (h : H p = some (.frz ob (.tup xs))) : SqT K H p xs := .inl (.inr ⟨ob, h⟩)
end TL
namespace TL
open PySem PySem.Spec PyProof.Rows L2
/-- a new object where nothing stood -/
theorem Inv.laidN {X : Cx} {pins : List (Addr × Obj)} {σ : L2.St} {H : Hp} {s : Shared} {h' : Heap} {a : Addr} {o : HO} {t' : Nat} (I : L2.Inv X pins σ H s) (k : ∀ b u, s.heap.get? b = some u → h'.get? b = some u) (hg : s.heap.get? a = none)
    (new : ObjOk X.prog X.w (upd H a o) h' a o) : L2.Inv X pins σ (upd H a o) { s with heap := h', toks := t' } := by
  have hn : H a = none := I.hok.gone hg
  refine I.un { keep := fun b u q _ _ _ => k b u q, slot := fun b u q _ _ _ => ⟨u.slots, k b u q⟩, free := fun b u q n _ => ?_, there := fun b u q _ => ⟨u, k b u q⟩, tups := fun b xs q => ?_, frzs := fun b u xs q => ?_, tbls := fun b ps q => ⟨#[], ?_⟩ } fun b u e => ?_
  · rw [upd_ne fun e => by rw [e, hg] at q; cases q]
    exact n
  · rw [upd_ne (ne_of_none q hn)]
    exact q
  · rw [upd_ne (ne_of_none q hn)]
    exact q
  · rw [upd_ne (ne_of_none q hn), q]
    simp
  · by_cases hb : b = a
    · subst hb
      rw [upd_same] at e
      cases e
      exact new
    · rw [upd_ne hb] at e
      exact (I.hok b u e).stay (fun c v _ q => k c v q) (fun c q => by rw [upd_ne (ne_of_none q hn)]; exact q) fun c xs q => by rw [upd_ne (ne_of_none q hn)]; exact q
/-! ### dicts whose keys are tuples of ints -/
section
variable {X : Cx}
/-- {k: v}, k a tuple -/
def tDisp1T (tk tv : TE) : TE := fun σ H Q => ∀ p, H p = none → tPairs [(tk, tv)] σ (upd H p (.dT [])) fun ps H2 => ∃ (b : Addr) (k : List Key) (y : V), ps = [(.ref b, y)] ∧ H2 p = some (.dT []) ∧ H2 b = some (.tup (k.map kV)) ∧ Q (.ref p) (upd H2 p (.dT [(k, y)]))
theorem pe_disp1T {pos : Pos} {k v : Expr} {tk tv : TE} (hu : X.A.units + 1 < cLine) (hk : PE X k tk) (hv : PE X v tv) : PE X (.Dict [some k] [v] pos) (tDisp1T tk tv) := by
  refine ⟨fun pins s σ H Q I q => ?_⟩
  have hn := I.hok.fresh (Nat.le_refl s.heap.objs.size)
  have I1 := I.laid (a := s.heap.objs.size) (o := .dT []) (h' := s.heap.push { cls := .type "dict", data := .dict #[] }) (t' := s.toks) (fun _ _ q => Heap.get?_push_of_some _ q) (Nat.le_refl _) (dt_empty s.heap I.big)
  have hp : PPs X pos [some k] [v] [(tk, tv)] := pps_cons hk hv pps_nil
  rw [arm_eval_Dict, zip_pairTrees [some k] [v] X.env pos rfl rfl, dictDisplay_pairs (pairTrees [some k] [v] X.env pos) (by intro z; cases z) (by show 1 < 17; decide)]
  refine wpAny_bind (wpAny_standAt (wpAny_bind (wpAny_subDictH (knd := tupleKind (mixKind X.prog X.w)) (Q := fun d s' => wpAny (model X.prog X.w) X.A (pure (Value.ref d)) (EP X pins σ Q) X.xe s') ?_ (by show 1 ≤ 15; decide) (thn (hp.run pins _ σ _ _ I1 (q _ hn)) fun ws s2 ⟨ps, H2, I2, rel, b, k', y, ep, e, eb, q2⟩ => ?_))))
  · show X.A.units < cLine
    omega
  · subst ep
    cases rel with
    | @cons _ w _ _ r1 r2 =>
      cases r2
      obtain ⟨u1, u2⟩ := w
      obtain ⟨ra, rb⟩ := r1
      cases ra
      obtain ⟨z, hd, xs, r0, dd⟩ := dt_of I2.hok e
      cases r0
      refine ⟨[(k', b, u2)], ⟨rfl, rfl, key_of I2.hok eb, trivial⟩, dd, fun h' tk dd' hs => wpAny_pure ⟨.ref s.heap.objs.size, _, ?_, rfl, q2⟩⟩
      obtain ⟨o, es, ep, hq, h2, h3, h4, _, h5⟩ := dd'
      refine d_write I2 (by rw [e]; exact True.intro) hs ⟨o, hq⟩ ⟨by show 1 ≤ sizeLine; decide, hd, [(k', b, u2)], .cons ⟨rfl, ?_, rb⟩ .nil, o, es, ep, hq, h2, h3, h4, h5⟩
      rw [upd_ne (ne_of eb e (fun z => nomatch z))]
      exact eb
end
/-! ### list.sort of rows of ints: none is empty, or there is one alone -/
section
open PySem.W
variable {prog : Program} {w : World} {A : Around} {E : Value → Shared → Prop} {s : Shared}
theorem allAlike_rows (bs : List (List Int)) : AllAlike (bs.map intsD) := by
  intro d hd e he
  obtain ⟨x, _, rfl⟩ := List.mem_map.mp hd
  obtain ⟨y, _, rfl⟩ := List.mem_map.mp he
  simp only [intsD, alike]
  exact alike_ints x y
theorem sortsAt_rows {vs : List Value} {bs : List (List Int)} (e : EachIs (fun v b => ∃ as, Reads s.heap v (intsD b) as) vs bs) (hk : (∀ b ∈ bs, b ≠ []) ∨ bs.length ≤ 1) (hu : A.units + 50 < cLine) : SortsAt prog w A s (dataKind s.heap (bs.map intsD)) vs := by
  have dep : ∀ b : List Int, (intsD b).depth ≤ 1 := fun b => by
    simp only [intsD, PyData.depth, dep_ints]
    decide
  have usual : (∀ b ∈ bs, b ≠ []) → SortsAt prog w A s (dataKind s.heap (bs.map intsD)) vs := fun hne =>
    SortsAt.data (each_map (R := fun v d => ∃ as, Reads s.heap v d as) intsD e) (allAlike_rows bs) (.inl fun d hd => by
      obtain ⟨x, hx, rfl⟩ := List.mem_map.mp hd
      cases x with
      | nil => exact absurd rfl (hne _ hx)
      | cons i r => exact ⟨_, _, rfl⟩) (fun d hd => by
      obtain ⟨x, hx, rfl⟩ := List.mem_map.mp hd
      have := dep x
      omega)
  rcases hk with hk | hk
  · exact usual hk
  · match bs, hk with
    | [], _ => exact usual fun _ z => nomatch z
    | [b], _ =>
      by_cases hb : b = []
      · subst hb
        have lv : vs.length = 1 := e.length
        refine ⟨fun v hv => ?_, tuples' true, ?_, fun h2 => absurd h2 (by omega)⟩
        · obtain ⟨b, hb, as, r⟩ := e.left v hv
          exact ⟨_, dataKind_some (allAlike_rows _) (List.mem_map.mpr ⟨b, hb, rfl⟩) r⟩
        · intro E x y a b Q ha hb hq
          obtain ⟨d, as, hd, ra, rfl⟩ := dataKind_inv ha
          obtain ⟨d', as', hd', rb, rfl⟩ := dataKind_inv hb
          obtain rfl : d = .tuple [] := List.mem_singleton.mp hd
          obtain rfl : d' = .tuple [] := List.mem_singleton.mp hd'
          have hq' : Q (dataLt (.tuple []) (.tuple [])) s := hq
          rw [dataLt_tuple] at hq'
          cases ra with
          | @tuple l o xs n _ _ h1 h2 h3 h4 =>
            cases rb with
            | @tuple l' o' xs' n' _ _ k1 k2 k3 k4 =>
              have n1 : xs.size = 0 := by simpa using SeqAt.ReadsAll.length _ _ _ h4
              have n2 : xs'.size = 0 := by simpa using SeqAt.ReadsAll.length _ _ _ k4
              refine kat_lt h1 h3 k1 k3 (katLex_alike [] [] 0 _ _ _ _ h4 k4 (by simp [alikeAll]) (by simp [PyData.depthAll]; omega) (fun _ _ x r t ex => nomatch ex) (by rw [n1, n2]; rfl) hq')
      · exact usual fun z hz => by rw [List.mem_singleton.mp hz]; exact hb
    | _ :: _ :: _, hk => exact absurd hk (by simp)
theorem sort_rows {R : Value → List Int → Prop} {a : Addr} {vs : List Value} {bs : List (List Int)} {n : Nat} {Q : Value → Shared → Prop} (ho : s.heap.get? a = some (seqObj "list" vs.toArray n)) (e : EachIs R vs bs)
    (er : EachIs (fun v b => ∃ as, Reads s.heap v (intsD b) as ∧ a ∉ as) vs bs) (hk : (∀ b ∈ bs, b ≠ []) ∨ bs.length ≤ 1) (hL : bs.length ≤ sizeLine) (hu : A.units + 60 < cLine)
    (h : ∀ out, out.length = bs.length → EachIs R out (bs.mergeSort (dataLe false intsD)) → Q .none { s with heap := sortedHeap s.heap a vs (List.toArray out) }) :
    wpAny (model prog w) A (call (.builtin "list.sort") [.ref a]) Q E s := by
  have er' : EachIs (fun v b => ∃ as, Reads (sortingHeap s.heap a vs) v (intsD b) as) vs bs := each_keepBut (h' := sortingHeap s.heap a vs) (fun _ _ hb q => sortingHeap_old hb q) (fun o q => by rw [ho] at q; rw [← Option.some.inj q]) (allAlike_rows _) er
  refine wpAny_call_entry slot_list_sort ⟨_, ho, rfl⟩ entry_list_sort (list_sort_vals (κ := dataKind (sortingHeap s.heap a vs) (bs.map intsD)) ho (sortsAt_rows (s := { s with heap := sortingHeap s.heap a vs }) er' hk (by show A.units + 1 + 50 < cLine; omega)) (by rw [e.length]; exact hL) ⟨.none, rfl, ?_⟩) (args_list_sort _)
  exact h _ (by rw [sortVals_length false rfl]; exact e.length) (sortVals_data false e er' (allAlike_rows _))
theorem sorted_rows {R : Value → List Int → Prop} {l : Addr} {vs : List Value} {bs : List (List Int)} {Q : Value → Shared → Prop} (hl : s.heap.IsList l vs.toArray) (e : EachIs R vs bs)
    (er : EachIs (fun v b => ∃ as, Reads s.heap v (intsD b) as) vs bs) (hk : (∀ b ∈ bs, b ≠ []) ∨ bs.length ≤ 1) (hL : bs.length ≤ sizeLine) (hu : A.units + 60 < cLine)
    (h : ∀ out, out.length = bs.length → EachIs R out (bs.mergeSort (dataLe false intsD)) → Q (.ref (s.heap.objs.size + 1)) { s with heap := sortedAll s.heap vs (List.toArray out) }) :
    wpAny (model prog w) A (call (.builtin "sorted") [.ref l]) Q E s := by
  have er' : EachIs (fun v b => ∃ as, Reads (sortingHeap (copyHeap s.heap vs) (s.heap.objs.size + 1) vs) v (intsD b) as) vs bs := er.mono fun _ _ ⟨as, r⟩ => ⟨as, PyProof.Rows.Reads.keeps (fun _ _ => sorting_copy_old) r⟩
  exact sorted_vals hl (sortsAt_rows (s := { s with heap := sortingHeap (copyHeap s.heap vs) (s.heap.objs.size + 1) vs }) er' hk (by show A.units + 1 + 1 + 50 < cLine; omega)) (by rw [e.length]; exact hL)
    (h _ (by rw [sortVals_length false rfl]; exact e.length) (sortVals_data false e er' (allAlike_rows _)))
end
/-! ### sorted, of such rows in a list, in a dict -/
@[irreducible] def rSortRows (K : PySem.W.Frag) : List V → Hp → VK → Prop := fun vs H Q => ∃ (bs : List (List Int)) (a : Addr) (xs : List V), vs = [.ref a] ∧ SqL K H a xs ∧ DpAll K H xs (bs.map intsD) ∧ ((∀ b ∈ bs, b ≠ []) ∨ bs.length ≤ 1) ∧ bs.length ≤ 5000 ∧
  ∀ p ys, H p = none → DpAll K H ys ((bs.mergeSort (PySem.W.dataLe false intsD)).map intsD) → Q (.ref p) (upd H p (.lst ys))
def kI (r : List Int) : List Key := r.map Sum.inl
theorem kI_kV (r : List Int) : (kI r).map kV = r.map V.int := by
  unfold kI
  rw [List.map_map]
  rfl
theorem kI_inj {r q : List Int} (h : kI r = kI q) : r = q := by
  unfold kI at h
  exact List.map_inj_right (fun a b e => Sum.inl.inj e) |>.mp h
/-- a dict of ints by rows -/
def KD (kvs : List (List Key × V)) (bs : List (List Int)) : Prop := kvs.map (·.1) = bs.map kI ∧ ∀ kv ∈ kvs, ∃ i : Int, kv.2 = .int i
@[irreducible] def rSortDT (K : PySem.W.Frag) : List V → Hp → VK → Prop := fun vs H Q => ∃ (kvs : List (List Key × V)) (bs : List (List Int)) (a : Addr), vs = [.ref a] ∧ H a = some (.dT kvs) ∧ kvs.map (·.1) = bs.map kI ∧ ((∀ b ∈ bs, b ≠ []) ∨ bs.length ≤ 1) ∧ bs.length ≤ 5000 ∧
  ∀ p ys, H p = none → DpAll K H ys ((bs.mergeSort (PySem.W.dataLe false intsD)).map intsD) → Q (.ref p) (upd H p (.lst ys))
section
variable {X : Cx}
theorem cr_sortRows (hu : X.A.units + 64 < cLine) : CallR X (.builtin "sorted") (rSortRows X.K) := by
  intro pins s σ H vs us Q I r h
  unfold rSortRows at h
  obtain ⟨bs, a, xs, rfl, hs, ha, so, hl5, q⟩ := h
  cases r with
  | cons r1 r2 =>
    cases r2
    rename_i u
    obtain rfl : u = Value.ref a := r1
    obtain ⟨its, rv, hl, hz⟩ := I.list hs
    have e1 := each_of intsD rv ha
    have lb : xs.length = bs.length := by rw [DpAll.length ha, List.length_map]
    have e2 : PySem.W.EachIs (fun v b => ∃ as, Reads s.heap v (intsD b) as) its bs :=
      e1.mono fun u b ⟨x, rx, hx⟩ => Dp.reads I _ x u hx rx
    refine sorted_rows hl.isList e1 e2 so (by omega) (by omega) fun out hlen eo => ?_
    obtain ⟨ys, ry, dy⟩ := of_each intsD eo
    obtain ⟨c, hc⟩ := PyProof.Rows.sortedAll_at s.heap its out.toArray
    have fr : H (s.heap.objs.size + 1) = none := I.hok.fresh (Nat.le_succ _)
    refine ⟨.ref (s.heap.objs.size + 1), upd H (s.heap.objs.size + 1) (.lst ys), I.laid (t' := s.toks) (fun _ _ => PyProof.Rows.sortedAll_old) (Nat.le_succ _) ?_, rfl, q _ ys fr dy⟩
    exact ⟨by have := ry.length; omega, out, c, ry, hc⟩
theorem reads_vals {h : Heap} : ∀ {r : List Int} {its : List Value}, Vals (r.map V.int) its → ReadsAll h its (r.map .int) []
  | [], _, h => by cases h; exact .nil
  | n :: r, _, h => by
    rw [List.map_cons] at h
    cases h with
    | cons h1 h2 =>
      obtain ⟨t, rfl⟩ := h1
      exact ReadsAll.cons (as := []) (bs := []) (.int n t) (reads_vals h2)
theorem each_keys {P : Program} {w : World} {K : PySem.W.Frag} {H : Hp} : ∀ {kvs : List (List Key × V)} {ks : List (List Key × Addr × Value)} {bs : List (List Int)},
    Paired (fun (p : List Key × V) (q : List Key × Addr × Value) => p.1 = q.1 ∧ H q.2.1 = some (.tup (p.1.map kV)) ∧ RelV p.2 q.2.2) kvs ks → kvs.map (·.1) = bs.map kI →
    PySem.W.EachIs (fun (u : Value) (b : List Int) => ∃ a, u = Value.ref a ∧ H a = some (.tup (b.map V.int))) (ks.map fun x => Value.ref x.2.1) bs
  | [], _, bs, p, e => by
    cases p
    cases bs with
    | nil => exact .nil
    | cons _ _ => cases e
  | kv :: kvs, _, bs, p, e => by
    cases p with
    | cons h1 h2 =>
      cases bs with
      | nil => cases e
      | cons b bs =>
        rw [List.map_cons, List.map_cons] at e
        injection e with e1 e2
        refine .cons ⟨_, rfl, ?_⟩ (each_keys (P := P) (w := w) (K := K) h2 e2)
        have h := h1.2.1
        rw [e1, kI_kV] at h
        exact h
theorem cr_sortDT (hc : X.calm = true) (hu : X.A.units + 64 < cLine) : CallR X (.builtin "sorted") (rSortDT X.K) := by
  intro pins s σ H vs us Q I r h
  unfold rSortDT at h
  obtain ⟨kvs, bs, a, rfl, ha, hkb, so, hl5, q⟩ := h
  obtain ⟨u, rfl, rx⟩ := r.one
  cases rx
  obtain ⟨z, hs, ks, pr, o, es, ep, ho, hx, hdt, he, hn⟩ := (show ObjOk X.prog X.w H s.heap a (.dT kvs) from I.hok a _ ha)
  have l1 : es.size = ks.length := size_of_entries he
  have l2 : kvs.length = ks.length := Paired.length pr
  have lb : ks.length = bs.length := by
    have := congrArg List.length hkb
    rw [List.length_map, List.length_map] at this
    omega
  refine Calls.call_function_entry kind_sorted plain_sorted entry_sorted (args_sorted1 _) ?_
  unfold Builtin.«sorted»
  refine wpAny_bind (m := checkCount "sorted" 1 1 _) (wpAny_pure ?_)
  refine wpAny_bind (PySem.W.kdu_collect (A := X.A.in1) (kdl_raw hs hx hdt) (I.ok.hd hc) ho (by omega) fun h' tk acc kp it => ?_)
  have ea : acc.toList = ks.map fun x => Value.ref x.2.1 := by
    have hl : acc.toList.length = ks.length := by rw [Array.length_toList, it.1]; exact l1
    apply List.ext_getElem?
    intro j
    rw [List.getElem?_map]
    cases hj : acc.toList[j]? with
    | none =>
      have h1 := List.getElem?_eq_none_iff.mp hj
      rw [List.getElem?_eq_none (by omega)]
      all_goals rfl
    | some v =>
      obtain ⟨en, hen, hv⟩ := it.2 j v (by rw [← Array.getElem?_toList]; exact hj)
      have qe := entry_at he j
      rw [hen] at qe
      cases hb : ks[j]? with
      | none =>
        rw [hb] at qe
        exact nomatch (show some en = none from qe)
      | some b =>
        rw [hb] at qe
        have e2 : en = entryOfKey (tupleKind (mixKind X.prog X.w)) b := Option.some.inj qe
        rw [hv, e2]
        all_goals rfl
  have ek := each_keys (P := X.prog) (w := X.w) (K := X.K) pr hkb
  rw [← ea] at ek
  generalize hL : acc.toList = L1 at ek
  have lL : L1.length = bs.length := ek.length
  refine wpAny_bind (wpAny_newList ?_ (by rw [sizeLine_eq]; omega))
  have hoL : (h'.push (seqObj "list" L1.toArray 0)).get? h'.objs.size = some (seqObj "list" L1.toArray 0) := Heap.get?_push_size _ rfl
  have e1 : PySem.W.EachIs (fun (u : Value) (b : List Int) => ∃ x, RelV x u ∧ Dp X.K H x (intsD b)) L1 bs := ek.mono fun u b ⟨a, eu, hb⟩ => ⟨.ref a, eu, Dp.ints (SqT.of hb)⟩
  have e2 : PySem.W.EachIs (fun (u : Value) (b : List Int) => ∃ as, Reads (h'.push (seqObj "list" L1.toArray 0)) u (intsD b) as ∧ h'.objs.size ∉ as) L1 bs := ek.mono fun u b ⟨a, eu, hb⟩ => by
    subst eu
    obtain ⟨_, its, rv, oq, hoq, hcq, n, hdq⟩ := (show ObjOk X.prog X.w H s.heap a (.tup (b.map V.int)) from I.hok a _ hb)
    exact ⟨[], .tuple (Heap.get?_push_of_some _ (kp _ _ hoq)) hcq hdq (reads_vals (by simpa using rv)), fun z => nomatch z⟩
  refine wpAny_bind (wpAny_holding (sort_rows (A := X.A.in1) (s := { s with heap := h'.push (seqObj "list" L1.toArray 0), toks := tk }) hoL e1 e2 so (by rw [sizeLine_eq]; omega) (by show X.A.units + 1 + 60 < cLine; omega) fun out ho2 eo => ?_))
  obtain ⟨ys, ry, dy⟩ := of_each intsD eo
  obtain ⟨c, hc2⟩ := sortedHeap_at (vs := L1) (out := out.toArray) hoL
  have hz : s.heap.get? h'.objs.size = none := by
    cases e : s.heap.get? h'.objs.size with
    | none => rfl
    | some u => exact absurd (Heap.lt_size (kp _ _ e)) (Nat.lt_irrefl _)
  have hnn : H h'.objs.size = none := I.hok.gone hz
  have hq : ∀ b o, s.heap.get? b = some o → (sortedHeap (h'.push (seqObj "list" L1.toArray 0)) h'.objs.size L1 out.toArray).get? b = some o := fun b u e => by
    have q := kp b u e
    have hlt := Heap.lt_size q
    rw [sortedHeap_old (Nat.ne_of_lt hlt) (by rw [size_push']; exact Nat.lt_succ_of_lt hlt)]
    exact Heap.get?_push_of_some _ q
  have hlen : ys.length ≤ sizeLine := by rw [ry.length, ho2, sizeLine_eq]; omega
  have J : L2.Inv X pins σ (upd H h'.objs.size (.lst ys)) { s with heap := sortedHeap (h'.push (seqObj "list" L1.toArray 0)) h'.objs.size L1 out.toArray, toks := tk } := Inv.laidN I hq hz ⟨hlen, out, c, ry, hc2⟩
  exact wpAny_pure ⟨_, rfl, ⟨.ref h'.objs.size, _, J, rfl, q _ ys hnn dy⟩⟩
end
section
variable {X : Cx}
theorem sortRowsK (K : PySem.W.Frag) (hu : X.A.units + 64 < cLine) (h : X.K = K := by rfl) : CallR X (.builtin "sorted") (rSortRows K) := h ▸ cr_sortRows hu
theorem sortDTK (K : PySem.W.Frag) (hu : X.A.units + 64 < cLine) (hc : X.calm = true := by rfl) (h : X.K = K := by rfl) : CallR X (.builtin "sorted") (rSortDT K) := h ▸ cr_sortDT hc hu
end
/-! ### looking up rows -/
theorem KD.val {kvs : List (List Key × V)} {bs : List (List Int)} (h : KD kvs bs) (r : List Int) : (r ∈ bs ∧ ∃ i : Int, valV kvs (kI r) = some (.int i)) ∨ (r ∉ bs ∧ valV kvs (kI r) = none) := by
  obtain ⟨h1, h2⟩ := h
  induction kvs generalizing bs with
  | nil =>
    cases bs with
    | nil => exact .inr ⟨(fun z => nomatch z), rfl⟩
    | cons _ _ => cases h1
  | cons p kvs ih =>
    cases bs with
    | nil => cases h1
    | cons b bs =>
      rw [List.map_cons, List.map_cons] at h1
      injection h1 with e1 e2
      obtain ⟨i, hi⟩ := h2 p List.mem_cons_self
      by_cases e : b = r
      · subst e
        exact .inl ⟨List.mem_cons_self, i, by rw [valV_pos e1, hi]⟩
      · have e' : ¬ p.1 = kI r := fun z => e (kI_inj (e1.symm.trans z))
        rw [valV_neg e']
        rcases ih e2 (fun kv hkv => h2 kv (List.mem_cons_of_mem _ hkv)) with ⟨m, j⟩ | ⟨m, j⟩
        · exact .inl ⟨List.mem_cons_of_mem _ m, j⟩
        · exact .inr ⟨fun z => (List.mem_cons.mp z).elim (fun z => e z.symm) m, j⟩
theorem KD.put {kvs : List (List Key × V)} {bs : List (List Int)} (h : KD kvs bs) {r : List Int} (n : r ∉ bs) (i : Int) : KD (putK kvs (kI r) (.int i)) (bs ++ [r]) := by
  have e : valV kvs (kI r) = none := by
    rcases h.val r with ⟨m, _⟩ | ⟨_, e⟩
    · exact absurd m n
    · exact e
  rw [putK_new _ e]
  refine ⟨?_, fun kv hkv => ?_⟩
  · rw [List.map_append, List.map_append, h.1]
    rfl
  · rcases List.mem_append.mp hkv with z | z
    · exact h.2 kv z
    · rw [List.mem_singleton.mp z]
      exact ⟨i, rfl⟩
theorem KD.len {kvs : List (List Key × V)} {bs : List (List Int)} (h : KD kvs bs) : kvs.length = bs.length := by
  have := congrArg List.length h.1
  rw [List.length_map, List.length_map] at this
  exact this
theorem KD.one (r : List Int) (i : Int) : KD [(kI r, .int i)] [r] := ⟨rfl, fun kv h => by rw [List.mem_singleton.mp h]; exact ⟨i, rfl⟩⟩
theorem IsKeys.rows {K : PySem.W.Frag} {H : Hp} : ∀ {kvs : List (List Key × V)} {as : List Addr} {bs : List (List Int)}, IsKeys H kvs as → kvs.map (·.1) = bs.map kI → DpAll K H (as.map V.ref) (bs.map intsD)
  | [], _, bs, p, e => by
    cases p
    cases bs with
    | nil => exact .nil
    | cons _ _ => cases e
  | kv :: kvs, _, bs, p, e => by
    cases p with
    | cons h1 h2 =>
      cases bs with
      | nil => cases e
      | cons b bs =>
        rw [List.map_cons, List.map_cons] at e
        injection e with e1 e2
        rw [e1, kI_kV] at h1
        exact .cons (Dp.ints (SqT.of h1)) (IsKeys.rows h2 e2)
end TL
namespace TL
open PySem PySem.Spec PyProof.Rows L2
/-! ### sorted(d): the keys themselves -/
def rSortDT2 : List V → Hp → VK → Prop := fun vs H Q => ∃ (kvs : List (List Key × V)) (bs : List (List Int)) (a : Addr), vs = [.ref a] ∧ H a = some (.dT kvs) ∧ kvs.map (·.1) = bs.map kI ∧ ((∀ b ∈ bs, b ≠ []) ∨ bs.length ≤ 1) ∧ bs.length ≤ 5000 ∧
  ∀ p ys, H p = none → (∀ y ∈ ys, ∃ b r, y = .ref b ∧ r ∈ bs ∧ H b = some (.tup (r.map V.int))) → ys.length = bs.length → Q (.ref p) (upd H p (.lst ys))
theorem refs_of {H : Hp} : ∀ {us : List Value} {bs : List (List Int)}, PySem.W.EachIs (fun (u : Value) (b : List Int) => ∃ a, u = Value.ref a ∧ H a = some (.tup (b.map V.int))) us bs → ∃ ys : List V, Vals ys us ∧ ∀ y ∈ ys, ∃ b r, y = .ref b ∧ r ∈ bs ∧ H b = some (.tup (r.map V.int))
  | _, _, .nil => ⟨[], .nil, (fun _ h => nomatch h)⟩
  | _, _, .cons ⟨a, e, h⟩ t => by
    obtain ⟨ys, h1, h2⟩ := refs_of t
    subst e
    refine ⟨.ref a :: ys, .cons rfl h1, fun y hy => ?_⟩
    rcases List.mem_cons.mp hy with rfl | hy
    · exact ⟨a, _, rfl, List.mem_cons_self, h⟩
    · obtain ⟨b, r, e1, e2, e3⟩ := h2 y hy
      exact ⟨b, r, e1, List.mem_cons_of_mem _ e2, e3⟩
section
variable {X : Cx}
theorem cr_sortDT2 (hc : X.calm = true) (hu : X.A.units + 64 < cLine) : CallR X (.builtin "sorted") rSortDT2 := by
  intro pins s σ H vs us Q I r h
  unfold rSortDT2 at h
  obtain ⟨kvs, bs, a, rfl, ha, hkb, so, hl5, q⟩ := h
  obtain ⟨u, rfl, rx⟩ := r.one
  cases rx
  obtain ⟨z, hs, ks, pr, o, es, ep, ho, hx, hdt, he, hn⟩ := (show ObjOk X.prog X.w H s.heap a (.dT kvs) from I.hok a _ ha)
  have l1 : es.size = ks.length := size_of_entries he
  have l2 : kvs.length = ks.length := Paired.length pr
  have lb : ks.length = bs.length := by
    have := congrArg List.length hkb
    rw [List.length_map, List.length_map] at this
    omega
  refine Calls.call_function_entry kind_sorted plain_sorted entry_sorted (args_sorted1 _) ?_
  unfold Builtin.«sorted»
  refine wpAny_bind (m := checkCount "sorted" 1 1 _) (wpAny_pure ?_)
  refine wpAny_bind (PySem.W.kdu_collect (A := X.A.in1) (kdl_raw hs hx hdt) (I.ok.hd hc) ho (by omega) fun h' tk acc kp it => ?_)
  have ea : acc.toList = ks.map fun x => Value.ref x.2.1 := by
    have hl : acc.toList.length = ks.length := by rw [Array.length_toList, it.1]; exact l1
    apply List.ext_getElem?
    intro j
    rw [List.getElem?_map]
    cases hj : acc.toList[j]? with
    | none =>
      have h1 := List.getElem?_eq_none_iff.mp hj
      rw [List.getElem?_eq_none (by omega)]
      all_goals rfl
    | some v =>
      obtain ⟨en, hen, hv⟩ := it.2 j v (by rw [← Array.getElem?_toList]; exact hj)
      have qe := entry_at he j
      rw [hen] at qe
      cases hb : ks[j]? with
      | none =>
        rw [hb] at qe
        exact nomatch (show some en = none from qe)
      | some b =>
        rw [hb] at qe
        have e2 : en = entryOfKey (tupleKind (mixKind X.prog X.w)) b := Option.some.inj qe
        rw [hv, e2]
        all_goals rfl
  have ek := each_keys (P := X.prog) (w := X.w) (K := X.K) pr hkb
  rw [← ea] at ek
  generalize hL : acc.toList = L1 at ek
  have lL : L1.length = bs.length := ek.length
  refine wpAny_bind (wpAny_newList ?_ (by rw [sizeLine_eq]; omega))
  have hoL : (h'.push (seqObj "list" L1.toArray 0)).get? h'.objs.size = some (seqObj "list" L1.toArray 0) := Heap.get?_push_size _ rfl
  have e1 := ek
  have e2 : PySem.W.EachIs (fun (u : Value) (b : List Int) => ∃ as, Reads (h'.push (seqObj "list" L1.toArray 0)) u (intsD b) as ∧ h'.objs.size ∉ as) L1 bs := ek.mono fun u b ⟨a, eu, hb⟩ => by
    subst eu
    obtain ⟨_, its, rv, oq, hoq, hcq, n, hdq⟩ := (show ObjOk X.prog X.w H s.heap a (.tup (b.map V.int)) from I.hok a _ hb)
    exact ⟨[], .tuple (Heap.get?_push_of_some _ (kp _ _ hoq)) hcq hdq (reads_vals (by simpa using rv)), fun z => nomatch z⟩
  refine wpAny_bind (wpAny_holding (sort_rows (A := X.A.in1) (s := { s with heap := h'.push (seqObj "list" L1.toArray 0), toks := tk }) hoL e1 e2 so (by rw [sizeLine_eq]; omega) (by show X.A.units + 1 + 60 < cLine; omega) fun out ho2 eo => ?_))
  obtain ⟨ys, ry, ty⟩ := refs_of eo
  obtain ⟨c, hc2⟩ := sortedHeap_at (vs := L1) (out := out.toArray) hoL
  have hz : s.heap.get? h'.objs.size = none := by
    cases e : s.heap.get? h'.objs.size with
    | none => rfl
    | some u => exact absurd (Heap.lt_size (kp _ _ e)) (Nat.lt_irrefl _)
  have hnn : H h'.objs.size = none := I.hok.gone hz
  have hq : ∀ b o, s.heap.get? b = some o → (sortedHeap (h'.push (seqObj "list" L1.toArray 0)) h'.objs.size L1 out.toArray).get? b = some o := fun b u e => by
    have q := kp b u e
    have hlt := Heap.lt_size q
    rw [sortedHeap_old (Nat.ne_of_lt hlt) (by rw [size_push']; exact Nat.lt_succ_of_lt hlt)]
    exact Heap.get?_push_of_some _ q
  have hlen : ys.length ≤ sizeLine := by rw [ry.length, ho2, sizeLine_eq]; omega
  have J : L2.Inv X pins σ (upd H h'.objs.size (.lst ys)) { s with heap := sortedHeap (h'.push (seqObj "list" L1.toArray 0)) h'.objs.size L1 out.toArray, toks := tk } := Inv.laidN I hq hz ⟨hlen, out, c, ry, hc2⟩
  exact wpAny_pure ⟨_, rfl, ⟨.ref h'.objs.size, _, J, rfl, q _ ys hnn (fun y hy => by
    obtain ⟨b, r, e1, e2, e3⟩ := ty y hy
    exact ⟨b, r, e1, (List.mergeSort_perm _ _).mem_iff.mp e2, e3⟩) (by rw [ry.length, ho2])⟩⟩
theorem sortDT2K (hu : X.A.units + 64 < cLine) (hc : X.calm = true := by rfl) : CallR X (.builtin "sorted") rSortDT2 := cr_sortDT2 hc hu
end
end TL
namespace TL
open PySem PySem.Spec PyProof.Rows L2
/-! ### name, *rest = a tuple -/
theorem walks_from {prog : Program} {w : World} {A : Around} (hh : A.handled = none) (I ax : Addr) (hne : ax ≠ I) (items : Array Value) (k : Nat) (hk : k ≤ items.size) :
    Walks prog w A I [I, ax] [I] (items.size - k) (fun i v => items[k + i]? = some v) (fun i h => h.IsTupleIter I ax (k + i) ∧ h.IsTuple ax items) where
  sub := fun b hb => by simp at hb; simp [hb]
  frame := fun _ _ _ st hk => ⟨st.1.at fun o e => hk I (by simp) o e, st.2.at fun o e => hk ax (by simp) o e⟩
  item := fun i s Q E hi st hQ => by
    have hlt : k + i < items.size := by omega
    refine wpAny_pyNext_tuple_item st.1 st.2 (x := items[k + i]) (by simp [hlt]) fun h' hit' hs' => ?_
    exact hQ _ h' s.toks (by simp [hlt]) ⟨hit', st.2.extBut hs'.extBut hne⟩ fun b o hb e => hs'.extBut b o (fun h => hb (by simp [h])) e
  done := fun s Q E st hQ => wpAny_pyNext_tuple_end hh st.1 st.2 (by
    rw [show k + (items.size - k) = items.size by omega]
    simp) fun h' he' => hQ h' s.toks fun b o hb e => he' b o (fun h => hb (by simp [h])) e
  self := fun _ _ _ _ st hQ => wpAny_pyIter_tupleiter st.1 hQ
section
variable {prog : Program} {w : World} {A : Around} {E : Value → Shared → Prop} {s : Shared}
theorem moved_state {s s' : Shared} {wr : List Addr} (m : Moved wr (fun a b => b = a) s s') : ∃ h' tk, s' = { s with heap := h', toks := tk } ∧ ∀ b o, b ∉ wr → s.heap.get? b = some o → h'.get? b = some o := by
  refine ⟨s'.heap, s'.toks, ?_, fun b o hb e => m.heap b o hb e⟩
  obtain ⟨hp, g, d, tk, os⟩ := s'
  have h1 : g = s.gens := m.gens
  have h2 : d = s.drawn := m.drawn
  have h3 : os = s.os := m.os
  subst h1
  subst h2
  subst h3
  rfl
theorem unpack_star1 {t : Addr} {items : Array Value} {Q : List Value → Shared → Prop} (hh : A.handled = none) (ht : s.heap.IsTuple t items) (h0 : 0 < items.size) (hz : items.size ≤ sizeLine)
    (hQ : ∀ (h' : Heap) (tk : Nat), (∀ b o, s.heap.get? b = some o → h'.get? b = some o) → Q [items[0], .ref h'.objs.size] { s with heap := h'.push { cls := .type "list", data := .seq (items.toList.drop 1).toArray }, toks := tk }) :
    wpAny (model prog w) A (unpackItems (.ref t) 2 (some 1)) Q E s := by
  have hlt : t ≠ s.heap.objs.size := by obtain ⟨o, ho, _⟩ := ht; exact Nat.ne_of_lt (Heap.lt_size ho)
  have hltt : t < s.heap.objs.size := by obtain ⟨o, ho, _⟩ := ht; exact Heap.lt_size ho
  unfold unpackItems
  refine wpAny_bind ?_
  · unfold notIterableAtAll
    refine wpAny_bind (wpAny_specialOf ht.typeIs F.slot_tuple_iter.lookup ?_)
    refine wpAny_pure ?_
    simp only [Bool.false_eq_true, if_false]
    refine wpAny_bind (wpAny_holding (wpAny_pyIter_tuple ht ?_))
    refine wpAny_bind (wpAny_holding (wpAny_draw_tuple hlt 1 0 _ _ ⟨_, Heap.get?_push_size _ rfl, rfl, rfl⟩ (ht.push _) (by omega) fun h₁ hit₁ hs₁ => ?_))
    have e1 : (items.toList.drop 0).take 1 = [items[0]] := by
      rw [List.drop_zero]
      have hl : 0 < items.toList.length := by simpa using h0
      rw [List.take_one, List.head?_eq_getElem?, List.getElem?_eq_getElem hl]
      simp
    rw [e1]
    rw [if_neg (by simp)]
    have ht₁ : h₁.IsTuple t items := (ht.push _).extBut hs₁.extBut hlt
    have W := (walks_from (prog := prog) (w := w) (A := A.in1) hh s.heap.objs.size t hlt items 1 h0).toS
    have sz1 : s.heap.objs.size < h₁.objs.size := by
      obtain ⟨o, ho, _⟩ := hit₁
      exact Heap.lt_size ho
    have ht₁l : t < h₁.objs.size := by
      obtain ⟨o, ho, _⟩ := ht₁
      exact Heap.lt_size ho
    refine wpAny_bind (wpAny_holding (wpAny_collect_iter (T := "tuple_iterator") (by simp) W (fun i s' st => st.1.typeIs) ⟨hit₁, ht₁⟩ (fun b hb => ?_) (by simp) (fun s' acc m ia => ?_) (by omega)))
    · simp at hb
      rcases hb with rfl | rfl
      · exact sz1
      · exact ht₁l
    obtain ⟨h₂, tk, rfl, k2⟩ := moved_state m
    have ea : acc.toList = items.toList.drop 1 := by
      refine List.ext_getElem? fun j => ?_
      rw [List.getElem?_drop]
      by_cases hj : j < acc.size
      · have e := ia.2 j acc[j] (by simp [hj])
        have e2 : items.toList[1 + j]? = some acc[j] := by simpa using e
        rw [e2]
        simp [hj]
      · have hs := ia.1
        rw [List.getElem?_eq_none (by simpa using Nat.le_of_not_lt hj), List.getElem?_eq_none (by simp; omega)]
    rw [ea]
    have ln : (items.toList.drop 1).length = items.size - 1 := by simp
    simp only [show 2 - 1 - 1 = 0 from rfl, Nat.not_lt_zero, if_false, Nat.sub_zero, List.take_length, List.drop_length]
    refine wpAny_bind (wpAny_newList ?_ (by rw [ln]; omega))
    refine wpAny_pure ?_
    show Q ([items[0]] ++ [Value.ref h₂.objs.size] ++ []) _
    refine hQ h₂ tk (fun b o e => ?_)
    · have nb : b ≠ s.heap.objs.size := Nat.ne_of_lt (Heap.lt_size e)
      exact k2 b o (by simpa using nb) (hs₁.extBut b o nb (Heap.get?_push_of_some _ e))
end
section
variable {X : Cx} {pos : Pos}
def gTupS (K : PySem.W.Frag) (t : TGs) : TG := fun v σ H Q => ∃ (a : Addr) (x : V) (xs : List V), v = .ref a ∧ SqT K H a (x :: xs) ∧ ∀ L, H L = none → t [x, .ref L] σ (upd H L (.lst xs)) Q
theorem pg_tupS {es : List Expr} {k : Nat} {t : TGs} (hc : X.calm = true) (h : PGs X es t)
    (hn : (assignEach es X.env).length = 2 := by rfl) (hst : (assignEach es X.env).findIdx? (·.1) = some 1 := by rfl) : PG X (.Tuple es k pos) (gTupS X.K t) := by
  refine ⟨fun pins s σ H v u Q I r hw => ?_⟩
  obtain ⟨a, x, xs, e1, hq, hw⟩ := hw
  subst e1
  cases r
  obtain ⟨its, rv, ht, hz⟩ := I.tuple hq
  obtain ⟨ux, us, rfl, rx, rxs⟩ : ∃ ux us, its = ux :: us ∧ RelV x ux ∧ Vals xs us := by
    cases rv with
    | cons rx rxs => exact ⟨_, _, rfl, rx, rxs⟩
  · rw [arm_assign_Tuple]
    refine wpAny_bind (wpAny_standAt ?_)
    unfold unpack
    rw [hn, hst]
    have lz : (ux :: us).toArray.size ≤ sizeLine := by
      have := rxs.length
      rw [List.length_cons] at hz
      rw [List.size_toArray, List.length_cons]
      omega
    refine wpAny_bind (wpAny_holding (unpack_star1 (I.ok.hd hc) ht (by simp) lz fun h' tk kp => ?_))
    have I1 : Inv X pins σ H { s with heap := h', toks := tk } := I.kept kp
    have zl : xs.length ≤ sizeLine := by
      rw [List.length_cons] at hz
      omega
    have I2 := I1.laid (a := h'.objs.size) (o := .lst xs) (h' := h'.push { cls := .type "list", data := .seq us.toArray }) (t' := tk) (fun b u e => Heap.get?_push_of_some _ e) (Nat.le_refl _) ⟨zl, us, 0, rxs, Heap.get?_push_size _ rfl⟩
    exact h.run pins _ σ _ [x, .ref h'.objs.size] _ Q I2 (.cons rx (.cons rfl .nil)) (hw _ (I1.hok.fresh (Nat.le_refl _)))
theorem pgTupSK (K : PySem.W.Frag) {es : List Expr} {k : Nat} {t : TGs} (h : PGs X es t) (hc : X.calm = true := by rfl) (hK : X.K = K := by rfl)
    (hn : (assignEach es X.env).length = 2 := by rfl) (hst : (assignEach es X.env).findIdx? (·.1) = some 1 := by rfl) : PG X (.Tuple es k pos) (gTupS K t) := hK ▸ pg_tupS hc h hn hst
theorem pgs_consS {e : Expr} {p : Pos} {es : List Expr} {t : TG} {u : TGs} (h1 : PG X e t) (h2 : PGs X es u)
    (hs : (assignEach (.Starred e p :: es) X.env).map (·.2) = assign e X.env :: (assignEach es X.env).map (·.2) := by rfl) : PGs X (.Starred e p :: es) (gCons t u) := by
  refine ⟨fun pins s σ H vs us Q I r h => ?_⟩
  obtain ⟨v, vr, e1, h⟩ := h
  subst e1
  cases r with
  | cons r rr =>
    rw [hs]
    refine assignInOrder_cons (thn (h1.run pins s σ H _ _ _ I r h) fun _ s1 ⟨σ1, H1, I1, q1⟩ => ?_)
    exact h2.run pins s1 σ1 H1 _ _ Q I1 rr q1
/-- o.f as a target -/
def gFld (K : PySem.W.Frag) (to : TE) (f : Str) : TG := fun v σ H Q => to σ H fun x H1 => ∃ a C dx fs, x = .ref a ∧ H1 a = some (.ins C dx fs) ∧ Cls K C ∧ NoAttr K C f ∧ fs.length < 1000 ∧ Q σ (upd H1 a (.ins C dx (putF f v fs)))
end
section
variable {X : Cx} {o e : Expr} {f : Str} {pos pos' : Pos} {ta tv : TE}
theorem fldK (K : PySem.W.Frag) (he : PE X e ta) (hb : attributeBase e f X.env (eval e X.env) = eval e X.env) (h : X.K = K := by rfl) : PE X (.Attribute e f pos) (tFld K ta f) := h ▸ pe_fld he hb
theorem fldSK (K : PySem.W.Frag) {value : Expr} (ha : PE X o ta) (hv : PE X value tv) (hs : swapsWith value (some (.Attribute o f pos')) pos.line X.env = pure false) (h : X.K = K := by rfl) : PS X (.Assign [.Attribute o f pos'] value pos) (sFld K ta tv f) := h ▸ ps_fld ha hv hs
theorem starK (K : PySem.W.Frag) {es : List Expr} {t : TA} {p : Pos} {te : TE} (he : PE X e te) (hr : PA X es t) (h : X.K = K := by rfl) (hs : starEach (.Starred e p :: es) X.env = (true, eval e X.env) :: starEach es X.env := by rfl) : PA X (.Starred e p :: es) (StX.tStar K te t) := h ▸ StX.pa_star he hr hs
end
/-! ### methods -/
section
variable {P : Program} {w : World} {K : PySem.W.Frag} {mg : Str → Option Value} {base : Heap}
/-- a method of the class at C -/
structure Mt (P : Program) (w : World) (K : PySem.W.Frag) (mg : Str → Option Value) (base : Heap) (C : Addr) (x : Str) (k : Nat) (ps : List Str) (dvs : List V) (sp : Sp) : Prop where
  cl : Cls K C
  ex : ∃ (f : Addr) (fd : FuncData) (ds : List Value), FnOk P w K mg base CX0 k f fd ps sp ∧ Meth K C x f ∧ Vals dvs ds ∧ Binds K fd ps ds
/-- .. that may raise -/
structure MtX (P : Program) (w : World) (K : PySem.W.Frag) (mg : Str → Option Value) (base : Heap) (C : Addr) (x : Str) (k : Nat) (ps : List Str) (dvs : List V) (sp : Sp) : Prop where
  cl : Cls K C
  ex : ∃ (f : Addr) (fd : FuncData) (ds : List Value), FnOk P w K mg base (L2.CX P w) k f fd ps sp ∧ Meth K C x f ∧ Vals dvs ds ∧ Binds K fd ps ds
/-- making an instance -/
structure Nw (P : Program) (w : World) (K : PySem.W.Frag) (mg : Str → Option Value) (base : Heap) (x : Str) (C : Addr) (k : Nat) (ps : List Str) (sp : Sp) : Prop where
  ex : ∃ (f : Addr) (fd : FuncData), FnOk P w K mg base CX0 k f fd ps sp ∧ Mk K C f ∧ mg x = some (.ref C) ∧ Binds K fd ps []
structure NwX (P : Program) (w : World) (K : PySem.W.Frag) (mg : Str → Option Value) (base : Heap) (x : Str) (C : Addr) (k : Nat) (ps : List Str) (sp : Sp) : Prop where
  ex : ∃ (f : Addr) (fd : FuncData), FnOk P w K mg base (L2.CX P w) k f fd ps sp ∧ Mk K C f ∧ mg x = some (.ref C) ∧ Binds K fd ps []
theorem binds_kw1 {x qual : Str} {st : Stmt} {f D : Addr} {oc : Value} {od an : Option Addr} {osl : Array (Option Value)} {doc pm cdv ct : Value} {kn : Str} {ps : List Str}
    (_l : K.lookup f = some ⟨oc, od, .func (PySem.W.fnOf x qual (defArgs st) (defBody st) (defScope st) .none (.ref D) doc pm an cdv ct), osl⟩) (q : PySem.W.nsIn K D kn = some (some .none))
    (h : ∀ (doc pm : Value) (an : Option Addr) (cdv ct : Value) (u v : Value), KwChain D [(kn, v)] (bindArgs (PySem.W.fnOf x qual (defArgs st) (defBody st) (defScope st) .none (.ref D) doc pm an cdv ct) ⟨[u], []⟩) (ps.zip [u, v])) (hp : ps.length = 2 := by rfl) :
    Binds K (PySem.W.fnOf x qual (defArgs st) (defBody st) (defScope st) .none (.ref D) doc pm an cdv ct) ps [.none] := by
  intro s us X hl
  rw [List.length_append, hp] at hl
  match us, hl with
  | [u], _ =>
    exact BindsTo.of_looks fun M => KwChain.looks X (fun z hz => by
      rw [List.mem_singleton.mp hz]
      exact q) (h doc pm an cdv ct u .none)
  | [], hl => exact absurd hl (by show ¬ (0 + 1 = 2); decide)
  | _ :: _ :: r, hl => exact absurd hl (by simp)
end
section
variable {X : Cx} {k : Nat} {ps : List Str} {dvs : List V} {sp : Sp} {C : Addr} {x : Str} {p pos apos : Pos} {e o : Expr} {es : List Expr} {ta : TE} {t : TA} {W : WX}
theorem pe_mt {pl : Sem Bool} (M : Mt X.prog X.w X.K X.mg X.base C x k ps dvs sp) (hr : Room k X.A) (he : PE X o ta) (ha : PA X (e :: es) t)
    (hst : starEach (e :: es) X.env = (false, eval e X.env) :: starEach es X.env := by rfl) (hpl : (backTo pos (starEach es X.env)).any (·.1) = false := by rfl)
    (ht : eval (.Call (.Attribute o x apos) (e :: es) [] pos) X.env = (do
      let ov ← eval o X.env
      standAt apos.atName
      let (f, first) ← holding [ov] (getMethod ov x pl)
      callWith pos f first (backTo pos (starEach (e :: es) X.env)) (backToKw pos (keywordEach [] X.env))) := by rfl) :
    PE X (.Call (.Attribute o x apos) (e :: es) [] pos) (tMeth C x sp dvs E0 ta t) := by
  obtain ⟨f, fd, ds, F, hm, hv, hb⟩ := M.ex
  exact pe_meth he M.cl hm F hr hb hv pass0 ha hst hpl ht
theorem pe_mt0 {pl : Sem Bool} (M : Mt X.prog X.w X.K X.mg X.base C x k ps dvs sp) (hr : Room k X.A) (he : PE X o ta)
    (ht : eval (.Call (.Attribute o x apos) [] [] pos) X.env = (do
      let ov ← eval o X.env
      standAt apos.atName
      let (f, first) ← holding [ov] (getMethod ov x pl)
      callWith pos f first (backTo pos (starEach [] X.env)) (backToKw pos (keywordEach [] X.env))) := by rfl) :
    PE X (.Call (.Attribute o x apos) [] [] pos) (tMeth C x sp dvs E0 ta tNil) := by
  obtain ⟨f, fd, ds, F, hm, hv, hb⟩ := M.ex
  exact pe_meth0 he M.cl hm F hr hb hv pass0 ht
def tMethS (C : Addr) (m : Str) (sp : Sp) (dvs : List V) (E : L2.St → XK) (ta : TE) (t : TA) : TE := fun σ H Q => ta σ H fun x H1 => ∃ a dx fs, x = .ref a ∧ H1 a = some (.ins C dx fs) ∧ fs.lookup m = none ∧
  t σ H1 fun vs H2 => sp (x :: (vs ++ dvs)) H2 Q (E σ)
theorem pe_mtX {pl : Sem Bool} (M : MtX X.prog X.w X.K X.mg X.base C x k ps dvs sp) (hr : Room k X.A) (tk : Takes X W) (he : PE X o ta) (ha : PA X (e :: es) t)
    (hst : starEach (e :: es) X.env = (false, eval e X.env) :: starEach es X.env := by rfl) (hpl : (backTo pos (starEach es X.env)).any (·.1) = false := by rfl)
    (ht : eval (.Call (.Attribute o x apos) (e :: es) [] pos) X.env = (do
      let ov ← eval o X.env
      standAt apos.atName
      let (f, first) ← holding [ov] (getMethod ov x pl)
      callWith pos f first (backTo pos (starEach (e :: es) X.env)) (backToKw pos (keywordEach [] X.env))) := by rfl) :
    PE X (.Call (.Attribute o x apos) (e :: es) [] pos) (tMethS C x sp dvs (WE W) ta t) := by
  obtain ⟨f, fd, ds, F, hm, hv, hb⟩ := M.ex
  refine ⟨fun pins s σ H Q I h => ?_⟩
  refine PySem.W.methodCall_KW (pl := pl) (thn (he.run pins s σ H _ I h) fun u s1 ⟨x, H1, I1, rx, a, dx, fs, ex, ea, l, q⟩ => ?_) ht
  subst ex
  obtain rfl : u = Value.ref a := rx
  refine getmeth_ok I1 ea M.cl hm l ?_
  refine PySem.W.callWith_K (first := [.ref a]) (h₀ := X.base) I.ok.mod.kin hm.kp (thn (ha.run pos pins s1 σ H1 _ I1 q) fun us s2 ⟨vs, H2, I2, r, q2⟩ => ⟨I2.kIn, ?_⟩) hst hpl
  exact run_fnSD (E := WE W) (us := .ref a :: us) (vs := .ref a :: vs) F hr hb hv (passAt tk σ) I2 (.cons rfl r) q2
theorem pe_mtX0 {pl : Sem Bool} (M : MtX X.prog X.w X.K X.mg X.base C x k ps dvs sp) (hr : Room k X.A) (tk : Takes X W) (he : PE X o ta)
    (ht : eval (.Call (.Attribute o x apos) [] [] pos) X.env = (do
      let ov ← eval o X.env
      standAt apos.atName
      let (f, first) ← holding [ov] (getMethod ov x pl)
      callWith pos f first (backTo pos (starEach [] X.env)) (backToKw pos (keywordEach [] X.env))) := by rfl) :
    PE X (.Call (.Attribute o x apos) [] [] pos) (tMethS C x sp dvs (WE W) ta tNil) := by
  obtain ⟨f, fd, ds, F, hm, hv, hb⟩ := M.ex
  refine ⟨fun pins s σ H Q I h => ?_⟩
  refine PySem.W.methodCall_KW (pl := pl) (thn (he.run pins s σ H _ I h) fun u s1 ⟨x, H1, I1, rx, a, dx, fs, ex, ea, l, q⟩ => ?_) ht
  subst ex
  obtain rfl : u = Value.ref a := rx
  refine getmeth_ok I1 ea M.cl hm l ?_
  exact PySem.W.callWith_K0 (first := [.ref a]) I1.kIn hm.kp (run_fnSD (E := WE W) (us := [.ref a]) (vs := [.ref a]) F hr hb hv (passAt tk σ) I1 (.cons rfl .nil) q)
theorem pe_new (M : Nw X.prog X.w X.K X.mg X.base x C k ps sp) (hr : Room (k + 1) X.A) (hg : Gl X x) (ha : PA X (e :: es) t) (hdb : (x == ("__debug__" : Str)) = false := by decide)
    (he : starEach (e :: es) X.env = (false, eval e X.env) :: starEach es X.env := by rfl) (hpl : (backTo pos (starEach es X.env)).any (·.1) = false := by rfl) :
    PE X (.Call (.Name x p) (e :: es) [] pos) (tMake C sp [] E0 t) := by
  obtain ⟨f, fd, F, hm, hg2, hb⟩ := M.ex
  exact pe_make hm F hr hg hg2 hb .nil pass0 ha hdb he hpl
end
/-! ### len and str of an own instance -/
section
variable {X : Cx} {k : Nat} {ps : List Str} {sp : Sp} {C : Addr}
def rLenO (C : Addr) (sp : Sp) : List V → Hp → VK → Prop := fun xs H Q => ∃ a dx fs, xs = [.ref a] ∧ H a = some (.ins C dx fs) ∧ sp [.ref a] H (fun v H' => ∃ n : Nat, v = .int (n : Int) ∧ n < 1000000 ∧ Q (.int (n : Int)) H') E0
theorem lenO (M : Mt X.prog X.w X.K X.mg X.base C "__len__" k ps [] sp) (hr : Room (k + 1) X.A) : CallR X (.builtin "len") (rLenO C sp) := by
  intro pins s σ H xs us Q I r h
  obtain ⟨a, dx, fs, rfl, ha, h⟩ := h
  obtain ⟨u, rfl, ru⟩ := vals1 r
  cases ru
  obtain ⟨f, fd, ds, F, hm, hv, hb⟩ := M.ex
  cases hv
  obtain ⟨mA, J, _⟩ := ins_get I.hok ha
  obtain ⟨od, J, _⟩ := J.look
  refine Calls.call_function_entry PySem.kind_len PySem.plain_len PySem.entry_len (PySem.args_len1 _) ?_
  unfold Builtin.«len»
  refine wpAny_bind (m := oneArg "len" _) (wpAny_pure ?_)
  refine wpAny_bind (m := callSpecial? (.ref a) (PySem.Str.ofString "__len__")) (PySem.W.special_fn I.kIn J hm.at_ (beq_iff_eq.mp hm.fn) ?_)
  have hl := F.len _ _ _ _ h
  refine wpAny_call (codeAny_mono (F.run _ X.stack s H ⟨[.ref a], []⟩ [.ref a] [.ref a] _ E0 hr.in1 I.env0.in1 (by
    have := hb s [.ref a] I.kIn (by simpa using hl)
    simpa using this) (.cons rfl .nil) h) fun r s' hq => ?_)
  match r, hq with
  | .error e, hq => exact False.elim hq
  | .ok .next, hq => exact False.elim hq
  | .ok .brk, hq => exact False.elim hq
  | .ok .cont, hq => exact False.elim hq
  | .ok (.ret u), hq =>
    obtain ⟨v, H', I', rv, n, rfl, hn, q⟩ := I.after hq
    obtain ⟨t, rfl⟩ := rv
    refine wpAny_bind (wpAny_holding (wpAny_pure ?_))
    refine wpAny_bind (wpAny_letGo ?_)
    show wpAny _ _ (if ((n : Nat) : Int) < 0 then _ else _) _ _ _
    rw [if_neg (by omega)]
    show wpAny _ _ (if ((n : Nat) : Int) ≥ 2 ^ 63 then _ else _) _ _ _
    rw [if_neg (by omega)]
    exact wpAny_bind (wpAny_mkInt (wpAny_pure ⟨_, rfl, .int n, H', I'.tok _, ⟨_, rfl⟩, q⟩))
def rStrO (C : Addr) (sp : Sp) : List V → Hp → VK → Prop := fun xs H Q => ∃ a dx fs, xs = [.ref a] ∧ H a = some (.ins C dx fs) ∧ sp [.ref a] H (fun v H' => ∃ z : Str, v = .str z ∧ Q (.str z) H') E0
theorem strO (M : Mt X.prog X.w X.K X.mg X.base C "__str__" k ps [] sp) (hr : Room (k + 2) X.A) : CallR X (.type "str") (rStrO C sp) := by
  intro pins s σ H xs us Q I r h
  obtain ⟨a, dx, fs, rfl, ha, h⟩ := h
  obtain ⟨u, rfl, ru⟩ := vals1 r
  cases ru
  obtain ⟨f, fd, ds, F, hm, hv, hb⟩ := M.ex
  cases hv
  obtain ⟨mA, J, _⟩ := ins_get I.hok ha
  obtain ⟨od, J, _⟩ := J.look
  have hr2 : Room k X.A.in1.in1 := hr.in1.in1
  have hl := F.len _ _ _ _ h
  refine PySem.W.kso_call hr2.units0 I.kIn J hm.at_ hm.fn ?_
  refine wpAny_call (codeAny_mono (F.run _ X.stack s H ⟨[.ref a], []⟩ [.ref a] [.ref a] _ E0 hr2 I.env0.in1.in1 (by
    have := hb s [.ref a] I.kIn (by simpa using hl)
    simpa using this) (.cons rfl .nil) h) fun r s' hq => ?_)
  match r, hq with
  | .error e, hq => exact False.elim hq
  | .ok .next, hq => exact False.elim hq
  | .ok .brk, hq => exact False.elim hq
  | .ok .cont, hq => exact False.elim hq
  | .ok (.ret u), hq =>
    obtain ⟨v, H', I', rv, z, rfl, q⟩ := I.after hq
    obtain ⟨t, rfl⟩ := rv
    exact ⟨.str z, H', I', ⟨_, rfl⟩, q⟩
end
/-! ### a local name that holds one of several defs, called with a star -/
section
variable {X : Cx} {k i : Nat} {x : Str} {p pos : Pos} {e : Expr} {es : List Expr} {t : TA} {W : WX}
structure HeldR (P : Program) (w : World) (K : PySem.W.Frag) (mg : Str → Option Value) (base : Heap) (CX : CXT) (k : Nat) (f : Addr) (sp : Sp) : Prop where
  fn : FnR P w K mg base CX k f sp
  kp : PySem.W.keepIn K (.ref f) = true
def tCallAS (i : Nat) (S : Addr → Sp → Prop) (E : L2.St → XK) (t : TA) : TE := fun σ H Q => ∃ f sp, σ[i]? = some (some (.ref f)) ∧ S f sp ∧ t σ H fun vs H1 => sp vs H1 Q (E σ)
theorem pe_callAS {S : Addr → Sp → Prop} {CX : CXT} {E : L2.St → XK} (A : ∀ f sp, S f sp → HeldR X.prog X.w X.K X.mg X.base CX k f sp) (hr : Room k X.A) (hN : X.N[i]? = some x) (hv : Vis X.env.scope x) (hx : ∀ σ, PassesAt CX X σ (E σ)) (ha : PA X (e :: es) t)
    (hdb : (x == ("__debug__" : Str)) = false := by decide) (hcd : (x == ("__classdict__" : Str)) = false := by decide)
    (he : starEach (e :: es) X.env = (false, eval e X.env) :: starEach es X.env := by rfl) (hst : (backTo pos (starEach es X.env)).any (·.1) = true := by rfl) : PE X (.Call (.Name x p) (e :: es) [] pos) (tCallAS i S E t) := by
  refine ⟨fun pins s σ H Q I h => ?_⟩
  obtain ⟨f, sp, hs, hS, ht⟩ := h
  have HF := A f sp hS
  refine wpAny_Call_Name_kw (thn ((pe_var (pos := p) hN hv hdb hcd).run pins s σ H (fun v H1 => v = .ref f ∧ H1 = H) I ⟨.ref f, hs, rfl, rfl⟩) fun u s1 ⟨v, H1, I1, r1, q1⟩ => ?_)
  obtain ⟨rfl, rfl⟩ := q1
  cases r1
  refine PySem.W.callWith_S2 (h₀ := X.base) I.ok.mod.kin HF.kp (thn (ha.run pos pins s1 σ _ _ I1 ht) fun us s2 ⟨vs, H2, I2, r, q⟩ => ⟨I2.kIn, ?_⟩) he hst
  refine wpAny_call (codeAny_mono (HF.fn X.A X.stack s2 H2 us vs Q (E σ) hr I2.env0 r q) fun r s' hq => ?_)
  cases r with
  | error e => exact hx σ pins H2 s2 e s' I2 hq
  | ok fl =>
    cases fl with
    | ret u => exact I2.after hq
    | next => exact False.elim hq
    | brk => exact False.elim hq
    | cont => exact False.elim hq
theorem pass0At {σ : L2.St} : PassesAt CX0 X σ (E0) := fun _ _ _ _ _ _ z => z.elim
theorem kdK (K : PySem.W.Frag) (w : World) (h : X.K = K := by rfl) (h2 : X.w = w := by rfl) : IxR X (rIxD K w) := by
  subst h h2
  exact ix_kdict
end
end TL
namespace TL
open PySem PySem.Spec PyProof.Rows L2
/-! ### methods called with keywords -/
def gK {α : Type} (n m : Nat) (us ws : List α) : List α := if us.length = n ∧ ws.length = m then us ++ ws else []
theorem gK_eq {α : Type} {n m : Nat} {us ws : List α} (h1 : us.length = n) (h2 : ws.length = m) : gK n m us ws = us ++ ws := if_pos ⟨h1, h2⟩
theorem gK_rel {n m : Nat} {vs : List V} {us : List Value} {zs : List V} {ws : List Value} (r : Vals vs us) (rz : Vals zs ws) : Vals (gK n m vs zs) (gK n m us ws) := by
  unfold gK
  rw [r.length, rz.length]
  by_cases h : us.length = n ∧ ws.length = m
  · rw [if_pos h, if_pos h]
    exact Vals.append r rz
  · rw [if_neg h, if_neg h]
    exact .nil
section
variable {K : PySem.W.Frag}
theorem kbinds_kw1 {x qual : Str} {st : Stmt} {f D : Addr} {oc : Value} {od an : Option Addr} {osl : Array (Option Value)} {doc pm cdv ct : Value} {kn : Str} {ps : List Str}
    (_l : K.lookup f = some ⟨oc, od, .func (PySem.W.fnOf x qual (defArgs st) (defBody st) (defScope st) .none (.ref D) doc pm an cdv ct), osl⟩)
    (h : ∀ (doc pm : Value) (an : Option Addr) (cdv ct : Value) (u v : Value), bindArgs (PySem.W.fnOf x qual (defArgs st) (defBody st) (defScope st) .none (.ref D) doc pm an cdv ct) ⟨[u], [(kn, v)]⟩ = pure (ps.zip [u, v])) (hp : ps.length = 2 := by rfl) :
    KBinds K (PySem.W.fnOf x qual (defArgs st) (defBody st) (defScope st) .none (.ref D) doc pm an cdv ct) ps [kn] (gK 1 1) (gK 1 1) := by
  refine ⟨fun s us ws X hl => ?_, gK_rel⟩
  unfold gK at hl ⊢
  by_cases c : us.length = 1 ∧ ws.length = 1
  · rw [if_pos c] at hl ⊢
    match us, ws, c with
    | [u], [v], _ => exact BindsTo.of_eq (h doc pm an cdv ct u v)
  · rw [if_neg c, hp] at hl
    exact absurd hl (by decide)
theorem kbinds_kw2 {x qual : Str} {st : Stmt} {f D : Addr} {oc : Value} {od an : Option Addr} {osl : Array (Option Value)} {doc pm cdv ct : Value} {kn : Str} {ps : List Str}
    (_l : K.lookup f = some ⟨oc, od, .func (PySem.W.fnOf x qual (defArgs st) (defBody st) (defScope st) .none (.ref D) doc pm an cdv ct), osl⟩)
    (h : ∀ (doc pm : Value) (an : Option Addr) (cdv ct : Value) (u t v : Value), bindArgs (PySem.W.fnOf x qual (defArgs st) (defBody st) (defScope st) .none (.ref D) doc pm an cdv ct) ⟨[u, t], [(kn, v)]⟩ = pure (ps.zip [u, t, v])) (hp : ps.length = 3 := by rfl) :
    KBinds K (PySem.W.fnOf x qual (defArgs st) (defBody st) (defScope st) .none (.ref D) doc pm an cdv ct) ps [kn] (gK 2 1) (gK 2 1) := by
  refine ⟨fun s us ws X hl => ?_, gK_rel⟩
  unfold gK at hl ⊢
  by_cases c : us.length = 2 ∧ ws.length = 1
  · rw [if_pos c] at hl ⊢
    match us, ws, c with
    | [u, t], [v], _ => exact BindsTo.of_eq (h doc pm an cdv ct u t v)
  · rw [if_neg c, hp] at hl
    exact absurd hl (by decide)
end
section
variable {P : Program} {w : World} {K : PySem.W.Frag} {mg : Str → Option Value} {base : Heap}
structure MtK (P : Program) (w : World) (K : PySem.W.Frag) (mg : Str → Option Value) (base : Heap) (C : Addr) (x : Str) (k : Nat) (ps ks : List Str) (n m : Nat) (sp : Sp) : Prop where
  cl : Cls K C
  ex : ∃ (f : Addr) (fd : FuncData), FnOk P w K mg base CX0 k f fd ps sp ∧ Meth K C x f ∧ KBinds K fd ps ks (gK n m) (gK n m)
structure MtXK (P : Program) (w : World) (K : PySem.W.Frag) (mg : Str → Option Value) (base : Heap) (C : Addr) (x : Str) (k : Nat) (ps ks : List Str) (n m : Nat) (sp : Sp) : Prop where
  cl : Cls K C
  ex : ∃ (f : Addr) (fd : FuncData), FnOk P w K mg base (L2.CX P w) k f fd ps sp ∧ Meth K C x f ∧ KBinds K fd ps ks (gK n m) (gK n m)
end
section
variable {X : Cx} {k n m : Nat} {ps ks : List Str} {sp : Sp} {C : Addr} {x : Str} {pos apos : Pos} {e o : Expr} {es : List Expr} {kws : List Keyword} {ta : TE} {t tk : TA} {W : WX}
def tMethK (C : Addr) (m : Str) (sp : Sp) (nk : Nat) (E : L2.St → XK) (ta : TE) (tk : TA) : TE := fun σ H Q => ta σ H fun x H1 => ∃ a dx fs, x = .ref a ∧ H1 a = some (.ins C dx fs) ∧ fs.lookup m = none ∧
  tk σ H1 fun zs H2 => zs.length = nk ∧ sp (x :: zs) H2 Q (E σ)
def tMethAK (C : Addr) (m : Str) (sp : Sp) (np nk : Nat) (E : L2.St → XK) (ta : TE) (t tk : TA) : TE := fun σ H Q => ta σ H fun x H1 => ∃ a dx fs, x = .ref a ∧ H1 a = some (.ins C dx fs) ∧ fs.lookup m = none ∧
  t σ H1 fun vs H2 => tk σ H2 fun zs H3 => vs.length = np ∧ zs.length = nk ∧ sp (x :: (vs ++ zs)) H3 Q (E σ)
/-- o.x(k = v, ..) -/
theorem pe_mtk {pl : Sem Bool} (M : MtK X.prog X.w X.K X.mg X.base C x k ps ks 1 m sp) (hr : Room k X.A) (he : PE X o ta) (hkw : PK X kws tk)
    (hall : (backToKw pos (keywordEach kws X.env)).all (·.1.isSome) = true := by rfl) (hks : (backToKw pos (keywordEach kws X.env)).filterMap (·.1) = ks := by rfl)
    (hpl : ((backTo pos (starEach [] X.env)).any (·.1) || (backToKw pos (keywordEach kws X.env)).any (·.1.isNone)) = false := by rfl)
    (ht : eval (.Call (.Attribute o x apos) [] kws pos) X.env = (do
      let ov ← eval o X.env
      standAt apos.atName
      let (f, first) ← holding [ov] (getMethod ov x pl)
      callWith pos f first (backTo pos (starEach [] X.env)) (backToKw pos (keywordEach kws X.env))) := by rfl) :
    PE X (.Call (.Attribute o x apos) [] kws pos) (tMethK C x sp m (fun _ => E0) ta tk) := by
  obtain ⟨f, fd, F, hm, hb⟩ := M.ex
  refine ⟨fun pins s σ H Q I h => ?_⟩
  refine PySem.W.methodCall_KW (pl := pl) (thn (he.run pins s σ H _ I h) fun u s1 ⟨x, H1, I1, rx, a, dx, fs, ex, ea, l, q⟩ => ?_) ht
  subst ex
  obtain rfl : u = Value.ref a := rx
  refine getmeth_ok I1 ea M.cl hm l ?_
  refine PySem.W.callWith_KW0 (first := [.ref a]) (h₀ := X.base) I.ok.mod.kin hm.kp hall (thn (hkw.run pos pins s1 σ H1 _ I1 q) fun ws s2 ⟨zs, H2, I2, rz, hz, q2⟩ => ⟨I2.kIn, ?_⟩) hpl
  rw [hks]
  refine run_fnk (us := [.ref a]) (vs := [.ref a]) F hr hb pass0 I2 (.cons rfl .nil) rz ?_
  rw [gK_eq (us := [V.ref a]) (n := 1) rfl hz]
  exact q2
/-- o.x(e, .., k = v, ..) -/
theorem pe_mtak {pl : Sem Bool} (M : MtK X.prog X.w X.K X.mg X.base C x k ps ks (n + 1) m sp) (hr : Room k X.A) (he : PE X o ta) (ha : PA X (e :: es) t) (hkw : PK X kws tk)
    (hall : (backToKw pos (keywordEach kws X.env)).all (·.1.isSome) = true := by rfl) (hks : (backToKw pos (keywordEach kws X.env)).filterMap (·.1) = ks := by rfl)
    (hst : starEach (e :: es) X.env = (false, eval e X.env) :: starEach es X.env := by rfl)
    (hpl : ((backTo pos (starEach (e :: es) X.env)).any (·.1) || (backToKw pos (keywordEach kws X.env)).any (·.1.isNone)) = false := by rfl)
    (ht : eval (.Call (.Attribute o x apos) (e :: es) kws pos) X.env = (do
      let ov ← eval o X.env
      standAt apos.atName
      let (f, first) ← holding [ov] (getMethod ov x pl)
      callWith pos f first (backTo pos (starEach (e :: es) X.env)) (backToKw pos (keywordEach kws X.env))) := by rfl) :
    PE X (.Call (.Attribute o x apos) (e :: es) kws pos) (tMethAK C x sp n m (fun _ => E0) ta t tk) := by
  obtain ⟨f, fd, F, hm, hb⟩ := M.ex
  refine ⟨fun pins s σ H Q I h => ?_⟩
  refine PySem.W.methodCall_KW (pl := pl) (thn (he.run pins s σ H _ I h) fun u s1 ⟨x, H1, I1, rx, a, dx, fs, ex, ea, l, q⟩ => ?_) ht
  subst ex
  obtain rfl : u = Value.ref a := rx
  refine getmeth_ok I1 ea M.cl hm l ?_
  refine PySem.W.callWith_KW (first := [.ref a]) (h₀ := X.base) I.ok.mod.kin hm.kp hall (thn (ha.run pos pins s1 σ H1 _ I1 q) fun us s2 ⟨vs, H2, I2, r, q2⟩ => ?_) hpl hst
  refine thn (hkw.run pos pins s2 σ H2 _ I2 q2) fun ws s3 ⟨zs, H3, I3, rz, hv, hz, q3⟩ => ⟨I3.kIn, ?_⟩
  rw [hks]
  refine run_fnk (us := .ref a :: us) (vs := .ref a :: vs) F hr hb pass0 I3 (.cons rfl r) rz ?_
  rw [gK_eq (by rw [List.length_cons, hv]) hz]
  exact q3
theorem run_fnkA {CX : CXT} {E : XK} {g : List Value → List Value → List Value} {gV : List V → List V → List V} {f : Addr} {fd : FuncData} {pins : List (Addr × Obj)} {σ : L2.St} {H : Hp} {s : Shared} {Q : VK} {us ws : List Value} {vs zs : List V} (F : FnOk X.prog X.w X.K X.mg X.base CX k f fd ps sp) (hr : Room k X.A) (hb : KBinds X.K fd ps ks g gV) (hx : PassesAt CX X σ E)
    (I : Inv X pins σ H s) (r : Vals vs us) (rz : Vals zs ws) (h : sp (gV vs zs) H Q E) : wpAny (model X.prog X.w) X.A (call (.ref f) us (ks.zip ws)) (EP X pins σ Q) X.xe s := by
  have r2 := hb.rel r rz
  have hl : (g us ws).length = ps.length := by rw [← r2.length]; exact F.len _ _ _ _ h
  refine wpAny_call (codeAny_mono (F.run X.A X.stack s H ⟨us, ks.zip ws⟩ (g us ws) (gV vs zs) Q E hr I.env0 (hb.to s us ws I.kIn hl) r2 h) fun r s' hq => ?_)
  cases r with
  | error e => exact hx pins H s e s' I hq
  | ok fl =>
    cases fl with
    | ret u => exact I.after hq
    | next => exact False.elim hq
    | brk => exact False.elim hq
    | cont => exact False.elim hq
theorem pe_mtXk {pl : Sem Bool} (M : MtXK X.prog X.w X.K X.mg X.base C x k ps ks 1 m sp) (hr : Room k X.A) (tq : Takes X W) (he : PE X o ta) (hkw : PK X kws tk)
    (hall : (backToKw pos (keywordEach kws X.env)).all (·.1.isSome) = true := by rfl) (hks : (backToKw pos (keywordEach kws X.env)).filterMap (·.1) = ks := by rfl)
    (hpl : ((backTo pos (starEach [] X.env)).any (·.1) || (backToKw pos (keywordEach kws X.env)).any (·.1.isNone)) = false := by rfl)
    (ht : eval (.Call (.Attribute o x apos) [] kws pos) X.env = (do
      let ov ← eval o X.env
      standAt apos.atName
      let (f, first) ← holding [ov] (getMethod ov x pl)
      callWith pos f first (backTo pos (starEach [] X.env)) (backToKw pos (keywordEach kws X.env))) := by rfl) :
    PE X (.Call (.Attribute o x apos) [] kws pos) (tMethK C x sp m (WE W) ta tk) := by
  obtain ⟨f, fd, F, hm, hb⟩ := M.ex
  refine ⟨fun pins s σ H Q I h => ?_⟩
  refine PySem.W.methodCall_KW (pl := pl) (thn (he.run pins s σ H _ I h) fun u s1 ⟨x, H1, I1, rx, a, dx, fs, ex, ea, l, q⟩ => ?_) ht
  subst ex
  obtain rfl : u = Value.ref a := rx
  refine getmeth_ok I1 ea M.cl hm l ?_
  refine PySem.W.callWith_KW0 (first := [.ref a]) (h₀ := X.base) I.ok.mod.kin hm.kp hall (thn (hkw.run pos pins s1 σ H1 _ I1 q) fun ws s2 ⟨zs, H2, I2, rz, hz, q2⟩ => ⟨I2.kIn, ?_⟩) hpl
  rw [hks]
  refine run_fnkA (E := WE W σ) (us := [.ref a]) (vs := [.ref a]) F hr hb (passAt tq σ) I2 (.cons rfl .nil) rz ?_
  rw [gK_eq (us := [V.ref a]) (n := 1) rfl hz]
  exact q2
theorem pe_mtXak {pl : Sem Bool} (M : MtXK X.prog X.w X.K X.mg X.base C x k ps ks (n + 1) m sp) (hr : Room k X.A) (tq : Takes X W) (he : PE X o ta) (ha : PA X (e :: es) t) (hkw : PK X kws tk)
    (hall : (backToKw pos (keywordEach kws X.env)).all (·.1.isSome) = true := by rfl) (hks : (backToKw pos (keywordEach kws X.env)).filterMap (·.1) = ks := by rfl)
    (hst : starEach (e :: es) X.env = (false, eval e X.env) :: starEach es X.env := by rfl)
    (hpl : ((backTo pos (starEach (e :: es) X.env)).any (·.1) || (backToKw pos (keywordEach kws X.env)).any (·.1.isNone)) = false := by rfl)
    (ht : eval (.Call (.Attribute o x apos) (e :: es) kws pos) X.env = (do
      let ov ← eval o X.env
      standAt apos.atName
      let (f, first) ← holding [ov] (getMethod ov x pl)
      callWith pos f first (backTo pos (starEach (e :: es) X.env)) (backToKw pos (keywordEach kws X.env))) := by rfl) :
    PE X (.Call (.Attribute o x apos) (e :: es) kws pos) (tMethAK C x sp n m (WE W) ta t tk) := by
  obtain ⟨f, fd, F, hm, hb⟩ := M.ex
  refine ⟨fun pins s σ H Q I h => ?_⟩
  refine PySem.W.methodCall_KW (pl := pl) (thn (he.run pins s σ H _ I h) fun u s1 ⟨x, H1, I1, rx, a, dx, fs, ex, ea, l, q⟩ => ?_) ht
  subst ex
  obtain rfl : u = Value.ref a := rx
  refine getmeth_ok I1 ea M.cl hm l ?_
  refine PySem.W.callWith_KW (first := [.ref a]) (h₀ := X.base) I.ok.mod.kin hm.kp hall (thn (ha.run pos pins s1 σ H1 _ I1 q) fun us s2 ⟨vs, H2, I2, r, q2⟩ => ?_) hpl hst
  refine thn (hkw.run pos pins s2 σ H2 _ I2 q2) fun ws s3 ⟨zs, H3, I3, rz, hv, hz, q3⟩ => ⟨I3.kIn, ?_⟩
  rw [hks]
  refine run_fnkA (E := WE W σ) (us := .ref a :: us) (vs := .ref a :: vs) F hr hb (passAt tq σ) I3 (.cons rfl r) rz ?_
  rw [gK_eq (by rw [List.length_cons, hv]) hz]
  exact q3
end
end TL
namespace TL
open PySem PySem.Spec PyProof.Rows L2
/-! ### a suite that the calls at hand never reach; try .. finally that raises nothing -/
theorem ps_dead {X : Cx} {st : Stmt} : PS X st (fun _ _ _ => False) := ⟨fun _ _ _ _ _ _ h => h.elim⟩
theorem pe_dead {X : Cx} {e : Expr} : PE X e (fun _ _ _ => False) := ⟨fun _ _ _ _ _ _ h => h.elim⟩
def tFinN (tb tf : TS) : TS := fun D σ H => tb { nx := fun σ1 H1 => tf D σ1 H1, rt := fun _ _ => False } σ H
theorem ps_finN {X : Cx} {body : List Stmt} {f₀ : Stmt} {fs : List Stmt} {pos : Pos} {tb tf : TS} (hb : PSs X.nox body tb) (hf : PSs X.nox (f₀ :: fs) tf) : PS X (.Try body [] [] (f₀ :: fs) pos) (tFinN tb tf) := by
  refine ⟨fun pins s σ H D I h => ?_⟩
  refine wpAny_Try_finally (wpAny_mono (hb.run pins s σ H { nx := fun σ1 H1 => tf D σ1 H1, rt := fun _ _ => False } (I.wish _) h) (fun g s1 z => ?_) fun _ _ z => False.elim z)
  have z := z.unwish
  cases g with
  | ret u =>
    obtain ⟨_, _, _, _, _, q⟩ := z
    exact False.elim q
  | brk =>
    obtain ⟨_, _, _, q⟩ := z
    exact False.elim q
  | cont =>
    obtain ⟨_, _, _, q⟩ := z
    exact False.elim q
  | next =>
    obtain ⟨σ1, H1, J1, q1⟩ := z
    refine wpAny_execs_nil ?_
    refine wpAny_mono (hf.run pins s1 σ1 H1 D (J1.wish _) q1) (fun g2 s2 q2 => ?_) fun _ _ e => False.elim e
    have q3 : SP X pins D g2 s2 := q2.unwish
    cases g2 <;> exact q3
/-! ### a written dict's get -/
def KDw (K : PySem.W.Frag) (w : World) (a : Addr) : Prop := (a == sysModules) = false ∧ ∃ es n, K.lookup a = some ⟨.type "dict", none, .dict es n, #[]⟩ ∧ PySem.W.KeysLit w.params es.toList
def KNow (K : PySem.W.Frag) (a : Addr) (x : Str) : Prop := PySem.W.nsIn K a x = some none
def tKGet (K : PySem.W.Frag) (w : World) (td ty : TE) : TE := fun σ H Q => td σ H fun x H1 => ∃ p, x = .ref p ∧ KDw K w p ∧ ty σ H1 fun y H2 => ∃ z, y = .str z ∧ ((∃ v, KDct K w p z v ∧ Q v H2) ∨ (KNow K p z ∧ Q .non H2))
theorem pe_kget {X : Cx} {o e : Expr} {apos cpos : Pos} {td ty : TE} (K : PySem.W.Frag) (w : World) (ho : PE X o td) (he : PE X e ty) (m : M1 X o "get" apos e cpos) (h : X.K = K := by rfl) (h2 : X.w = w := by rfl) : PE X (.Call (.Attribute o "get" apos) [e] [] cpos) (tKGet K w td ty) := by
  subst h h2
  refine ⟨fun pins s σ H Q I h => ?_⟩
  refine wpAny_Call_method m.base m.few m.line PySem.F.plainAttrs_dict PySem.F.slot_dict_get PySem.F.type_dict_get (thn (ho.run pins s σ H _ I h) fun u s1 ⟨x, H1, I1, rx, a, ex, ⟨low, es, n, hl, hk⟩, q1⟩ => ?_)
  subst ex
  obtain rfl : u = Value.ref a := rx
  have hm := PySem.W.mapOf_K (prog := X.prog) (w := X.w) I1.kIn hl hk
  refine ⟨hm.typeIs, fun b q => ?_, ?_⟩
  · cases q
    exact ⟨_, I1.kIn _ _ hl, rfl⟩
  rw [m.trees]
  refine Calls.callWith_builtin rfl (Calls.evalArgs_plain (Calls.spliced_cons (thn (he.run pins s1 σ H1 _ I1 q1) fun iv s2 ⟨y, H2, I2, ry, z, ey, q2⟩ => Calls.spliced_nil ?_)))
  subst ey
  obtain ⟨t, rfl⟩ := (show ∃ t, iv = Value.str z t from ry)
  have hm2 := PySem.W.mapOf_K (prog := X.prog) (w := X.w) I2.kIn hl hk
  refine call_meetsIn PySem.F.slot_dict_get hm2.typeIs PySem.F.entry_dict_get (PySem.F.args_dict_get_2 _ _) (meets_dict_get (PySem.strKind X.prog X.w) a (PySem.strKind_is X.prog X.w z t) low) ⟨_, hm2, ?_⟩
  rcases q2 with ⟨v, ⟨es', n', u0, hl', hk', e, ru⟩, q⟩ | ⟨hno, q⟩
  · rw [PySem.W.find_K hl e]
    exact ⟨v, H2, I2.tok _, ru, q⟩
  · rw [PySem.W.find_K hl hno]
    exact ⟨.non, H2, I2.tok _, rfl, q⟩
/-! ### enumerate of a list or a tuple; for over it -/
def kint (K : PySem.W.Frag) (x key : Str) (i : Int) : Bool := match PySem.W.nsIn K (He.ga K x) key with
  | some (some (.int j _)) => decide (j = i)
  | _ => false
theorem kint_get {K : PySem.W.Frag} {x key : Str} {i : Int} (h : kint K x key i = true) : ∃ t, PySem.W.nsIn K (He.ga K x) key = some (some (.int i t)) := by
  unfold kint at h
  cases e : PySem.W.nsIn K (He.ga K x) key with
  | none =>
    rw [e] at h
    cases h
  | some o =>
    rw [e] at h
    cases o with
    | none => cases h
    | some v =>
      cases v with
      | int j t =>
        have ej : j = i := of_decide_eq_true h
        rw [ej]
        exact ⟨t, rfl⟩
      | _ => cases h
theorem low_get {K : PySem.W.Frag} {x : Str} (h : (!(He.ga K x == sysModules)) = true) : (He.ga K x == sysModules) = false := by
  cases e : (He.ga K x == sysModules) with
  | false => rfl
  | true =>
    rw [e] at h
    cases h
theorem pi_or {X : Cx} {tg e : Expr} {a b : TI} (h1 : PI X tg e a) (h2 : PI X tg e b) : PI X tg e (fun σ H R => a σ H R ∨ b σ H R) := ⟨fun pins s σ H R I h => h.elim (h1.run pins s σ H R I) (h2.run pins s σ H R I)⟩
theorem pi_enumA (K : PySem.W.Frag) {X : Cx} {e : Expr} {ta : TA} {p pos tpos : Pos} {elts : List Expr} {kk : Nat} (hg : Gl X "enumerate") (hm : X.mg "enumerate" = none)
    (ha : PA X [e] ta) (hK : X.K = K := by rfl) (hs : starEach [e] X.env = [(false, eval e X.env)] := by rfl) :
    PI X (.Tuple elts kk tpos) (.Call (.Name "enumerate" p) [e] [] pos) (fun σ H R => iEnum K ta σ H R ∨ iEnumT K ta σ H R) := by
  subst hK
  exact pi_or (pi_enum hg hm ha hs) (pi_enumT X.K hg hm ha rfl hs)
theorem isiTK (K : PySem.W.Frag) {X : Cx} (h : X.K = K := by rfl) : CallR X (.builtin "isinstance") (rIsiT K) := h ▸ call_isiT
/-! ### o.f, .. = .. : a field among the targets -/
def gFldT (K : PySem.W.Frag) (ta : TE) (f : Str) : TG := fun v σ H Q => ta σ H fun x H1 => ∃ a C dx fs, x = .ref a ∧ H1 a = some (.ins C dx fs) ∧ Cls K C ∧ NoAttr K C f ∧ fs.length < 1000 ∧ Q σ (upd H1 a (.ins C dx (putF f v fs)))
theorem pg_fldK (K : PySem.W.Frag) {X : Cx} {o : Expr} {f : Str} {pos : Pos} {ta : TE} (ha : PE X o ta) (hK : X.K = K := by rfl) : PG X (.Attribute o f pos) (gFldT K ta f) := by
  subst hK
  refine ⟨fun pins s σ H v u Q I r h => ?_⟩
  rw [arm_assign_Attribute]
  refine wpAny_bind (wpAny_holding (thn (ha.run pins s σ H _ I h) fun ov s1 ⟨x, H1, I1, rx, a, C, dx, fs, ex, ea, c, n, l, q2⟩ => ?_))
  subst ex
  obtain rfl : ov = Value.ref a := rx
  refine wpAny_bind (wpAny_standAt (wpAny_bind (wpAny_holding (setattr_ok I1 ea c n l r fun s3 I3 => ?_))))
  exact wpAny_release ⟨σ, _, I3, q2⟩
/-! ### two arguments and one keyword-only that is left out -/
theorem binds_kw2 {K : PySem.W.Frag} {x qual : Str} {st : Stmt} {f D : Addr} {oc : Value} {od an : Option Addr} {osl : Array (Option Value)} {doc pm cdv ct : Value} {kn : Str} {ps : List Str}
    (_l : K.lookup f = some ⟨oc, od, .func (PySem.W.fnOf x qual (defArgs st) (defBody st) (defScope st) .none (.ref D) doc pm an cdv ct), osl⟩) (q : PySem.W.nsIn K D kn = some (some .none))
    (h : ∀ (doc pm : Value) (an : Option Addr) (cdv ct : Value) (u t v : Value), KwChain D [(kn, v)] (bindArgs (PySem.W.fnOf x qual (defArgs st) (defBody st) (defScope st) .none (.ref D) doc pm an cdv ct) ⟨[u, t], []⟩) (ps.zip [u, t, v])) (hp : ps.length = 3 := by rfl) :
    Binds K (PySem.W.fnOf x qual (defArgs st) (defBody st) (defScope st) .none (.ref D) doc pm an cdv ct) ps [.none] := by
  intro s us X hl
  rw [List.length_append, hp] at hl
  match us, hl with
  | [u, t], _ =>
    exact BindsTo.of_looks fun M => KwChain.looks X (fun z hz => by
      rw [List.mem_singleton.mp hz]
      exact q) (h doc pm an cdv ct u t .none)
  | [], hl => exact absurd hl (by show ¬ (0 + 1 = 3); decide)
  | [_], hl => exact absurd hl (by show ¬ (1 + 1 = 3); decide)
  | _ :: _ :: _ :: r, hl => exact absurd hl (by simp)
end TL
namespace TL
open PySem PySem.Spec PyProof.Rows L2 LamX NdefX
/-! ### a lambda with parameters and captured names, held by a value -/
structure LF where
  qual : Str
  params : Arguments
  body : Expr
  scope : Scope
  cl : List (Str × Addr)
  c : Addr
abbrev LF.fd (F : LF) (pm ctv : Value) : FuncData := PySem.W.kla_fn "<lambda>" F.qual F.params F.body F.scope F.cl pm (.ref F.c) ctv
/-- as a nested def without statements: the words that its frame needs -/
abbrev LF.nf (F : LF) : NF := ⟨"<lambda>", F.qual, F.params, [], F.scope, F.cl, F.c⟩
/-- the object at f is the lambda F -/
def LmO (f : Addr) (F : LF) : HO := .ext fun h => ∃ (od : Option Addr) (sl : Array (Option Value)) (pm ctv : Value), h.get? f = some (⟨.type "function", od, .func (F.fd pm ctv), sl⟩ : Obj)
theorem lmO_at {P : Program} {w : World} {H : Hp} {h : Heap} {f : Addr} {F : LF} (hok : HOk P w H h) (e : H f = some (LmO f F)) : ∃ (od : Option Addr) (sl : Array (Option Value)) (pm ctv : Value), h.get? f = some (⟨.type "function", od, .func (F.fd pm ctv), sl⟩ : Obj) := by
  obtain ⟨z, _, _⟩ := hok f _ e
  exact z
section
variable {X : Cx} {pins : List (Addr × Obj)} {σ : L2.St} {H : Hp} {s : Shared}
theorem inv_lm {F : LF} {o : Obj} {t' : Nat} {pm ctv : Value} (I : Inv X pins σ H s) (ho : o = { cls := .type "function", data := .func (F.fd pm ctv) }) :
    Inv X pins σ (upd H s.heap.objs.size (LmO s.heap.objs.size F)) { s with heap := s.heap.push o, toks := t' } := by
  subst ho
  refine I.laid (a := s.heap.objs.size) (fun b u e => Heap.get?_push_of_some _ e) (Nat.le_refl _) ?_
  have e : (s.heap.push ({ cls := .type "function", data := .func (F.fd pm ctv) } : Obj)).get? s.heap.objs.size = some ({ cls := .type "function", data := .func (F.fd pm ctv) } : Obj) := Heap.get?_push_size _ rfl
  exact ⟨⟨_, _, pm, ctv, e⟩, ⟨_, e⟩, fun h1 h2 ⟨od, sl, p, t, z⟩ st => ⟨od, sl, p, t, st _ z⟩⟩
/-- a table gets one entry more -/
theorem tabs_grown {T : List (Addr × Str)} {P c' : Addr} {q : Str} {ps : Array Value} {pos : Pos} (hT : Tabs T H) (hu : ∀ p ∈ T, p.1 = P → p.2 = q) (hP : H P = some (.tbl ps)) (nC : H c' = none) :
    Tabs T (upd (upd H P (.tbl (ps ++ #[rawInt pos.line, rawInt pos.col, .ref c']))) c' (CodeO c' q)) := by
  have cP : P ≠ c' := ne_of_none hP nC
  have old : ∀ {b : Addr} {x : Str}, H b = some (CodeO b x) → upd (upd H P (.tbl (ps ++ #[rawInt pos.line, rawInt pos.col, .ref c']))) c' (CodeO c' q) b = some (CodeO b x) := fun {b x} e => by
    have nb : b ≠ P := fun z => by
      rw [z, hP] at e
      cases e
    rw [upd_ne (ne_of_none e nC), upd_ne nb, e]
  rintro ⟨b, x⟩ hp
  obtain ⟨qs, hq, wf, ent⟩ := hT _ hp
  by_cases z : b = P
  · have ex : x = q := hu _ hp z
    subst z ex
    have eq : qs = ps := by
      have e := hq.symm.trans hP
      cases e
      rfl
    subst eq
    refine ⟨_, (upd_ne cP).trans upd_same, ?_, fun po cv h => ?_⟩
    · rw [Array.toList_append]
      exact PySem.TriplesOk_snoc _ _ _ _ wf
    · rw [Array.toList_append] at h
      obtain h | h := among_app _ wf h
      · obtain ⟨w, ew, hw⟩ := ent po cv h
        exact ⟨w, ew, old hw⟩
      · exact ⟨c', h, upd_same⟩
  · refine ⟨qs, (upd_ne (ne_of_none hq nC)).trans ((upd_ne z).trans hq), wf, fun po cv h => ?_⟩
    obtain ⟨w, ew, hw⟩ := ent po cv h
    exact ⟨w, ew, old hw⟩
/-- a lambda evaluated: what the library tells of its object, told of the described heap -/
theorem lm_make {T : List (Addr × Str)} {c P : Addr} {params : Arguments} {body : Expr} {scope : Scope} {pos : Pos} {E : Value → Shared → Prop} {Q : Value → Shared → Prop} (I : Inv X pins σ H s) (TB : TabB X.base X.mg c P) (hcode : X.env.code = .ref c)
    (hm : (P, X.env.qual ++ "<lambda>") ∈ T) (hu : ∀ p ∈ T, p.1 = P → p.2 = X.env.qual ++ "<lambda>") (hT : Tabs T H) (hdef : defaultsOf params X.env = ([], [])) (hfree : ∀ y ∈ scope.names, y.2 = .free → ∃ c, X.env.cells.lookup y.1 = some c)
    (h : ∀ (f c' : Addr) (H1 : Hp) (s' : Shared), Inv X pins σ H1 s' → ExtN H H1 → (∀ b, H1 b = none → H b = none) → Tabs T H1 → H f = none → H1 f = some (LmO f ⟨X.env.qual ++ "<lambda>", params, body, scope, cloFrom X.env.cells scope.names [], c'⟩) →
      H1 c' = some (CodeO c' (X.env.qual ++ "<lambda>")) → Q (.ref f) s') :
    wpAny (model X.prog X.w) X.A (eval (.Lambda params body scope pos) X.env) Q E s := by
  obtain ⟨ps, hP, wf, ent⟩ := hT _ hm
  have bi := TB.bm.keeps I.bk
  have hd := TB.code.keeps I.bk
  have gl := I.mod.glob.keeps I.bk
  have eP : s.heap.get? P = some { cls := .none, data := .fields ps } := I.hok P _ hP
  refine PySem.W.kla_eval hdef ?_
  -- one step more: the function's own object becomes known
  have last : ∀ (c' : Addr) (H0 : Hp) (h0 : Heap) (tk : Nat) (pm ctv : Value), Inv X pins σ H0 { s with heap := h0, toks := tk } → ExtN H H0 → (∀ b, H0 b = none → H b = none) → Tabs T H0 → H0 c' = some (CodeO c' (X.env.qual ++ "<lambda>")) →
      Q (.ref h0.objs.size) { s with heap := h0.push { cls := .type "function", data := .func (PySem.W.kla_fn "<lambda>" (X.env.qual ++ "<lambda>") params body scope (cloFrom X.env.cells scope.names []) pm (.ref c') ctv) }, toks := tk } := by
    intro c' H0 h0 tk pm ctv J x0 n0 t0 k0
    have free : H0 h0.objs.size = none := J.hok.fresh (Nat.le_refl _)
    have up : ∀ b o, H0 b = some o → upd H0 h0.objs.size (LmO h0.objs.size ⟨X.env.qual ++ "<lambda>", params, body, scope, cloFrom X.env.cells scope.names [], c'⟩) b = some o := fun b o e => (upd_ne (ne_of_none e free)).trans e
    exact h h0.objs.size c' _ _ (inv_lm (F := ⟨X.env.qual ++ "<lambda>", params, body, scope, cloFrom X.env.cells scope.names [], c'⟩) (t' := tk) (pm := pm) (ctv := ctv) J rfl)
      (fun b o e n => up b o (x0 b o e n)) (fun b e => n0 b (upd_none e)) (t0.ext up) (n0 _ free) upd_same (up _ _ k0)
  cases look : codeAmong pos ps.toList with
  | some cv =>
    obtain ⟨c', rfl, hc'⟩ := ent pos cv look
    exact PySem.W.kla_makeFunctionHit (closure_ok hfree) I.ok.glob gl hcode hd eP wf look bi fun ctv h' tk keep _ => last c' H h' tk _ ctv (I.kept keep) (ExtN.refl H) (fun _ e => e) hT hc'
  | none =>
    refine PySem.W.kla_makeFunction (closure_ok hfree) I.ok.glob gl hcode hd eP wf look TB.gP bi fun c' ctv h' tk keep lo hi rec tab => ?_
    obtain ⟨c2, oc, vs, t, e2, at_, da, nm⟩ := rec
    cases e2
    have nC : H c' = none := I.hok.fresh lo
    refine last c' _ h' tk _ ctv (inv_table (t' := tk) I hP keep tab lo ⟨oc, vs, t, at_, da, nm⟩) (fun b o e n => ?_) (fun b e => upd_none (upd_none e)) (tabs_grown hT hu hP nC) upd_same
    have nb : b ≠ P := fun z => n ps (by rw [z, hP] at e; exact (Option.some.inj e).symm)
    rw [upd_ne (ne_of_none e nC), upd_ne nb, e]
end
/-- the reading of a lambda: a new function; the table of its maker's code object may have grown -/
def tLm (T : List (Addr × Str)) (mk : Addr → LF) : TE := fun _ H Q => Tabs T H ∧ ∀ (f c' : Addr) (H1 : Hp), ExtN H H1 → (∀ b, H1 b = none → H b = none) → Tabs T H1 → H f = none → H1 f = some (LmO f (mk c')) → H1 c' = some (CodeO c' (mk c').qual) → Q (.ref f) H1
theorem pe_lm {X : Cx} {T : List (Addr × Str)} {c P : Addr} {params : Arguments} {body : Expr} {scope : Scope} {pos : Pos} (TB : TabB X.base X.mg c P) (hcode : X.env.code = .ref c) (hm : (P, X.env.qual ++ "<lambda>") ∈ T) (hu : ∀ p ∈ T, p.1 = P → p.2 = X.env.qual ++ "<lambda>")
    (hfree : ∀ y ∈ scope.names, y.2 = .free → X.env.scope.names.lookup y.1 = some .cell ∨ X.env.scope.names.lookup y.1 = some .free) (hdef : defaultsOf params X.env = ([], [])) :
    PE X (.Lambda params body scope pos) (tLm T fun c' => ⟨X.env.qual ++ "<lambda>", params, body, scope, cloFrom X.env.cells scope.names [], c'⟩) := by
  refine ⟨fun pins s σ H Q I h => ?_⟩
  obtain ⟨hT, h⟩ := h
  exact lm_make I TB hcode hm hu hT hdef (fun y hy e => (hfree y hy e).elim (fun z => I.ok.has _ (.inl z)) fun z => I.ok.has _ (.inr z)) fun f c' H1 s' I1 eN nn T1 f0 f1 c1 => ⟨.ref f, H1, I1, rfl, h f c' H1 eN nn T1 f0 f1 c1⟩
/-! ### what it promises -/
structure LmOk (P : Program) (w : World) (K : PySem.W.Frag) (mg : Str → Option Value) (base : Heap) (CX : CXT) (k : Nat) (f : Addr) (F : LF) (ps fr : List Str) (sp : List (Option V) → Sp) : Prop where
  len : ∀ ws vs H Q E, sp ws vs H Q E → vs.length = ps.length
  run : ∀ (A : Around) (outer : List Env) (s : Shared) (H : Hp) (us : List Value) (vs : List V) (ws : List (Option V)) (Q : VK) (E : XK), Room k A → Env0 P w K mg base A outer s H → H f = some (LmO f F) → H F.c = some (CodeO F.c F.qual) →
    CellsAt F.cl fr ws s.heap H → Vals vs us → sp ws vs H Q E → codeAny (model P w) A (.call (.ref f) ⟨us, []⟩) (CR CX outer P w H s Q E) s
section
variable {CX : CXT} {P : Program} {w : World} {K : PySem.W.Frag} {mg : Str → Option Value} {base : Heap} {N ps fr : List Str} {F : LF} {f : Addr} {k j : Nat} {sp sp' : List (Option V) → Sp}
theorem lmok_of (S : NScope N ps fr F.scope) (hb : ∀ (pm ctv : Value) (us : List Value), us.length = ps.length → bindArgs (F.fd pm ctv) ⟨us, []⟩ = pure (ps.zip us)) (len : ∀ ws vs H Q E, sp ws vs H Q E → vs.length = ps.length)
    (hbody : ∀ (A : Around) (outer : List Env) (s : Shared) (H : Hp) (vs : List V) (ws : List (Option V)) (Q : VK) (E : XK), Room k (A.deeper (envF F.nf f s.heap.objs.size)) → ws.length = fr.length → sp ws vs H Q E →
      ∃ t, PE (ncx CX P w K mg base N F.nf f A outer s H E) F.body t ∧ t (startF N vs ws) H Q) :
    LmOk P w K mg base CX (k + 1) f F ps fr sp := by
  refine ⟨len, fun A outer s H us vs ws Q E hr e0 hf hc C r hsp => ?_⟩
  have hl := len _ _ _ _ _ hsp
  have lim : s.heap.NoLimit := e0.mod.nolimit.keeps fun b o e => (e0.bs b o e).1
  obtain ⟨od, sl, pm, ctv, ho⟩ := lmO_at e0.hok hf
  refine PySem.W.kla_callFunE hr.depth ho rfl S.co S.gen rfl (codeO_at e0.hok hc) ?_
  rw [hb pm ctv us (by rw [← r.length]; exact hl)]
  refine wpAny_pure (wpAny_newFunctionEnv S.nocell (fun ⟨n, _⟩ hy => S.par n (List.of_mem_zip hy).1) (fun h₁ hns hsb => ⟨lim.fresh _ hsb, ?_⟩) S.kind)
  show codeAny _ _ (.expr F.body (envF F.nf f s.heap.objs.size)) _ _
  have kp : ∀ b o, s.heap.get? b = some o → h₁.get? b = some o := fun b o e => hsb.extBut b o (Nat.ne_of_lt (Heap.lt_size e)) (Heap.get?_push_of_some _ e)
  obtain ⟨t, ht, hq⟩ := hbody A outer s H vs ws Q E (hr.deeper _) C.len hsp
  have I : Inv (ncx CX P w K mg base N F.nf f A outer s H E) [] (startF N vs ws) H { s with heap := h₁, toks := s.toks + (ps.zip us).length } := inv_startN (F := F.nf) S hr.hd e0 hl r C hns kp
  refine PySem.W.kla_codeExpr (wpAny_mono (ht.run [] _ (startF N vs ws) H Q I hq) (fun v s' hs => ?_) fun e s' hs => hs)
  obtain ⟨v', H', J, rv, q⟩ := hs
  exact ⟨v', H', J.os, J.bare, J.base, J.hok, rv, q⟩
end
end TL
namespace TL
open PySem PySem.Spec PyProof.Rows L2 LamX NdefX
/-! ### captured cells, told while other defs run; untold while the lambda runs -/
def CellO (c : Addr) (o : Obj) : HO := .ext fun h => h.get? c = some o
theorem cellO_at {P : Program} {w : World} {H : Hp} {h : Heap} {c : Addr} {o : Obj} (hok : HOk P w H h) (e : H c = some (CellO c o)) : h.get? c = some o := by
  obtain ⟨z, _, _⟩ := hok c _ e
  exact z
theorem cellO_ok {P : Program} {w : World} {H : Hp} {h : Heap} {c : Addr} {o : Obj} (e : h.get? c = some o) : ObjOk P w H h c (CellO c o) := ⟨e, ⟨_, e⟩, fun h1 h2 z st => st _ z⟩
structure CellsG (H : Hp) (cl : List (Str × Addr)) (fr : List Str) (ws : List (Option V)) : Prop where
  len : ws.length = fr.length
  all : ∀ c ∈ cl.map (·.2), ∃ o v, H c = some (CellO c o) ∧ o.data = .cell v
  inj : ∀ x y c, cl.lookup x = some c → cl.lookup y = some c → x = y
  has : ∀ (i : Nat) (y : Str), fr[i]? = some y → ∃ c, cl.lookup y = some c ∧ ∀ v, ws[i]? = some (some v) → ∃ o u, H c = some (CellO c o) ∧ o.data = .cell (some u) ∧ L2.RelV v u
def offC (cl : List (Str × Addr)) (H : Hp) : Hp := fun b => if b ∈ cl.map (·.2) then none else H b
def onC (cl : List (Str × Addr)) (H H' : Hp) : Hp := fun b => if b ∈ cl.map (·.2) then H b else H' b
theorem offC_in {cl : List (Str × Addr)} {H : Hp} {b : Addr} (h : b ∈ cl.map (·.2)) : offC cl H b = none := if_pos h
theorem offC_out {cl : List (Str × Addr)} {H : Hp} {b : Addr} (h : b ∉ cl.map (·.2)) : offC cl H b = H b := if_neg h
theorem onC_in {cl : List (Str × Addr)} {H H' : Hp} {b : Addr} (h : b ∈ cl.map (·.2)) : onC cl H H' b = H b := if_pos h
theorem onC_out {cl : List (Str × Addr)} {H H' : Hp} {b : Addr} (h : b ∉ cl.map (·.2)) : onC cl H H' b = H' b := if_neg h
theorem offC_none {cl : List (Str × Addr)} {H : Hp} {b : Addr} (h : H b = none) : offC cl H b = none := by
  unfold offC
  split
  · rfl
  · exact h
theorem offC_some {cl : List (Str × Addr)} {H : Hp} {b : Addr} {o : HO} (h : offC cl H b = some o) : b ∉ cl.map (·.2) ∧ H b = some o := by
  unfold offC at h
  split at h
  · cases h
  · rename_i n
    exact ⟨n, h⟩
theorem lookup_in {cl : List (Str × Addr)} {y : Str} {c : Addr} (h : cl.lookup y = some c) : c ∈ cl.map (·.2) := List.mem_map.mpr ⟨(y, c), PySem.mem_of_lookup h, rfl⟩
/-- an entry that is no cell's description does not lie there -/
theorem CellsG.out {H : Hp} {cl : List (Str × Addr)} (all : ∀ c ∈ cl.map (·.2), ∃ o v, H c = some (CellO c o) ∧ o.data = .cell v) {b : Addr} {u : HO} (e : H b = some u) (n : ∀ φ, u ≠ .ext φ) : b ∉ cl.map (·.2) := fun hb => by
  obtain ⟨o, v, h, _⟩ := all b hb
  rw [e] at h
  exact n _ (Option.some.inj h)
theorem CellsG.far {P : Program} {w : World} {H : Hp} {h : Heap} {cl : List (Str × Addr)} (all : ∀ c ∈ cl.map (·.2), ∃ o v, H c = some (CellO c o) ∧ o.data = .cell v) (hok : HOk P w H h) {b : Addr} {ob : Obj} (e : h.get? b = some ob) (n : ∀ v, ob.data ≠ .cell v) : b ∉ cl.map (·.2) := fun hb => by
  obtain ⟨o, v, hc, hd⟩ := all b hb
  have := cellO_at hok hc
  rw [e] at this
  cases this
  exact n _ hd
section
variable {P : Program} {w : World} {K : PySem.W.Frag} {mg : Str → Option Value} {base : Heap} {A : Around} {outer : List Env} {s s' : Shared} {H : Hp} {cl : List (Str × Addr)} {fr : List Str} {ws : List (Option V)}
theorem CellsG.at (C : CellsG H cl fr ws) (hok : HOk P w H s.heap) : CellsAt cl fr ws s.heap (offC cl H) := by
  refine ⟨C.len, fun y c e => ?_, C.inj, fun i y e => ?_⟩
  · obtain ⟨o, v, h, hd⟩ := C.all c (lookup_in e)
    exact ⟨offC_in (lookup_in e), v, o, cellO_at hok h, hd⟩
  · obtain ⟨c, hc, hv⟩ := C.has i y e
    refine ⟨c, hc, fun v ev => ?_⟩
    obtain ⟨o, u, h, hd, r⟩ := hv v ev
    exact ⟨u, r, o, cellO_at hok h, hd⟩
theorem hok_off (all : ∀ c ∈ cl.map (·.2), ∃ o v, H c = some (CellO c o) ∧ o.data = .cell v) (hok : HOk P w H s.heap) : HOk P w (offC cl H) s.heap := fun a o e => by
  obtain ⟨_, e⟩ := offC_some e
  exact (hok a o e).stay (fun b u _ q => q) (fun b q => (offC_out (CellsG.out all q fun φ z => by cases z)).trans q) fun b xs q => (offC_out (CellsG.out all q fun φ z => by cases z)).trans q
theorem env0_off (all : ∀ c ∈ cl.map (·.2), ∃ o v, H c = some (CellO c o) ∧ o.data = .cell v) (e0 : Env0 P w K mg base A outer s H) : Env0 P w K mg base A outer s (offC cl H) :=
  ⟨e0.frames, e0.mod, fun b o e => ⟨(e0.bs b o e).1, offC_none (e0.bs b o e).2⟩, e0.bsz, e0.funs, fun b hb => offC_none (e0.frf b hb), hok_off all e0.hok, e0.bare⟩
theorem ce_on {Q : VK} {u : Value} (all : ∀ c ∈ cl.map (·.2), ∃ o v, H c = some (CellO c o) ∧ o.data = .cell v) (e0 : Env0 P w K mg base A outer s H) (h : CE outer P w (offC cl H) s (fun v H' => Q v (onC cl H H')) u s') : CE outer P w H s Q u s' := by
  obtain ⟨v, H', os, bare, un, hok', r, q⟩ := h
  have nin : ∀ b, b ∈ cl.map (·.2) → H' b = none := fun b hb => by
    obtain ⟨o, _, hc, _⟩ := all b hb
    exact un.free b o (cellO_at e0.hok hc) (offC_in hb) (by simp)
  refine ⟨v, onC cl H H', os, bare, ⟨fun b o e n hb hx => un.keep b o e (offC_none n) hb hx, fun b o e n hb hx => un.slot b o e (offC_none n) hb hx, fun b o e n hx => ?_, fun b o e hx => un.there b o e hx, fun b xs e => ?_, fun b o u e => ?_, fun b ps e => ?_⟩, fun a o e => ?_, r, q⟩
  · by_cases hb : b ∈ cl.map (·.2)
    · rw [onC_in hb]
      exact n
    · rw [onC_out hb]
      exact un.free b o e (offC_none n) hx
  · have hb := CellsG.out all e fun φ z => by cases z
    rw [onC_out hb]
    exact un.tups b xs ((offC_out hb).trans e)
  · have hb := CellsG.out all e fun φ z => by cases z
    rw [onC_out hb]
    exact un.frzs b o u ((offC_out hb).trans e)
  · have hb := CellsG.out all e fun φ z => by cases z
    rw [onC_out hb]
    exact un.tbls b ps ((offC_out hb).trans e)
  · by_cases ha : a ∈ cl.map (·.2)
    · rw [onC_in ha] at e
      obtain ⟨ob, _, hc, _⟩ := all a ha
      rw [hc] at e
      cases e
      refine cellO_ok (un.keep a ob (cellO_at e0.hok hc) (offC_in ha) (fun hf => ?_) (by simp))
      rw [e0.frf a hf] at hc
      cases hc
    · rw [onC_out ha] at e
      have up : ∀ b u, H' b = some u → onC cl H H' b = some u := fun b u q => (onC_out fun hb => by rw [nin b hb] at q; cases q).trans q
      exact (hok' a o e).stay (fun b u _ q => q) (fun b q => up b _ q) fun b xs q => up b _ q
end
section
variable {X : Cx} {pins : List (Addr × Obj)} {σ : L2.St} {H : Hp} {s : Shared}
theorem lmAt_of {f : Addr} {F : LF} (I : Inv X pins σ H s) (e : H f = some (LmO f F)) : PySem.W.FnAt f s.heap := by
  obtain ⟨od, sl, pm, ctv, ho⟩ := lmO_at I.hok e
  exact ⟨_, od, _, sl, ho⟩
theorem run_lm {k : Nat} {f : Addr} {F : LF} {ps fr : List Str} {sp : List (Option V) → Sp} {ws : List (Option V)} {us : List Value} {vs : List V} {Q : VK} (Fn : LmOk X.prog X.w X.K X.mg X.base CX0 k f F ps fr sp) (hr : Room k X.A) (I : Inv X pins σ H s)
    (hf : H f = some (LmO f F)) (hc : H F.c = some (CodeO F.c F.qual)) (C : CellsG H F.cl fr ws) (r : Vals vs us) (q : sp ws vs (offC F.cl H) (fun v H' => Q v (onC F.cl H H')) E0) : wpAny (model X.prog X.w) X.A (call (.ref f) us) (EP X pins σ Q) X.xe s := by
  have n1 : f ∉ F.cl.map (·.2) := by
    obtain ⟨od, sl, pm, ctv, ho⟩ := lmO_at I.hok hf
    exact CellsG.far C.all I.hok ho fun v z => by cases z
  have n2 : F.c ∉ F.cl.map (·.2) := by
    obtain ⟨⟨oc, vs, t, h1, h2, h3⟩, _, _⟩ := I.hok F.c _ hc
    exact CellsG.far C.all I.hok h1 fun v z => by rw [h2] at z; cases z
  refine wpAny_call (codeAny_mono (Fn.run X.A X.stack s (offC F.cl H) us vs ws _ E0 hr (env0_off C.all I.env0) ((offC_out n1).trans hf) ((offC_out n2).trans hc) (C.at I.hok) r q) fun r s' hq => ?_)
  cases r with
  | error e => exact (show False from hq).elim
  | ok fl =>
    cases fl with
    | ret u => exact I.after (ce_on C.all I.env0 hq)
    | next => exact False.elim hq
    | brk => exact False.elim hq
    | cont => exact False.elim hq
end
/-- x(e, ..), x a name that holds a lambda -/
def tCallLm (P : Program) (w : World) (K : PySem.W.Frag) (mg : Str → Option Value) (base : Heap) (k i : Nat) (t : TA) : TE := fun σ H Q => ∃ (f : Addr) (F : LF) (ps fr : List Str) (ws : List (Option V)) (sp : List (Option V) → Sp), σ[i]? = some (some (.ref f)) ∧ H f = some (LmO f F) ∧ LmOk P w K mg base CX0 k f F ps fr sp ∧
  t σ H fun vs H1 => H1 f = some (LmO f F) ∧ H1 F.c = some (CodeO F.c F.qual) ∧ CellsG H1 F.cl fr ws ∧ sp ws vs (offC F.cl H1) (fun v H' => Q v (onC F.cl H1 H')) E0
theorem pe_callLm {X : Cx} {k i : Nat} {x : Str} {t : TA} {e : Expr} {es : List Expr} {p pos : Pos} (hr : Room k X.A) (hN : X.N[i]? = some x) (hv : Vis X.env.scope x) (ha : PA X (e :: es) t)
    (hd : (x == ("__debug__" : Str)) = false := by decide) (hcd : (x == ("__classdict__" : Str)) = false := by decide)
    (he : starEach (e :: es) X.env = (false, eval e X.env) :: starEach es X.env := by rfl) (hpl : (backTo pos (starEach es X.env)).any (·.1) = false := by rfl) :
    PE X (.Call (.Name x p) (e :: es) [] pos) (tCallLm X.prog X.w X.K X.mg X.base k i t) := by
  refine ⟨fun pins s σ H Q I h => ?_⟩
  obtain ⟨f, F, ps, fr, ws, sp, hs, hf, Fn, ht⟩ := h
  refine wpAny_Call_Name_kw (thn ((pe_var (pos := p) hN hv hd hcd).run pins s σ H (fun v H1 => v = .ref f ∧ H1 = H) I ⟨.ref f, hs, rfl, rfl⟩) fun u s1 ⟨v, H1, I1, r1, q1⟩ => ?_)
  obtain ⟨ev, eH⟩ := q1
  subst ev
  rw [eH] at I1
  obtain rfl : u = Value.ref f := r1
  refine PySem.W.callWith_F (first := []) (lmAt_of I1 hf) (thn (ha.run pos pins s1 σ H _ I1 ht) fun us s2 ⟨vs, H2, I2, r, h1, hc, C, q⟩ => ⟨lmAt_of I2 h1, ?_⟩) he hpl
  show wpAny _ _ (call (.ref f) us) _ _ _
  exact run_lm Fn hr I2 h1 hc C r q
/-! ### the def that made the lambda hands it on: its cells are told -/
def onCells (h : Heap) (cl : List (Str × Addr)) (H : Hp) : Hp := fun b => if b ∈ cl.map (·.2) then (h.get? b).map (CellO b) else H b
section
variable {X : Cx} {pins : List (Addr × Obj)} {σ : L2.St} {H : Hp} {s s' : Shared} {cl : List (Str × Addr)} {fr : List Str} {js : List Nat}
theorem cells_told (I : Inv X pins σ H s) (hs : ∀ c ∈ cl.map (·.2), ∃ y, X.env.cells.lookup y = some c) : ∀ c ∈ cl.map (·.2), ∃ o v, onCells s.heap cl H c = some (CellO c o) ∧ o.data = .cell v := fun c hc => by
  obtain ⟨y, hy⟩ := hs c hc
  obtain ⟨v, o, ho, hd⟩ := I.cell y c hy
  refine ⟨o, v, ?_, hd⟩
  show (if c ∈ cl.map (·.2) then (s.heap.get? c).map (CellO c) else H c) = _
  rw [if_pos hc, ho]
  rfl
theorem onCells_out {h : Heap} {b : Addr} (hb : b ∉ cl.map (·.2)) : onCells h cl H b = H b := if_neg hb
theorem cells_same (I : Inv X pins σ H s) (hs : ∀ c ∈ cl.map (·.2), ∃ y, X.env.cells.lookup y = some c) : Same H (onCells s.heap cl H) := fun b o e => by
  refine (onCells_out fun hb => ?_).trans e
  obtain ⟨y, hy⟩ := hs b hb
  rw [I.freeC y b hy] at e
  cases e
theorem env0_on (I : Inv X pins σ H s) (hs : ∀ c ∈ cl.map (·.2), ∃ y, X.env.cells.lookup y = some c) (hf : ∀ x, X.fn x = true) : Env0 X.prog X.w X.K X.mg X.base X.A X.stack s (onCells s.heap cl H) := by
  have e0 := I.env0
  have far : ∀ b, (∃ o, X.s_0.heap.get? b = some o) → b ∉ cl.map (·.2) := fun b ⟨o, ho⟩ hb => by
    obtain ⟨y, hy⟩ := hs b hb
    exact absurd (Nat.lt_of_lt_of_le (Heap.lt_size ho) (I.ok.cab y b (hf y) hy)) (Nat.lt_irrefl _)
  have frn : ∀ b ∈ frs X.stack, b ∉ cl.map (·.2) := fun b hb => by
    rcases List.mem_cons.mp (I.stkSub b hb) with e | e
    · intro hc
      obtain ⟨y, hy⟩ := hs b hc
      exact I.cne y b hy e
    · obtain ⟨_, o, ho, _⟩ := I.ok.funs.mem e
      exact far b ⟨o, ho⟩
  refine ⟨e0.frames, e0.mod, fun b o e => ⟨(e0.bs b o e).1, ?_⟩, e0.bsz, e0.funs, fun b hb => (onCells_out (frn b hb)).trans (e0.frf b hb), fun a o e => ?_, e0.bare⟩
  · rw [onCells_out (far b ⟨o, (I.ok.bs b o e).1⟩)]
    exact (e0.bs b o e).2
  · by_cases ha : a ∈ cl.map (·.2)
    · obtain ⟨ob, v, hc, hd⟩ := cells_told I hs a ha
      obtain ⟨y, hy⟩ := hs a ha
      obtain ⟨v2, o2, ho2, hd2⟩ := I.cell y a hy
      rw [show onCells s.heap cl H a = some (CellO a o2) by
        show (if a ∈ cl.map (·.2) then (s.heap.get? a).map (CellO a) else H a) = _
        rw [if_pos ha, ho2]
        rfl] at e
      cases e
      exact cellO_ok ho2
    · rw [onCells_out ha] at e
      exact (I.hok a o e).stay (fun b u _ q => q) (fun b q => cells_same I hs b _ q) fun b xs q => cells_same I hs b _ q
theorem cellsG_on (I : Inv X pins σ H s) (cp : Caps X cl fr js) (hs : ∀ c ∈ cl.map (·.2), ∃ y, X.env.cells.lookup y = some c) : CellsG (onCells s.heap cl H) cl fr (js.map (slotAt σ)) := by
  have C := cells_of I cp
  refine ⟨C.len, cells_told I hs, C.inj, fun i y e => ?_⟩
  obtain ⟨c, hc, hv⟩ := C.has i y e
  refine ⟨c, hc, fun v ev => ?_⟩
  obtain ⟨u, r, o, ho, hd⟩ := hv v ev
  refine ⟨o, u, ?_, hd, r⟩
  show (if c ∈ cl.map (·.2) then (s.heap.get? c).map (CellO c) else H c) = _
  rw [if_pos (lookup_in hc), ho]
  rfl
theorem ce_off {Q : VK} {u : Value} (I : Inv X pins σ H s) (hs : ∀ c ∈ cl.map (·.2), ∃ y, X.env.cells.lookup y = some c) (hf : ∀ x, X.fn x = true)
    (h : CE X.stack X.prog X.w (onCells s.heap cl H) s (fun v H' => (∀ c ∈ cl.map (·.2), H' c = onCells s.heap cl H c) ∧ Q v (offC cl H')) u s') : CE X.stack X.prog X.w H s Q u s' := by
  obtain ⟨v, H', os, bare, un, hok', r, kc, q⟩ := h
  have told := cells_told I hs
  have e1 := env0_on I hs hf
  have all' : ∀ c ∈ cl.map (·.2), ∃ o v, H' c = some (CellO c o) ∧ o.data = .cell v := fun c hc => by
    obtain ⟨o, v, h1, h2⟩ := told c hc
    exact ⟨o, v, (kc c hc).trans h1, h2⟩
  have frn : ∀ b ∈ frs X.stack, b ∉ cl.map (·.2) := fun b hb hc => by
    obtain ⟨o, v, h1, _⟩ := told b hc
    rw [e1.frf b hb] at h1
    cases h1
  have up : ∀ b u, H b = some u → onCells s.heap cl H b = some u := cells_same I hs
  have nin : ∀ {b u}, H b = some u → b ∉ cl.map (·.2) := fun {b u} e hb => by
    obtain ⟨y, hy⟩ := hs b hb
    rw [I.freeC y b hy] at e
    cases e
  refine ⟨v, offC cl H', os, bare, ⟨fun b o e n hb hx => ?_, fun b o e n hb hx => un.slot b o e ((onCells_out (frn b hb)).trans n) hb hx, fun b o e n hx => ?_, fun b o e hx => un.there b o e hx, fun b xs e => ?_, fun b o u e => ?_, fun b ps e => ?_⟩, ?_, r, q⟩
  · by_cases hc : b ∈ cl.map (·.2)
    · obtain ⟨ob, v, h1, _⟩ := told b hc
      have g1 := cellO_at e1.hok h1
      rw [e] at g1
      cases g1
      exact cellO_at hok' ((kc b hc).trans h1)
    · exact un.keep b o e ((onCells_out hc).trans n) hb hx
  · by_cases hc : b ∈ cl.map (·.2)
    · exact offC_in hc
    · rw [offC_out hc]
      exact un.free b o e ((onCells_out hc).trans n) hx
  · rw [offC_out (nin e)]
    exact un.tups b xs (up b _ e)
  · rw [offC_out (nin e)]
    exact un.frzs b o u (up b _ e)
  · rw [offC_out (nin e)]
    exact un.tbls b ps (up b _ e)
  · exact hok_off (s := s') all' hok'
theorem clo_cells {cells : List (Str × Addr)} {names : List (Str × NameKind)} (hfree : ∀ y ∈ names, y.2 = .free → ∃ c, cells.lookup y.1 = some c) : ∀ c ∈ (cloFrom cells names []).map (·.2), ∃ y, cells.lookup y = some c := fun c hc => by
  obtain ⟨⟨y, c'⟩, hm, e⟩ := List.mem_map.mp hc
  have e : c' = c := e
  subst e
  rcases cloFrom_mem hm with z | ⟨h1, h2⟩
  · cases z
  · obtain ⟨c1, h3⟩ := hfree _ h1 rfl
    have h3 : cells.lookup y = some c1 := h3
    refine ⟨y, ?_⟩
    rw [h2, h3]
    rfl
end
/-- o.x(e, .., k = v, ..), the cells of a lambda among the arguments told -/
def tMethAKL (C : Addr) (m : Str) (sp : Sp) (np nk : Nat) (cl : List (Str × Addr)) (fr : List Str) (js : List Nat) (ta : TE) (t tk : TA) : TE := fun σ H Q => ta σ H fun x H1 => ∃ a dx fs, x = .ref a ∧ H1 a = some (.ins C dx fs) ∧ fs.lookup m = none ∧
  t σ H1 fun vs H2 => tk σ H2 fun zs H3 => vs.length = np ∧ zs.length = nk ∧ ∀ Hc, Same H3 Hc → (∀ b ∈ cl.map (·.2), H3 b = none) → CellsG Hc cl fr (js.map (slotAt σ)) →
    sp (x :: (vs ++ zs)) Hc (fun v H' => (∀ c ∈ cl.map (·.2), H' c = Hc c) ∧ Q v (offC cl H')) E0
theorem pe_mtakL {X : Cx} {k n m : Nat} {ps ks : List Str} {sp : Sp} {C : Addr} {x : Str} {pos apos : Pos} {e o : Expr} {es : List Expr} {kws : List Keyword} {ta : TE} {t tk : TA} {scope : Scope} {fr : List Str} {js : List Nat} {pl : Sem Bool} (M : MtK X.prog X.w X.K X.mg X.base C x k ps ks (n + 1) m sp) (hr : Room k X.A) (he : PE X o ta) (ha : PA X (e :: es) t) (hkw : PK X kws tk)
    (hfree : ∀ y ∈ scope.names, y.2 = .free → X.env.scope.names.lookup y.1 = some .cell ∨ X.env.scope.names.lookup y.1 = some .free) (hfr : ∀ y ∈ fr, (y, NameKind.free) ∈ scope.names) (hjs : js.map (fun j => X.N[j]?) = fr.map some) (hfn : ∀ x, X.fn x = true)
    (hall : (backToKw pos (keywordEach kws X.env)).all (·.1.isSome) = true := by rfl) (hks : (backToKw pos (keywordEach kws X.env)).filterMap (·.1) = ks := by rfl)
    (hst : starEach (e :: es) X.env = (false, eval e X.env) :: starEach es X.env := by rfl)
    (hpl : ((backTo pos (starEach (e :: es) X.env)).any (·.1) || (backToKw pos (keywordEach kws X.env)).any (·.1.isNone)) = false := by rfl)
    (ht : eval (.Call (.Attribute o x apos) (e :: es) kws pos) X.env = (do
      let ov ← eval o X.env
      standAt apos.atName
      let (f, first) ← holding [ov] (getMethod ov x pl)
      callWith pos f first (backTo pos (starEach (e :: es) X.env)) (backToKw pos (keywordEach kws X.env))) := by rfl) :
    PE X (.Call (.Attribute o x apos) (e :: es) kws pos) (tMethAKL C x sp n m (cloFrom X.env.cells scope.names []) fr js ta t tk) := by
  obtain ⟨f, fd, F, hm, hb⟩ := M.ex
  refine ⟨fun pins s σ H Q I h => ?_⟩
  refine PySem.W.methodCall_KW (pl := pl) (thn (he.run pins s σ H _ I h) fun u s1 ⟨x, H1, I1, rx, a, dx, fs, ex, ea, l, q⟩ => ?_) ht
  subst ex
  obtain rfl : u = Value.ref a := rx
  refine getmeth_ok I1 ea M.cl hm l ?_
  refine PySem.W.callWith_KW (first := [.ref a]) (h₀ := X.base) I.ok.mod.kin hm.kp hall (thn (ha.run pos pins s1 σ H1 _ I1 q) fun us s2 ⟨vs, H2, I2, r, q2⟩ => ?_) hpl hst
  refine thn (hkw.run pos pins s2 σ H2 _ I2 q2) fun ws s3 ⟨zs, H3, I3, rz, hv, hz, q3⟩ => ⟨I3.kIn, ?_⟩
  rw [hks]
  have hf : ∀ y ∈ scope.names, y.2 = .free → ∃ c, X.env.cells.lookup y.1 = some c := fun y hy e => (hfree y hy e).elim (fun z => I3.ok.has _ (.inl z)) fun z => I3.ok.has _ (.inr z)
  have hs := clo_cells hf
  have cp : Caps X (cloFrom X.env.cells scope.names []) fr js := Caps.made I3.ok hfree hfr hjs
  have q4 := q3 (onCells s3.heap (cloFrom X.env.cells scope.names []) H3) (cells_same I3 hs) (fun b hb => (hs b hb).elim fun y hy => I3.freeC y b hy) (cellsG_on I3 cp hs)
  have r2 : Vals (gK (n + 1) m (V.ref a :: vs) zs) (gK (n + 1) m (Value.ref a :: us) ws) := hb.rel (.cons rfl r) rz
  rw [gK_eq (us := V.ref a :: vs) (by rw [List.length_cons, hv]) hz] at r2
  have hl : (gK (n + 1) m (Value.ref a :: us) ws).length = ps.length := by rw [← r2.length]; exact F.len _ _ _ _ q4
  refine wpAny_call (codeAny_mono (F.run X.A X.stack s3 _ ⟨Value.ref a :: us, ks.zip ws⟩ _ _ _ E0 hr (env0_on I3 hs hfn) (hb.to s3 _ ws I3.kIn hl) r2 q4) fun r s' hq => ?_)
  cases r with
  | error e => exact (show False from hq).elim
  | ok fl =>
    cases fl with
    | ret u => exact I3.after (ce_off I3 hs hfn hq)
    | next => exact False.elim hq
    | brk => exact False.elim hq
    | cont => exact False.elim hq
end TL
namespace TL
/-! ### locks: no lamp of it has a neighbour without another one of it -/
def Cl (m : Nat) (es : List (Int × Int)) (T : List Int) : Prop := ∀ x ∈ T, ∀ v ∈ nearL m es x, oth m es T x v ≠ []
theorem Cl.other {m : Nat} {es : List (Int × Int)} {T : List Int} (h : Cl m es T) {x v : Int} (hx : x ∈ T) (hv : v ∈ nearL m es x) : ∃ y ∈ T, y ≠ x ∧ y ∈ nearL m es v := by
  obtain ⟨y, hy⟩ := List.exists_mem_of_ne_nil _ (h x hx v hv)
  obtain ⟨h1, h2, h3⟩ := mem_oth.mp hy
  exact ⟨y, h2, h3, h1⟩
theorem Cl.of {m : Nat} {es : List (Int × Int)} {T : List Int} (h : ∀ x ∈ T, ∀ v ∈ nearL m es x, ∃ y ∈ T, y ≠ x ∧ y ∈ nearL m es v) : Cl m es T := fun x hx v hv e => by
  obtain ⟨y, h1, h2, h3⟩ := h x hx v hv
  have : y ∈ oth m es T x v := mem_oth.mpr ⟨h3, h1, h2⟩
  rw [e] at this
  cases this
structure IsGr (m : Nat) (es : List (Int × Int)) (S G : List Int) : Prop where
  asc : Asc G
  sub : ∀ x ∈ G, x ∈ S
  cl : Cl m es G
  max : ∀ T : List Int, (∀ x ∈ T, x ∈ S) → Cl m es T → ∀ x ∈ T, x ∈ G
theorem IsGr.mono {m : Nat} {es : List (Int × Int)} {S S' G G' : List Int} (h : IsGr m es S G) (h' : IsGr m es S' G') (s : ∀ x ∈ S, x ∈ S') : ∀ x ∈ G, x ∈ G' :=
  h'.max G (fun x hx => s x (h.sub x hx)) h.cl
theorem IsGr.uniq {m : Nat} {es : List (Int × Int)} {S G G' : List Int} (h : IsGr m es S G) (h' : IsGr m es S G') : G = G' :=
  asc_ext h.asc h'.asc fun x => ⟨h.mono h' (fun _ z => z) x, h'.mono h (fun _ z => z) x⟩
theorem IsGr.set {m : Nat} {es : List (Int × Int)} {S G : List Int} (h : IsGr m es S G) (iss : IsSet m es S) : IsSet m es G :=
  ⟨h.asc, fun v hv => iss.rng v (h.sub v hv), fun u hu v hv => iss.free u (h.sub u hu) v (h.sub v hv)⟩
theorem IsGr.self {m : Nat} {es : List (Int × Int)} {S G G' : List Int} (h : IsGr m es S G) (h' : IsGr m es G G') : G' = G :=
  asc_ext h'.asc h.asc fun x => ⟨h'.sub x, h'.max G (fun _ z => z) h.cl x⟩
/-! ### slides and locks -/
theorem IsGr.fixed {m : Nat} {es : List (Int × Int)} {S G : List Int} (h : IsGr m es S G) {u v : Int} (p : (u, v) ∈ slidesP m es S) : u ∉ G ∧ ∀ o ∈ nearL m es v, o ∉ G := by
  obtain ⟨hu, hv, ho⟩ := mem_slidesP.mp p
  have nu : u ∉ G := fun z => by
    obtain ⟨y, y1, y2, y3⟩ := h.cl.other z hv
    have : y ∈ oth m es S u v := mem_oth.mpr ⟨y3, h.sub y y1, y2⟩
    rw [ho] at this
    cases this
  refine ⟨nu, fun o h1 z => ?_⟩
  by_cases e : o = u
  · subst e
    exact nu z
  · have : o ∈ oth m es S u v := mem_oth.mpr ⟨h1, h.sub o z, e⟩
    rw [ho] at this
    cases this
theorem IsGr.none {m : Nat} {es : List (Int × Int)} {S G : List Int} (h : IsGr m es S G) (asc : Asc S) : slidesP m es S = [] ↔ G = S := by
  constructor
  · intro e
    refine asc_ext h.asc asc fun x => ⟨h.sub x, h.max S (fun _ z => z) (fun x hx v hv eo => ?_) x⟩
    have : (x, v) ∈ slidesP m es S := mem_slidesP.mpr ⟨hx, hv, eo⟩
    rw [e] at this
    cases this
  · rintro rfl
    refine List.eq_nil_iff_forall_not_mem.mpr fun p hp => ?_
    obtain ⟨u, v⟩ := p
    exact (h.fixed hp).1 (mem_slidesP.mp hp).1
theorem IsGr.len {m : Nat} {es : List (Int × Int)} {S G : List Int} (h : IsGr m es S G) (asc : Asc S) : G.length ≤ S.length ∧ (G.length < S.length ↔ G ≠ S) := by
  have le : G.length ≤ S.length := h.asc.nodup.length_le_of_subset h.sub
  refine ⟨le, fun z e => ?_, fun ne => ?_⟩
  · rw [e] at z
    exact Nat.lt_irrefl _ z
  · refine Nat.lt_of_le_of_ne le fun e => ne ?_
    refine asc_ext h.asc asc fun x => ⟨h.sub x, fun hx => ?_⟩
    by_cases hg : x ∈ G
    · exact hg
    · exfalso
      have nd : (x :: G).Nodup := List.nodup_cons.mpr ⟨hg, h.asc.nodup⟩
      have := nd.length_le_of_subset (l₂ := S) fun y hy => by
        rcases List.mem_cons.mp hy with rfl | hy
        · exact hx
        · exact h.sub y hy
      rw [List.length_cons] at this
      omega
theorem IsGr.slid {m : Nat} {es : List (Int × Int)} {S G G' : List Int} (f : IsFor m es) (iss : IsSet m es S) (h : IsGr m es S G) {u v : Int} (p : (u, v) ∈ slidesP m es S) (h' : IsGr m es (after S u v) G') : G' = G := by
  have q := slide_back f iss p
  have bk := after_back f iss p
  refine asc_ext h'.asc h.asc fun x => ⟨fun hx => ?_, fun hx => ?_⟩
  · refine h.max G' (fun y hy => ?_) h'.cl x hx
    rcases mem_after.mp (h'.sub y hy) with ⟨h1, _⟩ | h1
    · exact h1
    · exact absurd (h1 ▸ hy) (h'.fixed q).1
  · refine h'.max G (fun y hy => ?_) h.cl x hx
    exact mem_after.mpr (.inl ⟨h.sub y hy, fun e => (h.fixed p).1 (e ▸ hy)⟩)
end TL
namespace TL
/-! ### the lamps that are lit in every setting that can be reached are the greatest lock -/
inductive Rch (m : Nat) (es : List (Int × Int)) (S : List Int) : List Int → Prop
  | refl : Rch m es S S
  | step {T : List Int} {u v : Int} : Rch m es S T → (u, v) ∈ slidesP m es T → Rch m es S (after T u v)
theorem Rch.trans {m : Nat} {es : List (Int × Int)} {S T W : List Int} (h : Rch m es S T) (k : Rch m es T W) : Rch m es S W := by
  induction k with
  | refl => exact h
  | step _ p ih => exact .step ih p
theorem Rch.both {m : Nat} {es : List (Int × Int)} {S T : List Int} (f : IsFor m es) (iss : IsSet m es S) (h : Rch m es S T) : IsSet m es T ∧ Rch m es T S := by
  induction h with
  | refl => exact ⟨iss, .refl⟩
  | @step T u v _ p ih =>
    obtain ⟨isT, back⟩ := ih
    obtain ⟨p1, p2, p3⟩ := mem_slidesP.mp p
    refine ⟨IsSet.after f isT p1 p2 p3, ?_⟩
    have q := Rch.step (.refl) (slide_back f isT p)
    rw [after_back f isT p] at q
    exact q.trans back
theorem near_adj {m : Nat} {es : List (Int × Int)} {a b : Int} (h : a ∈ nearL m es b) : Adj es a b := by
  have := (mem_nearL.mp h).2
  unfold ordP at this
  split at this
  · exact .inl this
  · exact .inr this
/-- the edges without those of a vertex -/
def cutE (es : List (Int × Int)) (v : Int) : List (Int × Int) := es.filter fun p => !decide (p.1 = v) && !decide (p.2 = v)
theorem adj_cut {es : List (Int × Int)} {v a b : Int} : Adj (cutE es v) a b ↔ Adj es a b ∧ a ≠ v ∧ b ≠ v := by
  unfold Adj cutE
  simp only [List.mem_filter, Bool.and_eq_true, Bool.not_eq_true', decide_eq_false_iff_not]
  constructor
  · rintro (⟨h1, h2, h3⟩ | ⟨h1, h2, h3⟩)
    · exact ⟨.inl h1, h2, h3⟩
    · exact ⟨.inr h1, h3, h2⟩
  · rintro ⟨h1 | h1, h2, h3⟩
    · exact .inl ⟨h1, h2, h3⟩
    · exact .inr ⟨h1, h3, h2⟩
theorem Pth.avoid {es : List (Int × Int)} {v a b : Int} {p : List Int} (h : Pth (cutE es v) a b p) : a ≠ v → v ∉ p := by
  induction h with
  | one a => exact fun n z => n (List.mem_singleton.mp z).symm
  | cons ad _ _ ih =>
    intro n z
    rcases List.mem_cons.mp z with z | z
    · exact n z.symm
    · exact ih (adj_cut.mp ad).2.2 z
theorem branch_apart {m : Nat} {es : List (Int × Int)} (f : IsFor m es) {v y z : Int} (hy : y ∈ nearL m es v) (hz : z ∈ nearL m es v) (ny : y ≠ v) (nz : z ≠ v) (c : Conn (cutE es v) y z) : y = z := by
  obtain ⟨p, hp⟩ := c.pth
  have nv := hp.avoid ny
  have hp' : Pth es y z p := hp.mono fun q hq => (List.mem_filter.mp hq).1
  have h1 : Pth es v z (v :: p) := .cons (near_adj hy).symm hp' nv
  have h2 : Pth es v z [v, z] := .cons (near_adj hz).symm (.one z) fun h => nz (List.mem_singleton.mp h).symm
  have e := f.uniq _ _ _ _ h1 h2
  have e2 : p = [z] := (List.cons.inj e).2
  have := hp.first
  rw [e2] at this
  exact List.mem_singleton.mp this
/-- slides inside of a branch at a dark vertex can be done by themselves -/
theorem Rch.inside {m : Nat} {es : List (Int × Int)} (f : IsFor m es) {v : Int} {B : Int → Prop} (hB : ∀ p q, B p → q ∈ nearL m es p → q ≠ v → B q) {T W : List Int} (dark : ∀ W, Rch m es T W → v ∉ W) (h : Rch m es T W) :
    ∃ W', Rch m es T W' ∧ (∀ z, B z → (z ∈ W' ↔ z ∈ W)) ∧ ∀ z, ¬ B z → (z ∈ W' ↔ z ∈ T) := by
  induction h with
  | refl => exact ⟨T, .refl, (fun _ _ => Iff.rfl), fun _ _ => Iff.rfl⟩
  | @step W a b hW p ih =>
    obtain ⟨W', r, h1, h2⟩ := ih
    obtain ⟨ha, hb, ho⟩ := mem_slidesP.mp p
    have na : a ≠ v := fun z => dark _ hW (z ▸ ha)
    have nb : b ≠ v := fun z => dark _ (.step hW p) (mem_after.mpr (.inr z.symm))
    by_cases Ba : B a
    · have Bb := hB a b Ba hb nb
      have q : (a, b) ∈ slidesP m es W' := mem_slidesP.mpr ⟨(h1 a Ba).mpr ha, hb, List.eq_nil_iff_forall_not_mem.mpr fun o z => by
        obtain ⟨o1, o2, o3⟩ := mem_oth.mp z
        have no : o ≠ v := fun z => dark _ r (z ▸ o2)
        have : o ∈ oth m es W a b := mem_oth.mpr ⟨o1, (h1 o (hB b o Bb o1 no)).mp o2, o3⟩
        rw [ho] at this
        cases this⟩
      refine ⟨_, .step r q, fun z Bz => ?_, fun z nz => ?_⟩
      · rw [mem_after, mem_after, h1 z Bz]
      · have za : z ≠ a := fun e => nz (e ▸ Ba)
        have zb : z ≠ b := fun e => nz (e ▸ Bb)
        rw [mem_after, h2 z nz]
        exact ⟨fun h => h.elim (·.1) (fun e => absurd e zb), fun h => .inl ⟨h, za⟩⟩
    · have Bb : ¬ B b := fun h => Ba (hB b a h ((mem_nearL_comm f).mp hb) na)
      refine ⟨W', r, fun z Bz => ?_, h2⟩
      have za : z ≠ a := fun e => Ba (e ▸ Bz)
      have zb : z ≠ b := fun e => Bb (e ▸ Bz)
      rw [mem_after, h1 z Bz]
      exact ⟨fun h => .inl ⟨h, za⟩, fun h => h.elim (·.1) (fun e => absurd e zb)⟩
theorem IsGr.lit {m : Nat} {es : List (Int × Int)} {S G : List Int} (f : IsFor m es) (iss : IsSet m es S) (h : IsGr m es S G) {x : Int} : x ∈ G ↔ ∀ W, Rch m es S W → x ∈ W := by
  constructor
  · intro hx W r
    have sub : ∀ y ∈ G, y ∈ W := by
      induction r with
      | refl => exact h.sub
      | @step T u v _ p ih =>
        intro y hy
        refine mem_after.mpr (.inl ⟨ih y hy, fun e => ?_⟩)
        subst e
        obtain ⟨_, hv, ho⟩ := mem_slidesP.mp p
        obtain ⟨z, z1, z2, z3⟩ := h.cl.other hy hv
        have : z ∈ oth m es T y v := mem_oth.mpr ⟨z3, ih z z1, z2⟩
        rw [ho] at this
        cases this
    exact sub x hx
  · intro hx
    have key : ∀ z, z ∈ S.filter (fun x => @decide (∀ W, Rch m es S W → x ∈ W) (Classical.propDecidable _)) ↔ ∀ W, Rch m es S W → z ∈ W := fun z => by
      rw [List.mem_filter]
      constructor
      · exact fun h => @of_decide_eq_true _ (Classical.propDecidable _) h.2
      · exact fun h => ⟨h S .refl, @decide_eq_true _ (Classical.propDecidable _) h⟩
    refine h.max _ (fun z hz => (List.mem_filter.mp hz).1) (Cl.of fun x hx v hv => ?_) x ((key x).mpr hx)
    have litx := (key x).mp hx
    refine Classical.byContradiction fun no => ?_
    have hxv : x ∈ nearL m es v := (mem_nearL_comm f).mp hv
    have nxv : x ≠ v := fun e => by
      have := (mem_nearL.mp hv).2
      rw [e] at this
      exact f.loop v this
    have step : ∀ N : List Int, (∀ y ∈ N, y ∈ nearL m es v) → ∃ T, Rch m es S T ∧ ∀ y ∈ N, y ≠ x → y ∉ T := by
      intro N
      induction N with
      | nil => exact fun _ => ⟨S, .refl, fun _ h => nomatch h⟩
      | cons y N ih =>
        intro hN
        obtain ⟨T, rT, dk⟩ := ih fun z hz => hN z (List.mem_cons_of_mem _ hz)
        by_cases hy : y ≠ x ∧ y ∈ T
        · have yv := hN y List.mem_cons_self
          have nyv : y ≠ v := fun e => by
            have := (mem_nearL.mp yv).2
            rw [e] at this
            exact f.loop v this
          have : ∃ W, Rch m es S W ∧ y ∉ W := Classical.byContradiction fun n2 => no ⟨y, (key y).mpr fun W r => Classical.byContradiction fun n3 => n2 ⟨W, r, n3⟩, hy.1, yv⟩
          obtain ⟨W, rW, nyW⟩ := this
          have isT := rT.both f iss
          have rTW : Rch m es T W := isT.2.trans rW
          have dark : ∀ W, Rch m es T W → v ∉ W := fun W r hvW => by
            have rS := rT.trans r
            have isW := (rS.both f iss).1
            exact isW.free x (litx W rS) v hvW (mem_nearL.mp hxv).2
          obtain ⟨W', r', i1, i2⟩ := Rch.inside f (B := fun z => Conn (cutE es v) y z) (v := v) (fun p q Bp hq nq => by
            by_cases np : p = v
            · exfalso
              obtain ⟨pp, hp⟩ := Bp.pth
              exact hp.avoid nyv (np ▸ hp.last)
            · exact .step Bp (adj_cut.mpr ⟨(near_adj hq).symm, np, nq⟩)) dark rTW
          refine ⟨W', rT.trans r', fun z hz nz => ?_⟩
          rcases List.mem_cons.mp hz with rfl | hz
          · exact fun h => nyW ((i1 z (.refl _)).mp h)
          · have zv := hN z (List.mem_cons_of_mem _ hz)
            have nzv : z ≠ v := fun e => by
              have := (mem_nearL.mp zv).2
              rw [e] at this
              exact f.loop v this
            by_cases Bz : Conn (cutE es v) y z
            · have := branch_apart f yv zv nyv nzv Bz
              subst this
              exact fun h => nyW ((i1 y (.refl _)).mp h)
            · exact fun h => dk z hz nz ((i2 z Bz).mp h)
        · refine ⟨T, rT, fun z hz nz hT => ?_⟩
          rcases List.mem_cons.mp hz with rfl | hz
          · exact hy ⟨nz, hT⟩
          · exact dk z hz nz hT
    obtain ⟨T, rT, dk⟩ := step (nearL m es v) fun _ h => h
    have p : (x, v) ∈ slidesP m es T := mem_slidesP.mpr ⟨litx T rT, hv, List.eq_nil_iff_forall_not_mem.mpr fun o z => by
      obtain ⟨o1, o2, o3⟩ := mem_oth.mp z
      exact dk o o1 o3 o2⟩
    rcases mem_after.mp (litx _ (.step rT p)) with h | h
    · exact h.2 rfl
    · exact nxv h
end TL
namespace TL
/-! ### a list of different ascending lists of vertices has at most 2 ^ m items -/
def subs : List Int → List (List Int)
  | [] => [[]]
  | a :: l => subs l ++ (subs l).map (a :: ·)
theorem subs_length : ∀ l : List Int, (subs l).length = 2 ^ l.length
  | [] => rfl
  | a :: l => by
    show (subs l ++ (subs l).map (a :: ·)).length = 2 ^ (l.length + 1)
    rw [List.length_append, List.length_map, subs_length l, Nat.pow_succ]
    omega
theorem mem_subs {r l : List Int} (h : r.Sublist l) : r ∈ subs l := by
  induction h with
  | slnil => exact List.mem_singleton.mpr rfl
  | cons a _ ih => exact List.mem_append_left _ ih
  | cons_cons a _ ih => exact List.mem_append_right _ (List.mem_map.mpr ⟨_, ih, rfl⟩)
theorem asc_sublist : ∀ {l r : List Int}, Asc l → Asc r → (∀ x ∈ r, x ∈ l) → r.Sublist l
  | [], [], _, _, _ => List.Sublist.slnil
  | [], x :: _, _, _, h => nomatch h x List.mem_cons_self
  | a :: l, [], _, _, _ => List.nil_sublist _
  | a :: l, x :: r, hl, hr, h => by
    obtain ⟨l1, l2⟩ := List.pairwise_cons.mp hl
    obtain ⟨r1, r2⟩ := List.pairwise_cons.mp hr
    by_cases e : x = a
    · subst e
      refine (asc_sublist l2 r2 fun y hy => ?_).cons_cons _
      rcases List.mem_cons.mp (h y (List.mem_cons_of_mem _ hy)) with rfl | z
      · exact absurd (r1 _ hy) (Int.lt_irrefl _)
      · exact z
    · refine (asc_sublist l2 hr fun y hy => ?_).cons _
      have hx : x ∈ l := (List.mem_cons.mp (h x List.mem_cons_self)).resolve_left e
      rcases List.mem_cons.mp (h y hy) with rfl | z
      · exfalso
        have ax := l1 x hx
        rcases List.mem_cons.mp hy with rfl | hy
        · exact e rfl
        · have := r1 _ hy
          omega
      · exact z
theorem sets_few {m : Nat} {es : List (Int × Int)} {L : List (List Int)} (nd : L.Nodup) (h : ∀ r ∈ L, IsSet m es r) : L.length ≤ 2 ^ m := by
  have := nd.length_le_of_subset (l₂ := subs (rng m)) fun r hr => mem_subs (asc_sublist (rng_asc m) (h r hr).asc fun x hx => mem_rng.mpr ((h r hr).rng x hx))
  rw [subs_length, rng_length] at this
  exact this
end TL
namespace TL
open PySem PySem.Spec PyProof.Rows L2
/-! ### least numbers of slides -/
inductive Rn (m : Nat) (es : List (Int × Int)) (S : List Int) : Nat → List Int → Prop
  | zero : Rn m es S 0 S
  | step {k : Nat} {T : List Int} {u v : Int} : Rn m es S k T → (u, v) ∈ slidesP m es T → Rn m es S (k + 1) (after T u v)
def Dst (m : Nat) (es : List (Int × Int)) (S : List Int) (k : Nat) (T : List Int) : Prop := Rn m es S k T ∧ ∀ j, Rn m es S j T → k ≤ j
section
variable {m : Nat} {es : List (Int × Int)} {S T : List Int}
theorem Rn.rch {k : Nat} (h : Rn m es S k T) : Rch m es S T := by
  induction h with
  | zero => exact .refl
  | step _ p ih => exact .step ih p
theorem Rch.rn (h : Rch m es S T) : ∃ k, Rn m es S k T := by
  induction h with
  | refl => exact ⟨0, .zero⟩
  | step _ p ih =>
    obtain ⟨k, hk⟩ := ih
    exact ⟨k + 1, .step hk p⟩
theorem Dst.uniq {j k : Nat} (h : Dst m es S j T) (g : Dst m es S k T) : j = k := Nat.le_antisymm (h.2 _ g.1) (g.2 _ h.1)
theorem Dst.least {k : Nat} (h : Rn m es S k T) : ∃ j, Dst m es S j T := by
  induction k using Nat.strongRecOn with
  | _ k ih =>
    by_cases e : ∃ j, j < k ∧ Rn m es S j T
    · obtain ⟨j, hj, hr⟩ := e
      exact ih j hj hr
    · exact ⟨k, h, fun j hj => Nat.le_of_not_lt fun z => e ⟨j, z, hj⟩⟩
theorem Dst.prev {k : Nat} (h : Dst m es S (k + 1) T) : ∃ T' u v, Dst m es S k T' ∧ (u, v) ∈ slidesP m es T' ∧ T = after T' u v := by
  obtain ⟨h1, h2⟩ := h
  cases h1 with
  | @step _ T' u v hr p =>
    refine ⟨T', u, v, ⟨hr, fun j hj => ?_⟩, p, rfl⟩
    have := h2 _ (.step hj p)
    omega
theorem Dst.zero : Dst m es S 0 S := ⟨.zero, fun _ _ => Nat.zero_le _⟩
theorem Dst.zeroI (h : Dst m es S 0 T) : T = S := by
  obtain ⟨h1, _⟩ := h
  cases h1
  rfl
end
/-- a search that goes by distances: P what was found, A still to be seen at the distance d, B at d + 1 -/
structure Bf (m : Nat) (es : List (Int × Int)) (S : List Int) (P : List (List Int × Nat)) (A B : List (List Int)) (d : Nat) : Prop where
  dst : ∀ p ∈ P, Dst m es S p.2 p.1
  lo : ∀ r ∈ A, Dst m es S d r
  hi : ∀ r ∈ B, Dst m es S (d + 1) r
  all : ∀ T k, k ≤ d → Dst m es S k T → T ∈ P.map Prod.fst
section
variable {m : Nat} {es : List (Int × Int)} {S : List Int} {P : List (List Int × Nat)} {A B : List (List Int)} {d : Nat}
theorem Bf.start (m : Nat) (es : List (Int × Int)) (S : List Int) : Bf m es S [(S, 0)] [S] [] 0 :=
  ⟨fun p hp => by rw [List.mem_singleton.mp hp]; exact .zero, fun r hr => by rw [List.mem_singleton.mp hr]; exact .zero, (fun _ h => nomatch h), fun T k hk h => by
    obtain rfl : k = 0 := by omega
    rw [h.zeroI]
    exact List.mem_singleton.mpr rfl⟩
theorem Bf.shift (h : Bf m es S P [] B d) (cl : ∀ r ∈ P.map Prod.fst, r ∉ B → ∀ u v, (u, v) ∈ slidesP m es r → after r u v ∈ P.map Prod.fst) : Bf m es S P B [] (d + 1) :=
  ⟨h.dst, h.hi, (fun _ z => nomatch z), fun T k hk hd => by
    by_cases e : k ≤ d
    · exact h.all T k e hd
    · obtain rfl : k = d + 1 := by omega
      obtain ⟨T', u, v, h1, h2, rfl⟩ := hd.prev
      refine cl T' (h.all T' d (Nat.le_refl _) h1) (fun z => ?_) u v h2
      have := (h.hi T' z).uniq h1
      omega⟩
theorem Bf.pop {r : List Int} (h : Bf m es S P (r :: A) B d) : Bf m es S P A B d := ⟨h.dst, fun z hz => h.lo z (List.mem_cons_of_mem _ hz), h.hi, h.all⟩
theorem Bf.new {r : List Int} {u v : Int} (h : Bf m es S P A B d) (hr : Dst m es S d r) (p : (u, v) ∈ slidesP m es r) (n : after r u v ∉ P.map Prod.fst) : Bf m es S (P ++ [(after r u v, d + 1)]) A (B ++ [after r u v]) d := by
  have hd : Dst m es S (d + 1) (after r u v) := by
    have hr1 : Rn m es S (d + 1) (after r u v) := .step hr.1 p
    obtain ⟨j, hj⟩ := Dst.least hr1
    have h1 := hj.2 _ hr1
    by_cases e : j ≤ d
    · exact absurd (h.all _ j e hj) n
    · obtain rfl : j = d + 1 := by omega
      exact hj
  refine ⟨fun q hq => ?_, h.lo, fun z hz => ?_, fun T k hk hT => ?_⟩
  · rcases List.mem_append.mp hq with z | z
    · exact h.dst q z
    · rw [List.mem_singleton.mp z]
      exact hd
  · rcases List.mem_append.mp hz with z | z
    · exact h.hi _ z
    · rw [List.mem_singleton.mp z]
      exact hd
  · rw [List.map_append]
    exact List.mem_append_left _ (h.all T k hk hT)
end
end TL
namespace TL
/-! ### settings without rigid lamps, with as many lamps in each part: each reaches the other -/
section
variable {m : Nat} {es : List (Int × Int)}
theorem IsFor.part (f : IsFor m es) (c : Int × Int → Bool) : IsFor m (es.filter c) := by
  obtain ⟨nm, ks, g, pm⟩ := f.grow
  refine ⟨f.asc.filter _, fun p hp => f.rng p (List.mem_filter.mp hp).1, nm, ks.filter (fun q => c (edgeOf nm q)), ⟨g.names, g.up.filter _, fun q hq => g.down q (List.mem_filter.mp hq).1⟩, ?_⟩
  have := pm.filter c
  rw [List.filter_map] at this
  exact this
theorem adj_near (f : IsFor m es) {a b : Int} (h : Adj es a b) : a ∈ nearL m es b := by
  refine mem_nearL.mpr ⟨?_, f.mem_ord.mpr h⟩
  rcases h with h | h
  · have := f.rng _ h
    simp only at this
    omega
  · have := f.rng _ h
    simp only at this
    omega
theorem near_ne (f : IsFor m es) {a b : Int} (h : a ∈ nearL m es b) : a ≠ b := fun e => by
  have := (mem_nearL.mp h).2
  rw [e] at this
  exact f.loop b this
/-- beside a vertex that can be lit, every vertex can be lit -/
theorem light_up {S : List Int} (f : IsFor m es) (iss : IsSet m es S) (gr : IsGr m es S []) {x g : Int} (hx : ∃ W, Rch m es S W ∧ x ∈ W) (hg : g ∈ nearL m es x) : ∃ W, Rch m es S W ∧ g ∈ W := by
  refine Classical.byContradiction fun no => ?_
  have dark : ∀ W, Rch m es S W → g ∉ W := fun W r h => no ⟨W, r, h⟩
  have hxg : x ∈ nearL m es g := (mem_nearL_comm f).mp hg
  have nx : x ≠ g := near_ne f hxg
  obtain ⟨W0, r0, x0⟩ := hx
  have step : ∀ N : List Int, (∀ y ∈ N, y ∈ nearL m es g) → ∃ T, Rch m es S T ∧ x ∈ T ∧ ∀ y ∈ N, y ≠ x → y ∉ T := by
    intro N
    induction N with
    | nil => exact fun _ => ⟨W0, r0, x0, fun _ h => nomatch h⟩
    | cons y N ih =>
      intro hN
      obtain ⟨T, rT, xT, dk⟩ := ih fun z hz => hN z (List.mem_cons_of_mem _ hz)
      by_cases hy : y ≠ x ∧ y ∈ T
      · have yg := hN y List.mem_cons_self
        have nyg : y ≠ g := near_ne f yg
        have : ∃ W, Rch m es S W ∧ y ∉ W := Classical.byContradiction fun n2 => by
          have : y ∈ ([] : List Int) := (gr.lit f iss).mpr fun W r => Classical.byContradiction fun n3 => n2 ⟨W, r, n3⟩
          cases this
        obtain ⟨W, rW, nyW⟩ := this
        have isT := rT.both f iss
        have rTW : Rch m es T W := isT.2.trans rW
        obtain ⟨W', r', i1, i2⟩ := Rch.inside f (B := fun z => Conn (cutE es g) y z) (v := g) (fun p q Bp hq nq => by
          by_cases np : p = g
          · exfalso
            obtain ⟨pp, hp⟩ := Bp.pth
            exact hp.avoid nyg (np ▸ hp.last)
          · exact .step Bp (adj_cut.mpr ⟨(near_adj hq).symm, np, nq⟩)) (fun W r => dark W (rT.trans r)) rTW
        have nBx : ¬ Conn (cutE es g) y x := fun c => hy.1 (branch_apart f yg hxg nyg nx c)
        refine ⟨W', rT.trans r', (i2 x nBx).mpr xT, fun z hz nz => ?_⟩
        rcases List.mem_cons.mp hz with rfl | hz
        · exact fun h => nyW ((i1 z (.refl _)).mp h)
        · have zg := hN z (List.mem_cons_of_mem _ hz)
          by_cases Bz : Conn (cutE es g) y z
          · have := branch_apart f yg zg nyg (near_ne f zg) Bz
            subst this
            exact fun h => nyW ((i1 y (.refl _)).mp h)
          · exact fun h => dk z hz nz ((i2 z Bz).mp h)
      · refine ⟨T, rT, xT, fun z hz nz hT => ?_⟩
        rcases List.mem_cons.mp hz with rfl | hz
        · exact hy ⟨nz, hT⟩
        · exact dk z hz nz hT
  obtain ⟨T, rT, xT, dk⟩ := step (nearL m es g) fun _ h => h
  have p : (x, g) ∈ slidesP m es T := mem_slidesP.mpr ⟨xT, hg, List.eq_nil_iff_forall_not_mem.mpr fun o z => by
    obtain ⟨o1, o2, o3⟩ := mem_oth.mp z
    exact dk o o1 o3 o2⟩
  exact dark _ (.step rT p) (mem_after.mpr (.inr rfl))
theorem light_conn {S : List Int} (f : IsFor m es) (iss : IsSet m es S) (gr : IsGr m es S []) {x v : Int} (hx : x ∈ S) (c : Conn es x v) : ∃ W, Rch m es S W ∧ v ∈ W := by
  induction c with
  | refl => exact ⟨S, .refl, hx⟩
  | step _ e ih => exact light_up f iss gr ih (adj_near f (Adj.symm e))
/-! ### numbers of lamps -/
noncomputable def num (B : Int → Prop) (S : List Int) : Nat := (S.filter fun x => @decide (B x) (Classical.propDecidable _)).length
theorem num_perm {B : Int → Prop} {S T : List Int} (h : S.Perm T) : num B S = num B T := (h.filter _).length_eq
theorem num_nil (B : Int → Prop) : num B [] = 0 := rfl
theorem num_cons {B : Int → Prop} {x : Int} {S : List Int} : num B (x :: S) = num B [x] + num B S := by
  unfold num
  rw [List.filter_cons, List.filter_cons]
  split
  · rw [List.length_cons, List.filter_nil, List.length_singleton]
    omega
  · rw [List.filter_nil, List.length_nil]
    omega
theorem num_one {B : Int → Prop} {x : Int} (h : B x) : num B [x] = 1 := by
  unfold num
  rw [List.filter_cons, if_pos (@decide_eq_true _ (Classical.propDecidable _) h)]
  rfl
theorem num_no {B : Int → Prop} {x : Int} (h : ¬ B x) : num B [x] = 0 := by
  unfold num
  rw [List.filter_cons, if_neg (fun z => h (@of_decide_eq_true _ (Classical.propDecidable _) z))]
  rfl
theorem num_congr {B C : Int → Prop} {S : List Int} (h : ∀ x ∈ S, B x ↔ C x) : num B S = num C S := by
  unfold num
  congr 1
  refine List.filter_congr fun x hx => ?_
  by_cases b : B x
  · rw [@decide_eq_true _ (Classical.propDecidable _) b, @decide_eq_true _ (Classical.propDecidable _) ((h x hx).mp b)]
  · rw [@decide_eq_false _ (Classical.propDecidable _) b, @decide_eq_false _ (Classical.propDecidable _) (fun z => b ((h x hx).mpr z))]
theorem num_zero {B : Int → Prop} {S : List Int} (h : ∀ x ∈ S, ¬ B x) : num B S = 0 := by
  unfold num
  rw [List.length_eq_zero_iff, List.filter_eq_nil_iff]
  exact fun x hx z => h x hx (@of_decide_eq_true _ (Classical.propDecidable _) z)
theorem num_pos {B : Int → Prop} {S : List Int} {x : Int} (hx : x ∈ S) (b : B x) : 0 < num B S := by
  unfold num
  exact List.length_pos_of_mem (List.mem_filter.mpr ⟨hx, @decide_eq_true _ (Classical.propDecidable _) b⟩)
theorem num_pos_iff {B : Int → Prop} {S : List Int} : 0 < num B S ↔ ∃ x ∈ S, B x := by
  constructor
  · intro h
    unfold num at h
    obtain ⟨x, hx⟩ := List.exists_mem_of_length_pos h
    obtain ⟨h1, h2⟩ := List.mem_filter.mp hx
    exact ⟨x, h1, @of_decide_eq_true _ (Classical.propDecidable _) h2⟩
  · rintro ⟨x, hx, b⟩
    exact num_pos hx b
theorem perm_of_mem {S T : List Int} (hS : S.Nodup) (hT : T.Nodup) (h : ∀ x, x ∈ S ↔ x ∈ T) : S.Perm T := (List.perm_ext_iff_of_nodup hS hT).mpr h
theorem num_add {B : Int → Prop} {S T : List Int} {v : Int} (hS : S.Nodup) (hT : T.Nodup) (nv : v ∉ T) (h : ∀ x, x ∈ S ↔ x ∈ T ∨ x = v) : num B S = num B [v] + num B T := by
  have : S.Perm (v :: T) := perm_of_mem hS (List.nodup_cons.mpr ⟨nv, hT⟩) fun x => by rw [h x, List.mem_cons, Or.comm]
  rw [num_perm this, num_cons]
theorem num_after {B : Int → Prop} {S : List Int} {u v : Int} (hS : S.Nodup) (hu : u ∈ S) (h : B u ↔ B v) : num B (after S u v) = num B S := by
  have e1 : num B (after S u v) = num B (v :: S.filter (fun l => !decide (l = u))) := num_perm ((srtI_perm _).trans (List.perm_append_comm (l₁ := S.filter (fun l => !decide (l = u))) (l₂ := [v])))
  have e2 : S.Perm (u :: S.filter (fun l => !decide (l = u))) := by
    refine perm_of_mem hS (List.nodup_cons.mpr ⟨fun z => ?_, hS.filter _⟩) fun x => ?_
    · have := (List.mem_filter.mp z).2
      rw [decide_eq_true rfl] at this
      cases this
    · rw [List.mem_cons, List.mem_filter]
      by_cases e : x = u
      · subst e
        exact ⟨fun _ => .inl rfl, fun _ => hu⟩
      · rw [decide_eq_false e]
        exact ⟨fun z => .inr ⟨z, rfl⟩, fun z => z.elim (fun y => absurd y e) (·.1)⟩
  rw [e1, num_perm e2, num_cons, num_cons (x := u)]
  have : num B [v] = num B [u] := by
    by_cases b : B u
    · rw [num_one b, num_one (h.mp b)]
    · rw [num_no b, num_no fun z => b (h.mpr z)]
  omega
theorem Rch.num {S T : List Int} (f : IsFor m es) (iss : IsSet m es S) {B : Int → Prop} (hB : ∀ a b, Adj es a b → B a → B b) (h : Rch m es S T) : num B T = num B S := by
  induction h with
  | refl => rfl
  | @step T u v r p ih =>
    obtain ⟨p1, p2, p3⟩ := mem_slidesP.mp p
    have ad := near_adj p2
    rw [num_after (r.both f iss).1.asc.nodup p1 ⟨hB _ _ ad.symm, hB _ _ ad⟩, ih]
theorem Rch.gr {S T G : List Int} (f : IsFor m es) (iss : IsSet m es S) (g : IsGr m es S G) (h : Rch m es S T) : IsGr m es T G := by
  have key : ∀ x ∈ G, x ∈ T := fun x hx => (g.lit f iss).mp hx T h
  refine ⟨g.asc, key, g.cl, fun L sub cl x hx => ?_⟩
  obtain ⟨isT, back⟩ := h.both f iss
  -- what is closed stays lit
  have stay : ∀ W, Rch m es T W → ∀ y ∈ L, y ∈ W := by
    intro W r
    induction r with
    | refl => exact sub
    | @step W u v _ p ih =>
      intro y hy
      refine mem_after.mpr (.inl ⟨ih y hy, fun e => ?_⟩)
      subst e
      obtain ⟨_, hv, ho⟩ := mem_slidesP.mp p
      obtain ⟨z, z1, z2, z3⟩ := cl.other hy hv
      have : z ∈ oth m es W y v := mem_oth.mpr ⟨z3, ih z z1, z2⟩
      rw [ho] at this
      cases this
  exact g.max L (stay S back) cl x hx
/-! ### a vertex all of whose neighbours but one are leaves -/
theorem max_in {α : Type} (g : α → Nat) : ∀ {l : List α}, l ≠ [] → ∃ a ∈ l, ∀ b ∈ l, g b ≤ g a
  | [], h => absurd rfl h
  | [a], _ => ⟨a, List.mem_cons_self, fun b hb => by rw [List.mem_singleton.mp hb]; exact Nat.le_refl _⟩
  | a :: c :: l, _ => by
    obtain ⟨b, hb, hm⟩ := max_in g (l := c :: l) (fun z => nomatch z)
    by_cases h : g a ≤ g b
    · exact ⟨b, List.mem_cons_of_mem _ hb, fun d hd => (List.mem_cons.mp hd).elim (fun e => e ▸ h) (hm d)⟩
    · exact ⟨a, List.mem_cons_self, fun d hd => (List.mem_cons.mp hd).elim (fun e => e ▸ Nat.le_refl _) (fun z => by have := hm d z; omega)⟩
theorem Grow.adj {nm : List Int} {ks : List (Nat × Nat)} (pm : es.Perm (ks.map (edgeOf nm))) (f : IsFor m es) {a b : Int} : Adj es a b ↔ ∃ q ∈ ks, (a = nm.getD q.1 0 ∧ b = nm.getD q.2 0) ∨ (a = nm.getD q.2 0 ∧ b = nm.getD q.1 0) := by
  constructor
  · intro h
    have h1 : ordP a b ∈ es := f.mem_ord.mpr h
    obtain ⟨q, hq, e⟩ := List.mem_map.mp (pm.mem_iff.mp h1)
    refine ⟨q, hq, ?_⟩
    rcases ordP_inj e with ⟨h1, h2⟩ | ⟨h1, h2⟩
    · exact .inl ⟨h1.symm, h2.symm⟩
    · exact .inr ⟨h2.symm, h1.symm⟩
  · rintro ⟨q, hq, h⟩
    refine f.mem_ord.mp (pm.mem_iff.mpr (List.mem_map.mpr ⟨q, hq, ?_⟩))
    unfold edgeOf
    rcases h with ⟨rfl, rfl⟩ | ⟨rfl, rfl⟩
    · rfl
    · exact ordP_comm _ _
theorem pair_eq {ks : List (Nat × Nat)} (h : ks.Pairwise fun a b => a.1 < b.1) {q r : Nat × Nat} (hq : q ∈ ks) (hr : r ∈ ks) (e : q.1 = r.1) : q = r := by
  induction ks with
  | nil => cases hq
  | cons k ks ih =>
    obtain ⟨h1, h2⟩ := List.pairwise_cons.mp h
    rcases List.mem_cons.mp hq with h3 | h3
    · rcases List.mem_cons.mp hr with h4 | h4
      · rw [h3, h4]
      · have := h1 r h4
        rw [h3] at e
        omega
    · rcases List.mem_cons.mp hr with h4 | h4
      · have := h1 q h3
        rw [h4] at e
        omega
      · exact ih h2 h3 h4
theorem IsFor.safe (f : IsFor m es) {x y : Int} (hy : y ∈ nearL m es x) : ∃ u v p, Conn es x u ∧ v ∈ nearL m es u ∧ (∀ w ∈ nearL m es v, w = u) ∧ ∀ z ∈ nearL m es u, z ≠ p → ∀ w ∈ nearL m es z, w = u := by
  obtain ⟨nm, ks, g, pm⟩ := f.grow
  have adj : ∀ {a b}, Adj es a b ↔ _ := fun {a b} => Grow.adj (a := a) (b := b) pm f
  let C : Nat × Nat → Bool := fun q => @decide (Conn es x (nm.getD q.2 0)) (Classical.propDecidable _)
  have hC : ∀ {q}, q ∈ ks.filter C ↔ q ∈ ks ∧ Conn es x (nm.getD q.2 0) := fun {q} => by
    rw [List.mem_filter]
    exact ⟨fun h => ⟨h.1, @of_decide_eq_true _ (Classical.propDecidable _) h.2⟩, fun h => ⟨h.1, @decide_eq_true _ (Classical.propDecidable _) h.2⟩⟩
  have ne : ks.filter C ≠ [] := by
    obtain ⟨q, hq, h⟩ := adj.mp (near_adj hy)
    refine List.ne_nil_of_mem (a := q) (hC.mpr ⟨hq, ?_⟩)
    rcases h with ⟨_, h⟩ | ⟨h, _⟩
    · rw [← h]
      exact .refl _
    · rw [← h]
      exact .step (.refl _) (near_adj hy).symm
  obtain ⟨q0, hq0, mx⟩ := max_in (fun q : Nat × Nat => q.2) ne
  obtain ⟨k0, c0⟩ := hC.mp hq0
  have mx' : ∀ q ∈ ks, Conn es x (nm.getD q.2 0) → q.2 ≤ q0.2 := fun q hq c => mx q (hC.mpr ⟨hq, c⟩)
  have d0 := g.down q0 k0
  -- a child of u is a leaf
  have leaf : ∀ q ∈ ks, q.2 = q0.2 → ∀ w ∈ nearL m es (nm.getD q.1 0), w = nm.getD q0.2 0 := by
    intro q hq e w hw
    have dq := g.down q hq
    obtain ⟨r, hr, h⟩ := adj.mp (near_adj hw)
    have dr := g.down r hr
    rcases h with ⟨h1, h2⟩ | ⟨h1, h2⟩
    · exfalso
      have e2 := g.inj dq.2 (by omega) h2
      have c : Conn es x (nm.getD r.2 0) := by
        rw [← h2]
        refine .step c0 (adj.mpr ⟨q, hq, .inr ⟨by rw [e], rfl⟩⟩)
      have := mx' r hr c
      omega
    · have e2 := g.inj dq.2 dr.2 h2
      have := pair_eq g.up hq hr e2
      subst this
      rw [h1, e]
  by_cases hp : ∃ q ∈ ks, q.1 = q0.2
  · obtain ⟨qp, hqp, ep⟩ := hp
    refine ⟨nm.getD q0.2 0, nm.getD q0.1 0, nm.getD qp.2 0, c0, adj_near f (adj.mpr ⟨q0, k0, .inl ⟨rfl, rfl⟩⟩), leaf q0 k0 rfl, fun z hz nz => ?_⟩
    obtain ⟨r, hr, h⟩ := adj.mp (near_adj hz)
    have dr := g.down r hr
    rcases h with ⟨h1, h2⟩ | ⟨h1, h2⟩
    · have e2 := g.inj (by omega) (by omega) h2
      rw [h1]
      exact leaf r hr e2.symm
    · exfalso
      have e2 := g.inj (by omega) dr.2 h2
      have := pair_eq g.up hqp hr (by omega)
      subst this
      exact nz h1
  · refine ⟨nm.getD q0.2 0, nm.getD q0.1 0, nm.getD q0.2 0, c0, adj_near f (adj.mpr ⟨q0, k0, .inl ⟨rfl, rfl⟩⟩), leaf q0 k0 rfl, fun z hz _ => ?_⟩
    obtain ⟨r, hr, h⟩ := adj.mp (near_adj hz)
    have dr := g.down r hr
    rcases h with ⟨h1, h2⟩ | ⟨h1, h2⟩
    · have e2 := g.inj (by omega) (by omega) h2
      rw [h1]
      exact leaf r hr e2.symm
    · exfalso
      have e2 := g.inj (by omega) dr.2 h2
      exact hp ⟨r, hr, e2.symm⟩
end
end TL
namespace TL
section
variable {m : Nat} {es : List (Int × Int)}
theorem adj_part {c : Int × Int → Bool} {a b : Int} (h : Adj (es.filter c) a b) : Adj es a b := h.imp (fun z => (List.mem_filter.mp z).1) (fun z => (List.mem_filter.mp z).1)
theorem near_cut (f : IsFor m es) {u a b : Int} : a ∈ nearL m (cutE es u) b ↔ a ∈ nearL m es b ∧ a ≠ u ∧ b ≠ u := by
  have f' : IsFor m (cutE es u) := f.part _
  constructor
  · intro h
    obtain ⟨h1, h2, h3⟩ := adj_cut.mp (near_adj h)
    exact ⟨adj_near f h1, h2, h3⟩
  · rintro ⟨h1, h2, h3⟩
    exact adj_near f' (adj_cut.mpr ⟨near_adj h1, h2, h3⟩)
/-- a branch at u begins at a neighbour of u -/
theorem branch_at {u x : Int} (h : Conn es u x) : x ≠ u → ∃ z, Adj es u z ∧ z ≠ u ∧ Conn (cutE es u) z x := by
  induction h with
  | refl => exact fun n => absurd rfl n
  | @step b c _ e ih =>
    intro n
    by_cases hb : b = u
    · subst hb
      exact ⟨c, e, n, .refl _⟩
    · obtain ⟨z, h1, h2, h3⟩ := ih hb
      exact ⟨z, h1, h2, .step h3 (adj_cut.mpr ⟨e, hb, n⟩)⟩
theorem conn_out {u c x : Int} (n : ¬ Conn es c u) (h : Conn es c x) : Conn (cutE es u) c x := by
  induction h with
  | refl => exact .refl _
  | @step a b h e ih => exact .step ih (adj_cut.mpr ⟨e, fun z => n (z ▸ h), fun z => n (z ▸ Conn.step h e)⟩)
theorem conn_cut_mono {u c x : Int} (h : Conn (cutE es u) c x) : Conn es c x := h.mono fun p hp => (List.mem_filter.mp hp).1
theorem conn_lone {E : List (Int × Int)} {c x : Int} (n : ∀ w, ¬ Adj E c w) (h : Conn E c x) : x = c := by
  induction h with
  | refl => rfl
  | step _ e ih => exact absurd (ih ▸ e) (n _)
/-- with one lamp more at a leaf whose neighbour stays dark -/
theorem Rch.with {A B A1 : List Int} {u v : Int} (f : IsFor m es) (hv : ∀ w ∈ nearL m es v, w = u) (nu : u ∉ A) (nvA : v ∉ A) (nvu : v ≠ u) (a1 : IsSet m es A1) (hA : ∀ x, x ∈ A1 ↔ x ∈ A ∨ x = v) (h : Rch m (cutE es u) A B) :
    u ∉ B ∧ v ∉ B ∧ ∃ B1, Rch m es A1 B1 ∧ ∀ x, x ∈ B1 ↔ x ∈ B ∨ x = v := by
  induction h with
  | refl => exact ⟨nu, nvA, A1, .refl, hA⟩
  | @step B a b _ p ih =>
    obtain ⟨nuB, nvB, B1, r, hB⟩ := ih
    obtain ⟨p1, p2, p3⟩ := mem_slidesP.mp p
    obtain ⟨q1, nb, na⟩ := (near_cut f).mp p2
    have nbv : b ≠ v := fun e => by
      subst e
      exact na (hv a ((mem_nearL_comm f).mp q1))
    have nav : a ≠ v := fun e => nvB (e ▸ p1)
    have q : (a, b) ∈ slidesP m es B1 := mem_slidesP.mpr ⟨(hB a).mpr (.inl p1), q1, List.eq_nil_iff_forall_not_mem.mpr fun o z => by
      obtain ⟨o1, o2, o3⟩ := mem_oth.mp z
      rcases (hB o).mp o2 with o2 | o2
      · have no : o ≠ u := fun e => nuB (e ▸ o2)
        have : o ∈ oth m (cutE es u) B a b := mem_oth.mpr ⟨(near_cut f).mpr ⟨o1, no, nb⟩, o2, o3⟩
        rw [p3] at this
        cases this
      · subst o2
        exact nb (hv b ((mem_nearL_comm f).mp o1))⟩
    refine ⟨fun z => ?_, fun z => ?_, _, .step r q, fun x => ?_⟩
    · rcases mem_after.mp z with z | z
      · exact nuB z.1
      · exact nb z.symm
    · rcases mem_after.mp z with z | z
      · exact nvB z.1
      · exact nbv z.symm
    · rw [mem_after, mem_after, hB x]
      constructor
      · rintro (⟨h1 | h1, h2⟩ | h1)
        · exact .inl (.inl ⟨h1, h2⟩)
        · exact .inr h1
        · exact .inl (.inr h1)
      · rintro ((⟨h1, h2⟩ | h1) | h1)
        · exact .inl ⟨.inl h1, h2⟩
        · exact .inr h1
        · exact .inl ⟨.inr h1, fun e => nav (e ▸ h1)⟩
theorem IsSet.sub {E : List (Int × Int)} {S T : List Int} (h : IsSet m es S) (hE : ∀ p ∈ E, p ∈ es) (asc : Asc T) (s : ∀ x ∈ T, x ∈ S) : IsSet m E T :=
  ⟨asc, fun v hv => h.rng v (s v hv), fun u hu v hv z => h.free u (s u hu) v (s v hv) (hE _ z)⟩
/-- without the lamp at a leaf, and without the edges of its neighbour, no lamp is rigid -/
theorem IsGr.less_leaf {S1 S2 : List Int} {u v : Int} (f : IsFor m es) (iss : IsSet m es S1) (gr : IsGr m es S1 []) (hv : v ∈ nearL m es u) (lf : ∀ w ∈ nearL m es v, w = u) (hv1 : v ∈ S1) (h2 : ∀ x, x ∈ S2 ↔ x ∈ S1 ∧ x ≠ v) : IsGr m (cutE es u) S2 [] := by
  have huv : u ∈ nearL m es v := (mem_nearL_comm f).mp hv
  have nu : u ∉ S1 := fun z => iss.free u z v hv1 (mem_nearL.mp huv).2
  refine ⟨.nil, (fun _ h => nomatch h), (fun _ h => nomatch h), fun L sub cl x hx => ?_⟩
  have sub1 : ∀ y ∈ L, y ∈ S1 ∧ y ≠ v := fun y hy => (h2 y).mp (sub y hy)
  by_cases hb : ∃ y ∈ L, y ∈ nearL m es u
  · -- with v
    refine absurd (gr.max (v :: L) (fun y hy => ?_) (Cl.of fun y hy z hz => ?_) x (List.mem_cons_of_mem _ hx)) (fun h => nomatch h)
    · rcases List.mem_cons.mp hy with rfl | hy
      · exact hv1
      · exact (sub1 y hy).1
    · rcases List.mem_cons.mp hy with e | hy
      · subst e
        obtain ⟨w, w1, w2⟩ := hb
        rw [lf z hz]
        exact ⟨w, List.mem_cons_of_mem _ w1, (sub1 w w1).2, w2⟩
      · by_cases ez : z = u
        · subst ez
          exact ⟨v, List.mem_cons_self, (sub1 y hy).2.symm, hv⟩
        · have ny : y ≠ u := fun e => nu (e ▸ (sub1 y hy).1)
          obtain ⟨w, w1, w2, w3⟩ := cl.other hy ((near_cut f).mpr ⟨hz, ez, ny⟩)
          exact ⟨w, List.mem_cons_of_mem _ w1, w2, ((near_cut f).mp w3).1⟩
  · refine absurd (gr.max L (fun y hy => (sub1 y hy).1) (Cl.of fun y hy z hz => ?_) x hx) (fun h => nomatch h)
    have ez : z ≠ u := fun e => hb ⟨y, hy, (mem_nearL_comm f).mp (e ▸ hz)⟩
    have ny : y ≠ u := fun e => nu (e ▸ (sub1 y hy).1)
    obtain ⟨w, w1, w2, w3⟩ := cl.other hy ((near_cut f).mpr ⟨hz, ez, ny⟩)
    exact ⟨w, w1, w2, ((near_cut f).mp w3).1⟩
/-- a lamp that is not rigid has a neighbour -/
theorem IsGr.beside {S : List Int} (gr : IsGr m es S []) {x : Int} (hx : x ∈ S) : ∃ y, y ∈ nearL m es x := by
  refine Classical.byContradiction fun no => ?_
  have := gr.max [x] (fun y hy => by rw [List.mem_singleton.mp hy]; exact hx) (Cl.of fun y hy z hz => by
    rw [List.mem_singleton.mp hy] at hz
    exact absurd ⟨z, hz⟩ no) x List.mem_cons_self
  cases this
theorem reach_all : ∀ {n : Nat} {es : List (Int × Int)} {S T : List Int}, IsFor m es → IsSet m es S → IsSet m es T → IsGr m es S [] → IsGr m es T [] → (∀ c, num (Conn es c) S = num (Conn es c) T) → S.length = n → Rch m es S T
  | 0, es, S, T, f, sS, sT, gS, gT, hc, ln => by
    have e : S = [] := List.length_eq_zero_iff.mp ln
    subst e
    have : T = [] := by
      refine List.eq_nil_iff_forall_not_mem.mpr fun x hx => ?_
      have h1 := num_pos (B := Conn es x) hx (.refl x)
      rw [← hc x] at h1
      exact Nat.lt_irrefl _ h1
    subst this
    exact .refl
  | n + 1, es, S, T, f, sS, sT, gS, gT, hc, ln => by
    obtain ⟨x, hx⟩ := List.exists_mem_of_length_pos (l := S) (by omega)
    obtain ⟨y, hy⟩ := gS.beside hx
    obtain ⟨u, v, p, cxu, hv, lf, ot⟩ := f.safe hy
    have huv : u ∈ nearL m es v := (mem_nearL_comm f).mp hv
    have nvu : v ≠ u := near_ne f hv
    have cuv : Conn es u v := .step (.refl _) (near_adj huv)
    have f' : IsFor m (cutE es u) := f.part _
    -- a lamp at v, on both sides
    have bring : ∀ {S : List Int}, IsSet m es S → IsGr m es S [] → (∃ x ∈ S, Conn es u x) → ∃ S1 S2, Rch m es S S1 ∧ v ∈ S1 ∧ IsSet m es S1 ∧ IsGr m es S1 [] ∧ IsSet m (cutE es u) S2 ∧ IsGr m (cutE es u) S2 [] ∧ (∀ x, x ∈ S2 ↔ x ∈ S1 ∧ x ≠ v) ∧ u ∉ S1 := by
      rintro S sS gS ⟨x, hx, cx⟩
      obtain ⟨S1, r1, v1⟩ := light_conn f sS gS hx (cx.symm.trans cuv)
      have s1 := (r1.both f sS).1
      have g1 := r1.gr f sS gS
      have h2 : ∀ x, x ∈ S1.filter (fun x => !decide (x = v)) ↔ x ∈ S1 ∧ x ≠ v := fun x => by
        rw [List.mem_filter, Bool.not_eq_true', decide_eq_false_iff_not]
      refine ⟨S1, S1.filter fun x => !decide (x = v), r1, v1, s1, g1, s1.sub (fun p hp => (List.mem_filter.mp hp).1) (s1.asc.filter _) (fun x hx => (List.mem_filter.mp hx).1), g1.less_leaf f s1 hv lf v1 h2, h2, fun z => s1.free u z v v1 (mem_nearL.mp huv).2⟩
    have hS : ∃ x ∈ S, Conn es u x := ⟨x, hx, cxu.symm⟩
    have hT : ∃ x ∈ T, Conn es u x := num_pos_iff.mp (by rw [← hc u]; exact num_pos_iff.mpr hS)
    obtain ⟨S1, S2, rS, vS, sS1, gS1, sS2, gS2, mS, nuS⟩ := bring sS gS hS
    obtain ⟨T1, T2, rT, vT, sT1, gT1, sT2, gT2, mT, nuT⟩ := bring sT gT hT
    have mS' : ∀ x, x ∈ S1 ↔ x ∈ S2 ∨ x = v := fun x => by
      rw [mS x]
      by_cases e : x = v
      · exact ⟨fun _ => .inr e, fun _ => e ▸ vS⟩
      · exact ⟨fun h => .inl ⟨h, e⟩, fun h => h.elim (·.1) (fun z => absurd z e)⟩
    have mT' : ∀ x, x ∈ T1 ↔ x ∈ T2 ∨ x = v := fun x => by
      rw [mT x]
      by_cases e : x = v
      · exact ⟨fun _ => .inr e, fun _ => e ▸ vT⟩
      · exact ⟨fun h => .inl ⟨h, e⟩, fun h => h.elim (·.1) (fun z => absurd z e)⟩
    have nvS : v ∉ S2 := fun z => ((mS v).mp z).2 rfl
    have nvT : v ∉ T2 := fun z => ((mT v).mp z).2 rfl
    have aS : ∀ B, num B S1 = num B [v] + num B S2 := fun B => num_add sS1.asc.nodup sS2.asc.nodup nvS mS'
    have aT : ∀ B, num B T1 = num B [v] + num B T2 := fun B => num_add sT1.asc.nodup sT2.asc.nodup nvT mT'
    have hB : ∀ c a b, Adj es a b → Conn es c a → Conn es c b := fun c a b ad h => .step h ad
    have c1 : ∀ c, num (Conn es c) S2 = num (Conn es c) T2 := fun c => by
      have h1 := aS (Conn es c)
      have h2 := aT (Conn es c)
      rw [rS.num f sS (hB c), hc c, ← rT.num f sT (hB c)] at h1
      omega
    -- lamps beside u are beside p
    have lone : ∀ {A : List Int}, IsGr m (cutE es u) A [] → ∀ x ∈ A, ∀ z ∈ nearL m es u, z ≠ p → ¬ Conn (cutE es u) z x := by
      intro A gA x hx z hz nz c
      have no : ∀ w, ¬ Adj (cutE es u) z w := fun w ad => by
        obtain ⟨h1, h2, h3⟩ := adj_cut.mp ad
        exact h3 (ot z hz nz w (adj_near f h1.symm))
      have := conn_lone no c
      subst this
      obtain ⟨w, hw⟩ := gA.beside hx
      exact no w (near_adj hw).symm
    have c2 : ∀ c, num (Conn (cutE es u) c) S2 = num (Conn (cutE es u) c) T2 := by
      intro c
      by_cases hcu : Conn es c u
      · by_cases e : c = u
        · subst e
          have no : ∀ w, ¬ Adj (cutE es c) c w := fun w ad => (adj_cut.mp ad).2.1 rfl
          rw [num_zero fun x hx z => nuS (by have := conn_lone no z; subst this; exact ((mS x).mp hx).1), num_zero fun x hx z => nuT (by have := conn_lone no z; subst this; exact ((mT x).mp hx).1)]
        · obtain ⟨z, hz, nz, cz⟩ := branch_at hcu.symm e
          have hzu : z ∈ nearL m es u := adj_near f hz.symm
          by_cases ep : z = p
          · subst ep
            have key : ∀ {A : List Int}, IsGr m (cutE es u) A [] → u ∉ A → num (Conn (cutE es u) c) A = num (Conn es c) A := by
              intro A gA nA
              refine num_congr fun x hx => ⟨conn_cut_mono, fun h => ?_⟩
              obtain ⟨w, hw, nw, cw⟩ := branch_at (hcu.symm.trans h) fun e => nA (e ▸ hx)
              by_cases ew : w = z
              · subst ew
                exact cz.symm.trans cw
              · exact absurd cw (lone gA x hx w (adj_near f hw.symm) ew)
            rw [key gS2 fun z => nuS ((mS u).mp z).1, key gT2 fun z => nuT ((mT u).mp z).1, c1 c]
          · rw [num_zero fun x hx k => lone gS2 x hx z hzu ep (cz.trans k), num_zero fun x hx k => lone gT2 x hx z hzu ep (cz.trans k)]
      · have key : ∀ x, Conn (cutE es u) c x ↔ Conn es c x := fun x => ⟨conn_cut_mono, conn_out hcu⟩
        rw [num_congr fun x _ => key x, num_congr fun x _ => key x, c1 c]
    have ln2 : S2.length = n := by
      have p1 : S1.Perm (v :: S2) := perm_of_mem sS1.asc.nodup (List.nodup_cons.mpr ⟨nvS, sS2.asc.nodup⟩) fun x => by rw [mS' x, List.mem_cons, Or.comm]
      have l1 := p1.length_eq
      have l2 : S1.length = S.length := by
        have := rS.num f sS (B := fun _ => True) (fun _ _ _ _ => trivial)
        have all : ∀ A : List Int, TL.num (fun _ => True) A = A.length := fun A => by
          unfold TL.num
          rw [List.filter_eq_self.mpr fun _ _ => @decide_eq_true _ (Classical.propDecidable _) trivial]
        rw [all, all] at this
        exact this
      rw [List.length_cons] at l1
      omega
    have r2 := reach_all f' sS2 sT2 gS2 gT2 c2 ln2
    obtain ⟨_, _, B1, rB, hB1⟩ := r2.with f lf (fun z => nuS ((mS u).mp z).1) nvS nvu sS1 mS'
    have eB : B1 = T1 := asc_ext (rB.both f sS1).1.asc sT1.asc fun x => by rw [hB1 x, mT' x]
    subst eB
    exact (rS.trans rB).trans (rT.both f sT).2
end
end TL
namespace TL
/-! ### the greatest lock and the numbers of lamps in its pieces tell what is reached -/
section
variable {m : Nat} {es : List (Int × Int)}
def inE (es : List (Int × Int)) (ws : List Int) : List (Int × Int) := es.filter fun p => decide (p.1 ∈ ws) && decide (p.2 ∈ ws)
theorem adj_in {ws : List Int} {a b : Int} : Adj (inE es ws) a b ↔ Adj es a b ∧ a ∈ ws ∧ b ∈ ws := by
  unfold Adj inE
  simp only [List.mem_filter, Bool.and_eq_true, decide_eq_true_eq]
  constructor
  · rintro (⟨h1, h2, h3⟩ | ⟨h1, h2, h3⟩)
    · exact ⟨.inl h1, h2, h3⟩
    · exact ⟨.inr h1, h3, h2⟩
  · rintro ⟨h1 | h1, h2, h3⟩
    · exact .inl ⟨h1, h2, h3⟩
    · exact .inr ⟨h1, h3, h2⟩
theorem near_in (f : IsFor m es) {ws : List Int} {a b : Int} : a ∈ nearL m (inE es ws) b ↔ a ∈ nearL m es b ∧ a ∈ ws ∧ b ∈ ws := by
  have f' : IsFor m (inE es ws) := f.part _
  constructor
  · intro h
    obtain ⟨h1, h2, h3⟩ := adj_in.mp (near_adj h)
    exact ⟨adj_near f h1, h2, h3⟩
  · rintro ⟨h1, h2, h3⟩
    exact adj_near f' (adj_in.mpr ⟨near_adj h1, h2, h3⟩)
/-- the vertices that a lock leaves -/
structure Apt (m : Nat) (es : List (Int × Int)) (G ws : List Int) : Prop where
  mem : ∀ x, x ∈ ws ↔ (0 ≤ x ∧ x < m) ∧ x ∉ G ∧ ∀ o ∈ nearL m es x, o ∉ G
theorem Apt.lamp {G ws S : List Int} (h : Apt m es G ws) (f : IsFor m es) (iss : IsSet m es S) (sub : ∀ x ∈ G, x ∈ S) {x : Int} (hx : x ∈ S) (n : x ∉ G) : x ∈ ws :=
  (h.mem x).mpr ⟨iss.rng x hx, n, fun o ho z => iss.free o (sub o z) x hx (mem_nearL.mp ho).2⟩
theorem IsGr.apart {G ws S S' : List Int} (h : Apt m es G ws) (f : IsFor m es) (iss : IsSet m es S) (gr : IsGr m es S G) (hS : ∀ x, x ∈ S' ↔ x ∈ S ∧ x ∉ G) : IsGr m (inE es ws) S' [] := by
  refine ⟨.nil, (fun _ h => nomatch h), (fun _ h => nomatch h), fun L sub cl x hx => ?_⟩
  have s1 : ∀ y ∈ L, y ∈ S ∧ y ∉ G := fun y hy => (hS y).mp (sub y hy)
  refine absurd (gr.max (L ++ G) (fun y hy => ?_) (Cl.of fun y hy z hz => ?_) x (List.mem_append.mpr (.inl hx))) (s1 x hx).2
  · rcases List.mem_append.mp hy with hy | hy
    · exact (s1 y hy).1
    · exact gr.sub y hy
  · rcases List.mem_append.mp hy with hy | hy
    · obtain ⟨y1, y2⟩ := s1 y hy
      have yw := h.lamp f iss gr.sub y1 y2
      by_cases zw : z ∈ ws
      · obtain ⟨w, w1, w2, w3⟩ := cl.other hy ((near_in f).mpr ⟨hz, zw, yw⟩)
        exact ⟨w, List.mem_append.mpr (.inl w1), w2, ((near_in f).mp w3).1⟩
      · have : ∃ o ∈ nearL m es z, o ∈ G := Classical.byContradiction fun no => zw ((h.mem z).mpr ⟨(mem_nearL.mp hz).1, ((h.mem y).mp yw).2.2 z hz, fun o ho hG => no ⟨o, ho, hG⟩⟩)
        obtain ⟨o, o1, o2⟩ := this
        exact ⟨o, List.mem_append.mpr (.inr o2), fun e => y2 (e ▸ o2), o1⟩
    · obtain ⟨w, w1, w2, w3⟩ := gr.cl.other hy hz
      exact ⟨w, List.mem_append.mpr (.inr w1), w2, w3⟩
/-- slides in the pieces are slides of the forest, beside the lock -/
theorem Rch.beside {G ws A B A1 : List Int} (h : Apt m es G ws) (f : IsFor m es) (hA : ∀ x ∈ A, x ∈ ws) (hA1 : ∀ x, x ∈ A1 ↔ x ∈ A ∨ x ∈ G) (r : Rch m (inE es ws) A B) :
    (∀ x ∈ B, x ∈ ws) ∧ ∃ B1, Rch m es A1 B1 ∧ ∀ x, x ∈ B1 ↔ x ∈ B ∨ x ∈ G := by
  induction r with
  | refl => exact ⟨hA, A1, .refl, hA1⟩
  | @step B a b _ p ih =>
    obtain ⟨hB, B1, r, hB1⟩ := ih
    obtain ⟨p1, p2, p3⟩ := mem_slidesP.mp p
    obtain ⟨q1, bw, aw⟩ := (near_in f).mp p2
    have q : (a, b) ∈ slidesP m es B1 := mem_slidesP.mpr ⟨(hB1 a).mpr (.inl p1), q1, List.eq_nil_iff_forall_not_mem.mpr fun o z => by
      obtain ⟨o1, o2, o3⟩ := mem_oth.mp z
      rcases (hB1 o).mp o2 with o2 | o2
      · have : o ∈ oth m (inE es ws) B a b := mem_oth.mpr ⟨(near_in f).mpr ⟨o1, hB o o2, bw⟩, o2, o3⟩
        rw [p3] at this
        cases this
      · exact ((h.mem b).mp bw).2.2 o o1 o2⟩
    have naG : a ∉ G := ((h.mem a).mp aw).2.1
    refine ⟨fun x hx => ?_, _, .step r q, fun x => ?_⟩
    · rcases mem_after.mp hx with hx | hx
      · exact hB x hx.1
      · exact hx ▸ bw
    · rw [mem_after, mem_after, hB1 x]
      constructor
      · rintro (⟨h1 | h1, h2⟩ | h1)
        · exact .inl (.inl ⟨h1, h2⟩)
        · exact .inr h1
        · exact .inl (.inr h1)
      · rintro ((⟨h1, h2⟩ | h1) | h1)
        · exact .inl ⟨.inl h1, h2⟩
        · exact .inr h1
        · exact .inl ⟨.inr h1, fun e => naG (e ▸ h1)⟩
theorem conn_in {ws : List Int} {c x : Int} (hc : c ∈ ws) (h : Conn (inE es ws) c x) : x ∈ ws := by
  induction h with
  | refl => exact hc
  | step _ e _ => exact (adj_in.mp e).2.2
theorem num_sub {B : Int → Prop} {S S' : List Int} (hS : S.Nodup) (hS' : S'.Nodup) (h : ∀ x, B x → (x ∈ S' ↔ x ∈ S)) : num B S' = num B S := by
  unfold num
  refine (perm_of_mem (hS'.filter _) (hS.filter _) fun x => ?_).length_eq
  rw [List.mem_filter, List.mem_filter]
  constructor
  · rintro ⟨h1, h2⟩
    exact ⟨(h x (@of_decide_eq_true _ (Classical.propDecidable _) h2)).mp h1, h2⟩
  · rintro ⟨h1, h2⟩
    exact ⟨(h x (@of_decide_eq_true _ (Classical.propDecidable _) h2)).mpr h1, h2⟩
theorem reach_pieces {G ws S T : List Int} (h : Apt m es G ws) (f : IsFor m es) (sS : IsSet m es S) (sT : IsSet m es T) (gS : IsGr m es S G) (gT : IsGr m es T G) (hc : ∀ c ∈ ws, num (Conn (inE es ws) c) S = num (Conn (inE es ws) c) T) : Rch m es S T := by
  have f' : IsFor m (inE es ws) := f.part _
  have mem : ∀ (A : List Int) (x : Int), x ∈ A.filter (fun x => !decide (x ∈ G)) ↔ x ∈ A ∧ x ∉ G := fun A x => by
    rw [List.mem_filter, Bool.not_eq_true', decide_eq_false_iff_not]
  have sub : ∀ p ∈ inE es ws, p ∈ es := fun p hp => (List.mem_filter.mp hp).1
  have cut : ∀ {A : List Int}, IsSet m es A → (∀ x ∈ G, x ∈ A) → ∀ c, num (Conn (inE es ws) c) (A.filter (fun x => !decide (x ∈ G))) = if c ∈ ws then num (Conn (inE es ws) c) A else 0 := by
    intro A sA gA c
    by_cases cw : c ∈ ws
    · rw [if_pos cw]
      refine num_sub sA.asc.nodup (sA.asc.nodup.filter _) fun x hx => ?_
      rw [mem]
      exact ⟨fun z => z.1, fun z => ⟨z, ((h.mem x).mp (conn_in cw hx)).2.1⟩⟩
    · rw [if_neg cw]
      refine num_zero fun x hx cx => ?_
      have : x = c := conn_lone (fun w ad => cw (adj_in.mp ad).2.1) cx
      subst this
      obtain ⟨h1, h2⟩ := (mem A x).mp hx
      exact cw (h.lamp f sA gA h1 h2)
  have r := reach_all f' (sS.sub sub (sS.asc.filter _) fun x hx => ((mem S x).mp hx).1) (sT.sub sub (sT.asc.filter _) fun x hx => ((mem T x).mp hx).1) (gS.apart h f sS (mem S)) (gT.apart h f sT (mem T)) (fun c => by
    rw [cut sS gS.sub c, cut sT gT.sub c]
    by_cases cw : c ∈ ws
    · rw [if_pos cw, if_pos cw, hc c cw]
    · rw [if_neg cw, if_neg cw]) rfl
  have back : ∀ {A : List Int}, (∀ x ∈ G, x ∈ A) → ∀ x, x ∈ A ↔ x ∈ A.filter (fun x => !decide (x ∈ G)) ∨ x ∈ G := by
    intro A gA x
    rw [mem]
    by_cases e : x ∈ G
    · exact ⟨fun _ => .inr e, fun _ => gA x e⟩
    · exact ⟨fun z => .inl ⟨z, e⟩, fun z => z.elim (·.1) (fun z => absurd z e)⟩
  obtain ⟨_, B1, rB, hB1⟩ := r.beside h f (fun x hx => by
    obtain ⟨h1, h2⟩ := (mem S x).mp hx
    exact h.lamp f sS gS.sub h1 h2) (back gS.sub)
  have e : B1 = T := asc_ext (rB.both f sS).1.asc sT.asc fun x => by rw [hB1 x, back gT.sub x]
  subst e
  exact rB
/-- by groups of one label -/
theorem Grp.conn {ws : List Int} {lb : Int → Int} {gs : List (Int × List Int)} (lab : Lab es ws lb) (gr : Grp lb ws gs) {g : Int × List Int} (hg : g ∈ gs) {c : Int} (hc : c ∈ g.2) (x : Int) : Conn (inE es ws) c x ↔ x ∈ g.2 := by
  have key : ∀ x, x ∈ g.2 ↔ x ∈ ws ∧ lb x = g.1 := fun x => by
    rw [(gr.is g hg).1, List.mem_filter, decide_eq_true_eq]
  obtain ⟨c1, c2⟩ := (key c).mp hc
  constructor
  · intro h
    refine (key x).mpr ⟨conn_in c1 h, ?_⟩
    induction h with
    | refl => exact c2
    | step _ e ih =>
      obtain ⟨h1, h2, h3⟩ := adj_in.mp e
      rcases h1 with h1 | h1
      · rw [← lab.join _ h1 h2 h3]
        exact ih
      · rw [lab.join _ h1 h3 h2]
        exact ih
  · intro h
    obtain ⟨h1, h2⟩ := (key x).mp h
    exact lab.conn c c1 x h1 (c2.trans h2.symm)
theorem num_grp {ws : List Int} {lb : Int → Int} {gs : List (Int × List Int)} (lab : Lab es ws lb) (gr : Grp lb ws gs) {g : Int × List Int} (hg : g ∈ gs) {c : Int} (hc : c ∈ g.2) (S : List Int) : num (Conn (inE es ws) c) S = (S.filter fun l => decide (l ∈ g.2)).length := by
  unfold num
  congr 1
  refine List.filter_congr fun x _ => ?_
  by_cases b : x ∈ g.2
  · rw [@decide_eq_true _ (Classical.propDecidable _) ((gr.conn lab hg hc x).mpr b), decide_eq_true b]
  · rw [@decide_eq_false _ (Classical.propDecidable _) (fun z => b ((gr.conn lab hg hc x).mp z)), decide_eq_false b]
theorem reach_groups {G ws S T : List Int} {lb : Int → Int} {gs : List (Int × List Int)} (h : Apt m es G ws) (f : IsFor m es) (sS : IsSet m es S) (sT : IsSet m es T) (gS : IsGr m es S G) (gT : IsGr m es T G) (lab : Lab es ws lb) (gr : Grp lb ws gs)
    (hc : ∀ g ∈ gs, (S.filter fun l => decide (l ∈ g.2)).length = (T.filter fun l => decide (l ∈ g.2)).length) : Rch m es S T := by
  refine reach_pieces h f sS sT gS gT fun c cw => ?_
  obtain ⟨g, hg, e⟩ := List.mem_map.mp (gr.all c cw)
  have hcg : c ∈ g.2 := by
    rw [(gr.is g hg).1, List.mem_filter, decide_eq_true_eq]
    exact ⟨cw, e.symm⟩
  rw [num_grp lab gr hg hcg, num_grp lab gr hg hcg, hc g hg]
/-- and what is reached has as many lamps in each piece -/
theorem Rch.pieces {G ws S T : List Int} (h : Apt m es G ws) (f : IsFor m es) (sS : IsSet m es S) (gS : IsGr m es S G) (r : Rch m es S T) (c : Int) : TL.num (Conn (inE es ws) c) T = TL.num (Conn (inE es ws) c) S := by
  induction r with
  | refl => rfl
  | @step T u v r p ih =>
    obtain ⟨p1, p2, p3⟩ := mem_slidesP.mp p
    have isT := (r.both f sS).1
    have gT := r.gr f sS gS
    obtain ⟨nu, nn⟩ := gT.fixed p
    have uw : u ∈ ws := h.lamp f isT gT.sub p1 nu
    have vw : v ∈ ws := (h.mem v).mpr ⟨(mem_nearL.mp p2).1, fun z => by
      have := gT.sub v z
      exact adj_free isT p1 p2 this, nn⟩
    have ad : Adj (inE es ws) u v := adj_in.mpr ⟨(near_adj p2).symm, uw, vw⟩
    rw [num_after isT.asc.nodup p1 ⟨fun z => .step z ad, fun z => .step z ad.symm⟩, ih]
theorem Rch.groups {G ws S T : List Int} {lb : Int → Int} {gs : List (Int × List Int)} (h : Apt m es G ws) (f : IsFor m es) (sS : IsSet m es S) (gS : IsGr m es S G) (lab : Lab es ws lb) (gr : Grp lb ws gs) (r : Rch m es S T) :
    ∀ g ∈ gs, (S.filter fun l => decide (l ∈ g.2)).length = (T.filter fun l => decide (l ∈ g.2)).length := by
  intro g hg
  obtain ⟨c, hc⟩ := List.exists_mem_of_ne_nil _ (gr.is g hg).2
  rw [← num_grp lab gr hg hc, ← num_grp lab gr hg hc, r.pieces h f sS gS c]
end
end TL
namespace TL
/-! ### normal lamps of a tree -/
section
variable {m : Nat} {es : List (Int × Int)}
def leafs (m : Nat) (es : List (Int × Int)) : List Int := (rng m).filter fun v => decide ((nearL m es v).length = 1)
def hdI (l : List Int) : Int := l.headD 0
def goodLeaf (m : Nat) (es : List (Int × Int)) (v : Int) : Bool := decide (((nearL m es (hdI (nearL m es v))).filter fun o => !decide (o ∈ leafs m es)).length ≤ 1)
def nextL (m : Nat) (es : List (Int × Int)) : Option Int := (leafs m es).find? (goodLeaf m es)
def normS (m : Nat) : List (Int × Int) → Nat → List (List (Int × Int) × Int)
  | _, 0 => []
  | es, k + 1 => match nextL m es with
    | some v => (es, v) :: normS m (cutE es (hdI (nearL m es v))) k
    | none => []
def normL (m : Nat) (es : List (Int × Int)) (k : Nat) : List Int := (normS m es k).map (·.2)
theorem mem_leafs {v : Int} : v ∈ leafs m es ↔ (0 ≤ v ∧ v < m) ∧ (nearL m es v).length = 1 := by
  unfold leafs
  rw [List.mem_filter, mem_rng, decide_eq_true_eq]
theorem near_rng (f : IsFor m es) {a b : Int} (h : a ∈ nearL m es b) : (0 ≤ a ∧ a < m) ∧ (0 ≤ b ∧ b < m) := ⟨(mem_nearL.mp h).1, (mem_nearL.mp ((mem_nearL_comm f).mp h)).1⟩
theorem one_of {l : List Int} (h : l.length = 1) : l = [hdI l] := by
  match l, h with
  | [a], _ => rfl
theorem leaf_of (f : IsFor m es) {u z : Int} (hz : z ∈ nearL m es u) (h : ∀ w ∈ nearL m es z, w = u) : z ∈ leafs m es := by
  refine mem_leafs.mpr ⟨(near_rng f hz).1, ?_⟩
  have hu : u ∈ nearL m es z := (mem_nearL_comm f).mp hz
  have nd : (nearL m es z).Nodup := (nearL_asc m es z).nodup
  have l1 := nd.length_le_of_subset (l₂ := [u]) fun w hw => by rw [h w hw]; exact List.mem_singleton.mpr rfl
  have l2 := List.length_pos_of_mem hu
  rw [List.length_singleton] at l1
  omega
/-- what is found: a leaf whose neighbour has at most one neighbour that is no leaf -/
theorem nextL_some (f : IsFor m es) {v : Int} (h : nextL m es = some v) : ∃ u, nearL m es v = [u] ∧ hdI (nearL m es v) = u ∧ v ∈ nearL m es u ∧ (∀ w ∈ nearL m es v, w = u) ∧ ∃ p, ∀ z ∈ nearL m es u, z ≠ p → ∀ w ∈ nearL m es z, w = u := by
  have h1 := List.mem_of_find?_eq_some h
  have h2 := List.find?_some h
  obtain ⟨hr, hl⟩ := mem_leafs.mp h1
  have e := one_of hl
  have huv : hdI (nearL m es v) ∈ nearL m es v := by rw [e]; exact List.mem_singleton.mpr rfl
  refine ⟨hdI (nearL m es v), e, rfl, (mem_nearL_comm f).mp huv, fun w hw => ?_, ?_⟩
  · rw [e] at hw
    exact List.mem_singleton.mp hw
  · have h3 : ((nearL m es (hdI (nearL m es v))).filter fun o => !decide (o ∈ leafs m es)).length ≤ 1 := of_decide_eq_true h2
    have key : ∀ z ∈ nearL m es (hdI (nearL m es v)), z ∈ leafs m es → ∀ w ∈ nearL m es z, w = hdI (nearL m es v) := fun z hz hzl w hw => by
      have e2 := one_of (mem_leafs.mp hzl).2
      have h4 : hdI (nearL m es v) ∈ nearL m es z := (mem_nearL_comm f).mp hz
      rw [e2] at hw h4
      rw [List.mem_singleton.mp hw, List.mem_singleton.mp h4]
    generalize hF : (nearL m es (hdI (nearL m es v))).filter (fun o => !decide (o ∈ leafs m es)) = F at h3
    have mF : ∀ z ∈ nearL m es (hdI (nearL m es v)), z ∉ F → z ∈ leafs m es := fun z hz nz => Classical.byContradiction fun no => nz (by
      rw [← hF, List.mem_filter, decide_eq_false no]
      exact ⟨hz, rfl⟩)
    match F, h3 with
    | [], _ => exact ⟨0, fun z hz _ => key z hz (mF z hz (fun h => nomatch h))⟩
    | [p], _ => exact ⟨p, fun z hz nz => key z hz (mF z hz fun h => nz (List.mem_singleton.mp h))⟩
theorem nextL_ex (f : IsFor m es) {x y : Int} (hy : y ∈ nearL m es x) : ∃ v, nextL m es = some v := by
  obtain ⟨u, v, p, _, hv, lf, ot⟩ := f.safe hy
  have hl := leaf_of f hv lf
  have e := one_of (mem_leafs.mp hl).2
  have eu : hdI (nearL m es v) = u := lf _ (by rw [e]; exact List.mem_singleton.mpr rfl)
  have good : goodLeaf m es v = true := by
    unfold goodLeaf
    rw [eu]
    refine decide_eq_true ?_
    have nd : ((nearL m es u).filter fun o => !decide (o ∈ leafs m es)).Nodup := (nearL_asc m es u).nodup.filter _
    exact nd.length_le_of_subset (l₂ := [p]) fun z hz => by
      obtain ⟨z1, z2⟩ := List.mem_filter.mp hz
      by_cases e : z = p
      · rw [e]
        exact List.mem_singleton.mpr rfl
      · rw [decide_eq_true (leaf_of f z1 (ot z z1 e))] at z2
        cases z2
  cases h : nextL m es with
  | some w => exact ⟨w, rfl⟩
  | none =>
    have := List.find?_eq_none.mp h v hl
    exact absurd good this
/-- all edges are in one part -/
def OneP (m : Nat) (es : List (Int × Int)) : Prop := ∀ a b c d, a ∈ nearL m es b → c ∈ nearL m es d → Conn es a c
theorem OneP.cut (f : IsFor m es) (o : OneP m es) {u p : Int} (ot : ∀ z ∈ nearL m es u, z ≠ p → ∀ w ∈ nearL m es z, w = u) : OneP m (cutE es u) := by
  -- every end of an edge that stays is joined with p
  have key : ∀ a b, a ∈ nearL m (cutE es u) b → ∀ x, x ∈ nearL m es u → Conn (cutE es u) p a := by
    intro a b h x hx
    obtain ⟨h1, na, nb⟩ := (near_cut f).mp h
    have hux : u ∈ nearL m es x := (mem_nearL_comm f).mp hx
    have c : Conn es u a := o _ _ _ _ hux h1
    obtain ⟨z, hz, nz, cz⟩ := branch_at c na
    by_cases e : z = p
    · subst e
      exact cz
    · exfalso
      have hzu := adj_near f hz.symm
      have no : ∀ w, ¬ Adj (cutE es u) z w := fun w ad => by
        obtain ⟨q1, _, q3⟩ := adj_cut.mp ad
        exact q3 (ot z hzu e w (adj_near f q1.symm))
      have := conn_lone no cz
      subst this
      exact no b (near_adj h)
  intro a b c d h1 h2
  by_cases hu : ∃ x, x ∈ nearL m es u
  · obtain ⟨x, hx⟩ := hu
    exact (key a b h1 x hx).symm.trans (key c d h2 x hx)
  · -- u has no edges: nothing changes
    have h1' := ((near_cut f).mp h1).1
    have h2' := ((near_cut f).mp h2).1
    have nc : ¬ Conn es a u := fun z => by
      obtain ⟨y, hy, _, _⟩ := branch_at z.symm ((near_cut f).mp h1).2.1
      exact hu ⟨y, adj_near f hy.symm⟩
    exact conn_out nc (o _ _ _ _ h1' h2')
theorem norm_reach : ∀ {k : Nat} {es : List (Int × Int)} {A : List Int}, IsFor m es → OneP m es → IsSet m es A → IsGr m es A [] → A.length = k → (normS m es k).length = k ∧ ∃ T, Rch m es A T ∧ (normL m es k).Nodup ∧ ∀ x, x ∈ T ↔ x ∈ normL m es k
  | 0, es, A, f, o, sA, gA, ln => by
    have e : A = [] := List.length_eq_zero_iff.mp ln
    subst e
    exact ⟨rfl, [], .refl, .nil, fun x => Iff.rfl⟩
  | k + 1, es, A, f, o, sA, gA, ln => by
    obtain ⟨x, hx⟩ := List.exists_mem_of_length_pos (l := A) (by omega)
    obtain ⟨y, hy⟩ := gA.beside hx
    obtain ⟨v, hv⟩ := nextL_ex f hy
    obtain ⟨u, e1, e2, hvu, lf, p, ot⟩ := nextL_some f hv
    have huv : u ∈ nearL m es v := (mem_nearL_comm f).mp hvu
    have nvu : v ≠ u := near_ne f hvu
    have f' : IsFor m (cutE es u) := f.part _
    have cxv : Conn es x v := o _ _ _ _ ((mem_nearL_comm f).mp hy) hvu
    obtain ⟨A1, r1, v1⟩ := light_conn f sA gA hx cxv
    have s1 := (r1.both f sA).1
    have g1 := r1.gr f sA gA
    have h2 : ∀ x, x ∈ A1.filter (fun x => !decide (x = v)) ↔ x ∈ A1 ∧ x ≠ v := fun x => by
      rw [List.mem_filter, Bool.not_eq_true', decide_eq_false_iff_not]
    have s2 : IsSet m (cutE es u) (A1.filter fun x => !decide (x = v)) := s1.sub (fun p hp => (List.mem_filter.mp hp).1) (s1.asc.filter _) (fun x hx => (List.mem_filter.mp hx).1)
    have g2 : IsGr m (cutE es u) (A1.filter fun x => !decide (x = v)) [] := g1.less_leaf f s1 hvu lf v1 h2
    have nvS : v ∉ A1.filter (fun x => !decide (x = v)) := fun z => ((h2 v).mp z).2 rfl
    have mS' : ∀ x, x ∈ A1 ↔ x ∈ A1.filter (fun x => !decide (x = v)) ∨ x = v := fun x => by
      rw [h2 x]
      by_cases e : x = v
      · exact ⟨fun _ => .inr e, fun _ => e ▸ v1⟩
      · exact ⟨fun h => .inl ⟨h, e⟩, fun h => h.elim (·.1) (fun z => absurd z e)⟩
    have all : ∀ A : List Int, TL.num (fun _ => True) A = A.length := fun A => by
      unfold TL.num
      rw [List.filter_eq_self.mpr fun _ _ => @decide_eq_true _ (Classical.propDecidable _) trivial]
    have ln2 : (A1.filter fun x => !decide (x = v)).length = k := by
      have p1 : A1.Perm (v :: A1.filter fun x => !decide (x = v)) := perm_of_mem s1.asc.nodup (List.nodup_cons.mpr ⟨nvS, s2.asc.nodup⟩) fun x => by rw [mS' x, List.mem_cons, Or.comm]
      have l1 := p1.length_eq
      have l2 := r1.num f sA (B := fun _ => True) (fun _ _ _ _ => trivial)
      rw [all, all] at l2
      rw [List.length_cons] at l1
      omega
    obtain ⟨ih1, T, rT, nd, mT⟩ := norm_reach f' (o.cut f ot) s2 g2 ln2
    have en : normS m es (k + 1) = (es, v) :: normS m (cutE es u) k := by
      show (match nextL m es with | some v => (es, v) :: normS m (cutE es (hdI (nearL m es v))) k | none => []) = _
      rw [hv]
      show (es, v) :: normS m (cutE es (hdI (nearL m es v))) k = _
      rw [e2]
    have en2 : normL m es (k + 1) = v :: normL m (cutE es u) k := by
      unfold normL
      rw [en]
      rfl
    have nuS : u ∉ A1.filter (fun x => !decide (x = v)) := fun z => s1.free u ((h2 u).mp z).1 v v1 (mem_nearL.mp huv).2
    obtain ⟨nuT, nvT, B1, rB, hB1⟩ := rT.with f lf nuS nvS nvu s1 mS'
    refine ⟨by rw [en, List.length_cons, ih1], B1, r1.trans rB, ?_, fun x => ?_⟩
    · rw [en2]
      exact List.nodup_cons.mpr ⟨fun z => nvT ((mT v).mpr z), nd⟩
    · rw [hB1 x, mT x, en2, List.mem_cons, Or.comm]
/-! ### slides in one piece are slides of the forest -/
theorem Rch.inPiece {Pc W A B A1 : List Int} (f : IsFor m es) (hW : ∀ b ∈ Pc, b ∉ W ∧ ∀ o ∈ nearL m es b, o ∉ W) (hA : ∀ x ∈ A, x ∈ Pc) (hA1 : ∀ x, x ∈ A1 ↔ x ∈ A ∨ x ∈ W) (r : Rch m (inE es Pc) A B) :
    (∀ x ∈ B, x ∈ Pc) ∧ ∃ B1, Rch m es A1 B1 ∧ ∀ x, x ∈ B1 ↔ x ∈ B ∨ x ∈ W := by
  induction r with
  | refl => exact ⟨hA, A1, .refl, hA1⟩
  | @step B a b _ p ih =>
    obtain ⟨hB, B1, r, hB1⟩ := ih
    obtain ⟨p1, p2, p3⟩ := mem_slidesP.mp p
    obtain ⟨q1, bw, aw⟩ := (near_in f).mp p2
    have q : (a, b) ∈ slidesP m es B1 := mem_slidesP.mpr ⟨(hB1 a).mpr (.inl p1), q1, List.eq_nil_iff_forall_not_mem.mpr fun o z => by
      obtain ⟨o1, o2, o3⟩ := mem_oth.mp z
      rcases (hB1 o).mp o2 with o2 | o2
      · have : o ∈ oth m (inE es Pc) B a b := mem_oth.mpr ⟨(near_in f).mpr ⟨o1, hB o o2, bw⟩, o2, o3⟩
        rw [p3] at this
        cases this
      · exact (hW b bw).2 o o1 o2⟩
    refine ⟨fun x hx => ?_, _, .step r q, fun x => ?_⟩
    · rcases mem_after.mp hx with hx | hx
      · exact hB x hx.1
      · exact hx ▸ bw
    · rw [mem_after, mem_after, hB1 x]
      constructor
      · rintro (⟨h1 | h1, h2⟩ | h1)
        · exact .inl (.inl ⟨h1, h2⟩)
        · exact .inr h1
        · exact .inl (.inr h1)
      · rintro ((⟨h1, h2⟩ | h1) | h1)
        · exact .inl ⟨.inl h1, h2⟩
        · exact .inr h1
        · exact .inl ⟨.inr h1, fun e => (hW a aw).1 (e ▸ h1)⟩
/-- the lamps of a piece, by themselves -/
structure Pce (m : Nat) (es : List (Int × Int)) (S b : List Int) : Prop where
  one : OneP m (inE es b)
  set : IsSet m (inE es b) (S.filter fun l => decide (l ∈ b))
  gr : IsGr m (inE es b) (S.filter fun l => decide (l ∈ b)) []
theorem pce_of {G ws S : List Int} {lb : Int → Int} {gs : List (Int × List Int)} (h : Apt m es G ws) (f : IsFor m es) (sS : IsSet m es S) (gS : IsGr m es S G) (lab : Lab es ws lb) (gr : Grp lb ws gs) {g : Int × List Int} (hg : g ∈ gs) : Pce m es S g.2 := by
  have key : ∀ x, x ∈ g.2 ↔ x ∈ ws ∧ lb x = g.1 := fun x => by rw [(gr.is g hg).1, List.mem_filter, decide_eq_true_eq]
  have stay : ∀ {a b : Int}, a ∈ g.2 → Adj (inE es ws) a b → b ∈ g.2 := fun {a b} ha ad => (gr.conn lab hg ha b).mp (.step (.refl _) ad)
  have inner : ∀ {a b : Int}, a ∈ g.2 → Conn (inE es ws) a b → Conn (inE es g.2) a b := fun {a b} ha c => by
    induction c with
    | refl => exact .refl _
    | @step b c h1 e ih =>
      have hb := (gr.conn lab hg ha b).mp h1
      have hc := stay hb e
      exact .step ih (adj_in.mpr ⟨(adj_in.mp e).1, hb, hc⟩)
  have memA : ∀ x, x ∈ S.filter (fun l => decide (l ∈ g.2)) ↔ x ∈ S ∧ x ∈ g.2 := fun x => by rw [List.mem_filter, decide_eq_true_eq]
  refine ⟨fun a b c d h1 h2 => ?_, ⟨sS.asc.filter _, fun v hv => sS.rng v (List.mem_filter.mp hv).1, fun u hu v hv z => sS.free u (List.mem_filter.mp hu).1 v (List.mem_filter.mp hv).1 (List.mem_filter.mp z).1⟩, ⟨.nil, (fun _ h => nomatch h), (fun _ h => nomatch h), fun L sub cl x hx => ?_⟩⟩
  · have ha := ((near_in f).mp h1).2.1
    have hc := ((near_in f).mp h2).2.1
    exact inner ha ((gr.conn lab hg ha c).mpr hc)
  · have memS : ∀ x, x ∈ S.filter (fun x => !decide (x ∈ G)) ↔ x ∈ S ∧ x ∉ G := fun x => by rw [List.mem_filter, Bool.not_eq_true', decide_eq_false_iff_not]
    refine (gS.apart h f sS memS).max L (fun y hy => ?_) (Cl.of fun y hy z hz => ?_) x hx
    · obtain ⟨y1, y2⟩ := (memA y).mp (sub y hy)
      exact (memS y).mpr ⟨y1, ((h.mem y).mp ((key y).mp y2).1).2.1⟩
    · have y2 := ((memA y).mp (sub y hy)).2
      obtain ⟨z1, zw, yw⟩ := (near_in f).mp hz
      have zg : z ∈ g.2 := stay y2 (adj_in.mpr ⟨(near_adj z1).symm, yw, zw⟩)
      obtain ⟨w, w1, w2, w3⟩ := cl.other hy ((near_in f).mpr ⟨z1, zg, y2⟩)
      obtain ⟨w4, w5, _⟩ := (near_in f).mp w3
      exact ⟨w, w1, w2, (near_in f).mpr ⟨w4, ((key w).mp w5).1, zw⟩⟩
def cntS (S b : List Int) : Nat := (S.filter fun l => decide (l ∈ b)).length
def normOf (m : Nat) (es : List (Int × Int)) (S b : List Int) : List Int := normL m (inE es b) (cntS S b)
theorem Pce.norm {S b : List Int} (f : IsFor m es) (h : Pce m es S b) : (normS m (inE es b) (cntS S b)).length = cntS S b ∧ ∃ T, Rch m (inE es b) (S.filter fun l => decide (l ∈ b)) T ∧ (normOf m es S b).Nodup ∧ ∀ x, x ∈ T ↔ x ∈ normOf m es S b :=
  norm_reach (f.part _) h.one h.set h.gr rfl
theorem norm_all {G ws S : List Int} {lb : Int → Int} {gs : List (Int × List Int)} (h : Apt m es G ws) (f : IsFor m es) (sS : IsSet m es S) (gS : IsGr m es S G) (lab : Lab es ws lb) (gr : Grp lb ws gs) : ∀ ps : List (Int × List Int), (∀ g ∈ ps, g ∈ gs) → (ps.map (·.1)).Nodup →
    (G ++ ps.flatMap fun g => normOf m es S g.2).Nodup ∧ (∀ g ∈ ps, ∀ x ∈ normOf m es S g.2, x ∈ g.2) ∧ ∃ T, Rch m es S T ∧ ∀ x, x ∈ T ↔ x ∈ G ++ (ps.flatMap fun g => normOf m es S g.2) ∨ (x ∈ S ∧ x ∉ G ∧ ∀ g ∈ ps, x ∉ g.2)
  | [], _, _ => by
    refine ⟨by rw [List.flatMap_nil, List.append_nil]; exact gS.asc.nodup, (fun _ h => nomatch h), S, .refl, fun x => ?_⟩
    rw [List.flatMap_nil, List.append_nil]
    constructor
    · intro hx
      by_cases e : x ∈ G
      · exact .inl e
      · exact .inr ⟨hx, e, fun _ h => nomatch h⟩
    · rintro (hx | hx)
      · exact gS.sub x hx
      · exact hx.1
  | g :: ps, hps, nd => by
    have nd' := List.nodup_cons.mp nd
    have hg := hps g List.mem_cons_self
    obtain ⟨ihn, ihs, T, rT, mT⟩ := norm_all h f sS gS lab gr ps (fun q hq => hps q (List.mem_cons_of_mem _ hq)) nd'.2
    have key : ∀ q ∈ gs, ∀ x, x ∈ q.2 ↔ x ∈ ws ∧ lb x = q.1 := fun q hq x => by rw [(gr.is q hq).1, List.mem_filter, decide_eq_true_eq]
    have dis : ∀ q ∈ ps, ∀ x, x ∈ q.2 → x ∉ g.2 := fun q hq x h1 h2 => by
      have a := ((key q (hps q (List.mem_cons_of_mem _ hq)) x).mp h1).2
      have b := ((key g hg x).mp h2).2
      exact nd'.1 (List.mem_map.mpr ⟨q, hq, by rw [← a, b]⟩)
    have gw : ∀ x ∈ g.2, x ∈ ws := fun x hx => ((key g hg x).mp hx).1
    have pc := pce_of h f sS gS lab gr hg
    obtain ⟨_, N, rN, ndN, mN⟩ := pc.norm f
    have sT := (rT.both f sS).1
    -- the lamps of the piece are still there
    have same : ∀ x, x ∈ g.2 → (x ∈ T ↔ x ∈ S) := fun x hx => by
      have nG : x ∉ G := ((h.mem x).mp (gw x hx)).2.1
      rw [mT x, List.mem_append, List.mem_flatMap]
      constructor
      · rintro ((z | ⟨q, hq, z⟩) | z)
        · exact absurd z nG
        · exact absurd hx (dis q hq x (ihs q hq x z))
        · exact z.1
      · intro z
        exact .inr ⟨z, nG, fun q hq z2 => dis q hq x z2 hx⟩
    have memA : ∀ x, x ∈ S.filter (fun l => decide (l ∈ g.2)) ↔ x ∈ S ∧ x ∈ g.2 := fun x => by rw [List.mem_filter, decide_eq_true_eq]
    have memW : ∀ x, x ∈ T.filter (fun l => !decide (l ∈ g.2)) ↔ x ∈ T ∧ x ∉ g.2 := fun x => by rw [List.mem_filter, Bool.not_eq_true', decide_eq_false_iff_not]
    have gT := rT.gr f sS gS
    obtain ⟨hN, B1, rB, hB1⟩ := rN.inPiece f (W := T.filter fun l => !decide (l ∈ g.2)) (A1 := T) (fun b hb => ⟨fun z => ((memW b).mp z).2 hb, fun o ho z => by
      obtain ⟨z1, z2⟩ := (memW o).mp z
      have oG : o ∉ G := ((h.mem b).mp (gw b hb)).2.2 o ho
      have ow := h.lamp f sT gT.sub z1 oG
      exact z2 ((gr.conn lab hg hb o).mp (.step (.refl _) (adj_in.mpr ⟨(near_adj ho).symm, gw b hb, ow⟩)))⟩) (fun x hx => ((memA x).mp hx).2) (fun x => by
      rw [memA, memW]
      by_cases e : x ∈ g.2
      · rw [same x e]
        exact ⟨fun z => .inl ⟨z, e⟩, fun z => z.elim (·.1) (fun z => absurd e z.2)⟩
      · exact ⟨fun z => .inr ⟨z, e⟩, fun z => z.elim (fun z => absurd z.2 e) (·.1)⟩)
    have nmem : ∀ x ∈ normOf m es S g.2, x ∈ g.2 := fun x hx => hN x ((mN x).mpr hx)
    refine ⟨?_, fun q hq x hx => ?_, B1, rT.trans rB, fun x => ?_⟩
    · rw [List.flatMap_cons]
      have e : (G ++ (normOf m es S g.2 ++ ps.flatMap fun g => normOf m es S g.2)).Perm (normOf m es S g.2 ++ (G ++ ps.flatMap fun g => normOf m es S g.2)) := by
        rw [← List.append_assoc, ← List.append_assoc]
        exact List.perm_append_comm.append_right _
      refine e.nodup_iff.mpr (List.nodup_append.mpr ⟨ndN, ihn, fun a ha b hb e => ?_⟩)
      subst e
      have ag := nmem a ha
      rcases List.mem_append.mp hb with z | z
      · exact ((h.mem a).mp (gw a ag)).2.1 z
      · obtain ⟨q, hq, z⟩ := List.mem_flatMap.mp z
        exact dis q hq a (ihs q hq a z) ag
    · rcases List.mem_cons.mp hq with rfl | hq
      · exact nmem x hx
      · exact ihs q hq x hx
    · rw [hB1 x, mN x, memW, mT x, List.flatMap_cons, List.mem_append, List.mem_append, List.mem_append]
      constructor
      · rintro (z | ⟨(z | z) | z, n⟩)
        · exact .inl (.inr (.inl z))
        · exact .inl (.inl z)
        · exact .inl (.inr (.inr z))
        · refine .inr ⟨z.1, z.2.1, fun q hq => ?_⟩
          rcases List.mem_cons.mp hq with rfl | hq
          · exact n
          · exact z.2.2 q hq
      · rintro ((z | (z | z)) | z)
        · exact .inr ⟨.inl (.inl z), fun e => ((h.mem x).mp (gw x e)).2.1 z⟩
        · exact .inl z
        · obtain ⟨q, hq, z2⟩ := List.mem_flatMap.mp z
          exact .inr ⟨.inl (.inr z), fun e => dis q hq x (ihs q hq x z2) e⟩
        · exact .inr ⟨.inr ⟨z.1, z.2.1, fun q hq => z.2.2 q (List.mem_cons_of_mem _ hq)⟩, z.2.2 g List.mem_cons_self⟩
/-- the normal setting is reached -/
theorem norm_set {G ws S : List Int} {lb : Int → Int} {gs : List (Int × List Int)} (h : Apt m es G ws) (f : IsFor m es) (sS : IsSet m es S) (gS : IsGr m es S G) (lab : Lab es ws lb) (gr : Grp lb ws gs) :
    Rch m es S (srtI (G ++ gs.flatMap fun g => normOf m es S g.2)) := by
  obtain ⟨nd, _, T, rT, mT⟩ := norm_all h f sS gS lab gr gs (fun _ h => h) gr.nd
  have e : T = srtI (G ++ gs.flatMap fun g => normOf m es S g.2) := asc_ext (rT.both f sS).1.asc (srtI_asc nd) fun x => by
    rw [mT x, mem_srtI]
    refine ⟨fun z => z.elim id fun z => ?_, .inl⟩
    exfalso
    have xw := h.lamp f sS gS.sub z.1 z.2.1
    obtain ⟨g, hg, e⟩ := List.mem_map.mp (gr.all x xw)
    refine z.2.2 g hg ?_
    rw [(gr.is g hg).1, List.mem_filter, decide_eq_true_eq]
    exact ⟨xw, e.symm⟩
  rw [← e]
  exact rT
end
end TL
namespace TL
/-! ### there is a greatest lock, there are labels and groups -/
theorem gr_ex {m : Nat} {es : List (Int × Int)} {S : List Int} (asc : Asc S) : ∃ G, IsGr m es S G := by
  have mem : ∀ x, x ∈ S.filter (fun x => @decide (∃ T : List Int, (∀ y ∈ T, y ∈ S) ∧ Cl m es T ∧ x ∈ T) (Classical.propDecidable _)) ↔ ∃ T : List Int, (∀ y ∈ T, y ∈ S) ∧ Cl m es T ∧ x ∈ T := fun x => by
    rw [List.mem_filter]
    exact ⟨fun h => @of_decide_eq_true _ (Classical.propDecidable _) h.2, fun h => ⟨h.elim fun T hT => hT.1 x hT.2.2, @decide_eq_true _ (Classical.propDecidable _) h⟩⟩
  refine ⟨_, asc.filter _, fun x hx => (List.mem_filter.mp hx).1, Cl.of fun x hx v hv => ?_, fun T sub cl x hx => (mem x).mpr ⟨T, sub, cl, hx⟩⟩
  obtain ⟨T, sub, cl, hT⟩ := (mem x).mp hx
  obtain ⟨y, y1, y2, y3⟩ := cl.other hT hv
  exact ⟨y, (mem y).mpr ⟨T, sub, cl, y1⟩, y2, y3⟩
theorem lab_exR (vs : List Int) : ∀ es : List (Int × Int), ∃ f, Lab es.reverse vs f
  | [] => ⟨id, Lab.start vs⟩
  | p :: es => by
    obtain ⟨f, h⟩ := lab_exR vs es
    rw [List.reverse_cons]
    by_cases c : p.1 ∈ vs ∧ p.2 ∈ vs
    · exact ⟨_, h.merge c.1 c.2⟩
    · exact ⟨f, h.skip c⟩
theorem lab_ex (es : List (Int × Int)) (vs : List Int) : ∃ f, Lab es vs f := by
  have := lab_exR vs es.reverse
  rw [List.reverse_reverse] at this
  exact this
theorem grp_exR (f : Int → Int) : ∀ T : List Int, ∃ gs, Grp f T.reverse gs
  | [] => ⟨[], Grp.start f⟩
  | v :: T => by
    obtain ⟨gs, h⟩ := grp_exR f T
    rw [List.reverse_cons]
    exact ⟨_, h.add v⟩
theorem grp_ex (f : Int → Int) (T : List Int) : ∃ gs, Grp f T gs := by
  have := grp_exR f T.reverse
  rw [List.reverse_reverse] at this
  exact this
end TL
namespace TL
open PySem PySem.Spec PyProof.Rows L2
/-! ### what is due -/
def rNeE (K : PySem.W.Frag) : R2 := fun x y H Q => ∃ (a b : Addr) (xs : List V), x = .ref a ∧ y = .ref b ∧ SqL K H a xs ∧ SqL K H b [] ∧ Q (.bl (!xs.isEmpty)) H
theorem op_neE {X : Cx} (hu : X.A.units + 64 < cLine) : OpR X (compareOp .NotEq) (rNeE X.K) := by
  intro pins s σ H x y v u Q I rx ry h
  obtain ⟨a, b, xs, rfl, rfl, ha, hb, q⟩ := h
  cases rx
  cases ry
  obtain ⟨its, rv, ⟨o, n, ho, hc, _, hd⟩, _⟩ := I.list ha
  obtain ⟨its2, rv2, ⟨o2, n2, ho2, hc2, _, hd2⟩, _⟩ := I.list hb
  cases rv2
  have hl : s.heap.IsList a its.toArray := ⟨_, ho, hc, _, hd⟩
  have hl2 : s.heap.IsList b #[] := ⟨_, ho2, hc2, _, hd2⟩
  cases xs with
  | nil =>
    cases rv
    exact (SeqAt.RcNeAt.lists hl hl2 rfl (by omega) (fun j j1 _ => absurd j1 (Nat.not_lt_zero _)) (e := fun _ => true)) X.prog X.w X.xe _ ⟨.bl _, H, I, rfl, q⟩
  | cons x xs =>
    cases rv with
    | cons r1 r2 => exact (SeqAt.RcNeAt.lists_lengths hl hl2 (by simp) (by omega)) X.prog X.w X.xe _ ⟨.bl _, H, I, rfl, q⟩
theorem neEK (K : PySem.W.Frag) {X : Cx} (hu : X.A.units + 64 < cLine) (h : X.K = K := by rfl) : OpR X (compareOp .NotEq) (rNeE K) := h ▸ op_neE hu
end TL
namespace TL
open PySem PySem.Spec PyProof.Rows L2
/-! ### sorted(a tuple of pairs of ints) -/
@[irreducible] def rSortTP (K : PySem.W.Frag) : List V → Hp → VK → Prop := fun vs H Q => ∃ (ps : List (Int × Int)) (a : Addr) (xs : List V), vs = [.ref a] ∧ SqT K H a xs ∧ DpAll K H xs (ps.map prD) ∧ ps.length ≤ 1000 ∧
  ∀ p ys, H p = none → DpAll K H ys ((srtP ps).map prD) → Q (.ref p) (upd H p (.lst ys))
section
variable {X : Cx}
theorem pair_reads {pins : List (Addr × Obj)} {σ : L2.St} {H : Hp} {s : Shared} (I : Inv X pins σ H s) {h' : Heap} (kp : ∀ b o, s.heap.get? b = some o → h'.get? b = some o) (c : Addr) :
    ∀ {xs : List V} {us : List Value} {ps : List (Int × Int)}, Vals xs us → DpAll X.K H xs (ps.map prD) → PySem.W.EachIs (fun (u : Value) (b : Int × Int) => ∃ as, Reads h' u (prD b) as ∧ c ∉ as) us ps
  | _, _, [], .nil, _ => .nil
  | _, _, _ :: _, .nil, h => nomatch h
  | _, _, [], .cons _ _, h => nomatch h
  | _, _, b :: bs, .cons r t, .cons h a => by
    refine .cons ⟨[], ?_, fun z => nomatch z⟩ (pair_reads I kp c t a)
    obtain ⟨q, rfl, hq⟩ := Dp.prI h
    cases r
    obtain ⟨its, rv, ⟨oq, hoq, hcq, n, hdq⟩, _⟩ := I.tuple (xs := [b.1, b.2].map V.int) hq
    exact .tuple (kp _ _ hoq) hcq hdq (reads_ints (ns := [b.1, b.2]) (Vals.ints rv))
theorem sorted_TP (hu : X.A.units + 64 < cLine) : CallR X (.builtin "sorted") (rSortTP X.K) := by
  intro pins s σ H vs us Q I rr h
  unfold rSortTP at h
  obtain ⟨ps, a, xs, ev, hq, hA, lp, q⟩ := h
  subst ev
  rw [Vals.ref1 rr]
  obtain ⟨its, rv, ⟨oq, hoq, hcq, n, hdq⟩, hz⟩ := I.tuple hq
  have lx : xs.length = ps.length := by rw [DpAll.length hA, List.length_map]
  have li := rv.length
  refine Calls.call_function_entry kind_sorted plain_sorted entry_sorted (args_sorted1 _) ?_
  unfold Builtin.«sorted»
  refine wpAny_bind (m := checkCount "sorted" 1 1 _) (wpAny_pure ?_)
  refine wpAny_bind (wpAny_collect_seq a (.inr rfl) hoq hcq hdq (fun G kp => ?_) (by rw [List.size_toArray]; omega))
  have J : Inv X pins σ H { s with heap := G } := I.kept (t' := s.toks) kp
  refine wpAny_bind (wpAny_newList ?_ (by show its.length ≤ _; omega))
  have hoL : (G.push (seqObj "list" its.toArray 0)).get? G.objs.size = some (seqObj "list" its.toArray 0) := Heap.get?_push_size _ rfl
  have k1 : ∀ b o, s.heap.get? b = some o → (G.push (seqObj "list" its.toArray 0)).get? b = some o := fun b o e => Heap.get?_push_of_some _ (kp b o e)
  refine wpAny_bind (wpAny_holding (PySem.W.list_sort_data (s := { s with heap := G.push (seqObj "list" its.toArray 0) }) hoL (each_of prD rv hA) (pair_reads I k1 _ rv hA) ?_ ?_ (Nat.le_of_lt (small1000 lp)) (fun b _ => ?_) fun out ho2 eo => ?_))
  · intro d hd e he
    obtain ⟨x, _, rfl⟩ := List.mem_map.mp hd
    obtain ⟨y, _, rfl⟩ := List.mem_map.mp he
    simp [prD, PySem.W.alike, PySem.W.alikeAll]
  · refine .inl fun d hd => ?_
    obtain ⟨x, hx, rfl⟩ := List.mem_map.mp hd
    exact ⟨_, _, rfl⟩
  · have := dep_pr b
    show X.A.in1.units + 1 + _ < _
    have : X.A.in1.units ≤ X.A.units + 1 := Nat.le_refl _
    omega
  obtain ⟨ys, ry, dy⟩ := of_each prD eo
  obtain ⟨c, hc2⟩ := sortedHeap_at (vs := its) (out := out.toArray) hoL
  have hk : ∀ b o, G.get? b = some o → (sortedHeap (G.push (seqObj "list" its.toArray 0)) G.objs.size its out.toArray).get? b = some o := fun b u e => by
    have hlt := Heap.lt_size e
    rw [sortedHeap_old (Nat.ne_of_lt hlt) (by rw [size_push']; exact Nat.lt_succ_of_lt hlt)]
    exact Heap.get?_push_of_some _ e
  have hn : H G.objs.size = none := J.hok.fresh (Nat.le_refl _)
  have hlen : ys.length ≤ sizeLine := by rw [ry.length, ho2]; exact Nat.le_of_lt (small1000 lp)
  have J2 := J.laid (t' := s.toks) (o := .lst ys) hk (Nat.le_refl _) ⟨hlen, out, c, ry, hc2⟩
  rw [le_pr_fun] at dy
  exact wpAny_pure ⟨_, rfl, ⟨.ref G.objs.size, _, J2, rfl, q _ ys hn dy⟩⟩
theorem sortTPK (K : PySem.W.Frag) (hu : X.A.units + 64 < cLine) (h : X.K = K := by rfl) : CallR X (.builtin "sorted") (rSortTP K) := h ▸ sorted_TP hu
end
end TL
namespace TL
open PySem PySem.Spec PyProof.Rows L2
/-! ### sorted(a tuple of ints) -/
@[irreducible] def rSortTI (K : PySem.W.Frag) : List V → Hp → VK → Prop := fun vs H Q => ∃ (ns : List Int) (a : Addr), vs = [.ref a] ∧ SqT K H a (ns.map V.int) ∧ ns.length ≤ 1000 ∧
  ∀ p, H p = none → Q (.ref p) (upd H p (.lst ((srtI ns).map V.int)))
section
variable {X : Cx}
theorem ints_reads {h' : Heap} (c : Addr) : ∀ {us : List Value} {ns : List Int}, IntsAre us ns → PySem.W.EachIs (fun (u : Value) (b : Int) => ∃ as, Reads h' u (PyData.int b) as ∧ c ∉ as) us ns
  | [], [], _ => .nil
  | v :: vs, n :: ns, a => by
    cases a with
    | cons _ t a2 => exact .cons ⟨[], .int n t, fun z => nomatch z⟩ (ints_reads c a2)
theorem sorted_TI (hu : X.A.units + 64 < cLine) : CallR X (.builtin "sorted") (rSortTI X.K) := by
  intro pins s σ H vs us Q I rr h
  unfold rSortTI at h
  obtain ⟨ns, a, ev, hq, lp, q⟩ := h
  subst ev
  rw [Vals.ref1 rr]
  obtain ⟨its, rv, ⟨oq, hoq, hcq, n, hdq⟩, hz⟩ := I.tuple hq
  have li := rv.length
  rw [List.length_map] at li
  refine Calls.call_function_entry kind_sorted plain_sorted entry_sorted (args_sorted1 _) ?_
  unfold Builtin.«sorted»
  refine wpAny_bind (m := checkCount "sorted" 1 1 _) (wpAny_pure ?_)
  refine wpAny_bind (wpAny_collect_seq a (.inr rfl) hoq hcq hdq (fun G kp => ?_) (by rw [List.size_toArray]; exact Nat.le_of_lt (small1000 (by omega))))
  have J : Inv X pins σ H { s with heap := G } := I.kept (t' := s.toks) kp
  refine wpAny_bind (wpAny_newList ?_ (by show its.length ≤ _; exact Nat.le_of_lt (small1000 (by omega))))
  have hoL : (G.push (seqObj "list" its.toArray 0)).get? G.objs.size = some (seqObj "list" its.toArray 0) := Heap.get?_push_size _ rfl
  refine wpAny_bind (wpAny_holding (PySem.W.list_sort_data (s := { s with heap := G.push (seqObj "list" its.toArray 0) }) hoL (each_of (K := X.K) (H := H) PyData.int rv (DpAll.of_ints ns)) (ints_reads _ (Vals.ints rv)) ?_ ?_ (Nat.le_of_lt (small1000 lp)) (fun b _ => ?_) fun out ho2 eo => ?_))
  · intro d hd e he
    obtain ⟨x, _, rfl⟩ := List.mem_map.mp hd
    obtain ⟨y, _, rfl⟩ := List.mem_map.mp he
    simp [PySem.W.alike]
  · refine .inr fun d hd => ?_
    obtain ⟨x, hx, rfl⟩ := List.mem_map.mp hd
    exact ⟨fun z => (nomatch z), fun _ z => (nomatch z)⟩
  · show X.A.in1.units + 1 + _ < _
    have : X.A.in1.units ≤ X.A.units + 1 := Nat.le_refl _
    simp only [PyData.depth]
    omega
  obtain ⟨ys, ry, dy⟩ := of_each PyData.int eo
  rw [le_int_fun] at dy
  have ey := DpAll.ints dy
  subst ey
  obtain ⟨c, hc2⟩ := sortedHeap_at (vs := its) (out := out.toArray) hoL
  have hk : ∀ b o, G.get? b = some o → (sortedHeap (G.push (seqObj "list" its.toArray 0)) G.objs.size its out.toArray).get? b = some o := fun b u e => by
    have hlt := Heap.lt_size e
    rw [sortedHeap_old (Nat.ne_of_lt hlt) (by rw [size_push']; exact Nat.lt_succ_of_lt hlt)]
    exact Heap.get?_push_of_some _ e
  have hn : H G.objs.size = none := J.hok.fresh (Nat.le_refl _)
  have hlen : ((srtI ns).map V.int).length ≤ sizeLine := by rw [List.length_map, srtI_length]; exact Nat.le_of_lt (small1000 lp)
  have J2 := J.laid (t' := s.toks) (o := .lst ((srtI ns).map V.int)) hk (Nat.le_refl _) ⟨hlen, out, c, ry, hc2⟩
  exact wpAny_pure ⟨_, rfl, ⟨.ref G.objs.size, _, J2, rfl, q _ hn⟩⟩
theorem sortTIK (K : PySem.W.Frag) (hu : X.A.units + 64 < cLine) (h : X.K = K := by rfl) : CallR X (.builtin "sorted") (rSortTI K) := h ▸ sorted_TI hu
end
theorem sortTupI {K : PySem.W.Frag} {H : Hp} {x : V} {ns : List Int} {Q : VK} (hx : Dp K H x (intsD ns)) (hl : ns.length ≤ 1000) (q : ∀ p, H p = none → Q (.ref p) (upd H p (.lst ((srtI ns).map V.int)))) : rSortTI K [x] H Q := by
  obtain ⟨a, rfl, h1⟩ := Dp.intsI hx
  unfold rSortTI
  exact ⟨ns, a, rfl, h1, hl, q⟩
/-! ### one lamp more or less, one vertex more -/
theorem IsGr.less {m : Nat} {es : List (Int × Int)} {S S' G G' : List Int} {x : Int} (h : IsGr m es S G) (h' : IsGr m es S' G') (e : ∀ z, z ∈ S' ↔ z ∈ S ∧ z ≠ x) : (x ∉ G → G' = G) ∧ ∀ z ∈ G', z ∈ G ∧ z ≠ x := by
  have sub : ∀ z ∈ G', z ∈ G ∧ z ≠ x := fun z hz => ⟨h'.mono h (fun y hy => ((e y).mp hy).1) z hz, ((e z).mp (h'.sub z hz)).2⟩
  refine ⟨fun nx => asc_ext h'.asc h.asc fun z => ⟨fun hz => (sub z hz).1, fun hz => ?_⟩, sub⟩
  exact h'.max G (fun y hy => (e y).mpr ⟨h.sub y hy, fun z => nx (z ▸ hy)⟩) h.cl z hz
theorem IsGr.alone {m : Nat} {es : List (Int × Int)} {S G : List Int} {x : Int} (h : IsGr m es S G) (hx : x ∈ S) (n : nearL m es x = []) : x ∈ G := by
  refine h.max [x] (fun y hy => by rw [List.mem_singleton.mp hy]; exact hx) (fun y hy v hv => ?_) x (List.mem_singleton.mpr rfl)
  rw [List.mem_singleton.mp hy, n] at hv
  cases hv
theorem IsGr.grown {m : Nat} {es : List (Int × Int)} {S G : List Int} {l : Int} (f : IsFor m es) (hl : 0 ≤ l ∧ l < m) (h : IsGr (m + 1) (srtP (es ++ [(l, (m : Int))])) S G) : l ∉ G := by
  intro z
  have f' := f.attach hl
  have ed : ordP l (m : Int) ∈ srtP (es ++ [(l, (m : Int))]) := by
    rw [mem_srtP, ordP_eq (by omega)]
    exact List.mem_append_right _ (List.mem_singleton.mpr rfl)
  have hw : (m : Int) ∈ nearL (m + 1) (srtP (es ++ [(l, (m : Int))])) l := mem_nearL.mpr ⟨by omega, by rw [ordP_comm]; exact ed⟩
  obtain ⟨y, y1, y2, y3⟩ := h.cl.other z hw
  rcases f'.mem_ord.mp (mem_nearL.mp y3).2 with q | q
  · rcases List.mem_append.mp (mem_srtP.mp q) with q | q
    · have := f.rng _ q
      simp only at this
      omega
    · have := List.mem_singleton.mp q
      injection this with e1 e2
      exact y2 e1
  · rcases List.mem_append.mp (mem_srtP.mp q) with q | q
    · have := f.rng _ q
      simp only at this
      omega
    · have := List.mem_singleton.mp q
      injection this with e1 e2
      omega
end TL
namespace TL
open PySem PySem.Spec PyProof.Rows L2
/-! ### forests without edges, a path -/
theorem isFor_nil (m : Nat) : IsFor m [] := ⟨.nil, (fun _ h => nomatch h), rng m, [], ⟨List.Perm.refl _, .nil, (fun _ h => nomatch h)⟩, .nil⟩
def pathE : List (Int × Int) := (rng 11).map fun k => (k, k + 1)
theorem isFor_path : IsFor 12 pathE := by
  refine ⟨by unfold AscP LtP; decide +kernel, by decide +kernel, rng 12, (List.range 11).map (fun k => (k + 1, k)), ⟨List.Perm.refl _, by decide +kernel, by decide +kernel⟩, ?_⟩
  rw [show ((List.range 11).map fun k => (k + 1, k)).map (edgeOf (rng 12)) = pathE by decide +kernel]
theorem isSet_one {m : Nat} {es : List (Int × Int)} (f : IsFor m es) {a : Int} (h : 0 ≤ a ∧ a < m) : IsSet m es [a] :=
  ⟨.cons (fun _ h => nomatch h) .nil, fun v hv => by rw [List.mem_singleton.mp hv]; exact h, fun u hu v hv z => by
    rw [List.mem_singleton.mp hu, List.mem_singleton.mp hv] at z
    exact f.loop _ z⟩
theorem after_one (a v : Int) : after [a] a v = [v] := by
  unfold after
  simp [srtI]
theorem mem_path {u v : Int} : (u, v) ∈ pathE ↔ v = u + 1 ∧ 0 ≤ u ∧ u < 11 := by
  unfold pathE
  rw [List.mem_map]
  constructor
  · rintro ⟨k, hk, e⟩
    have := Prod.mk.inj e
    have := mem_rng.mp hk
    omega
  · rintro ⟨h1, h2, h3⟩
    exact ⟨u, mem_rng.mpr ⟨h2, by omega⟩, by rw [h1]⟩
theorem path_up : ∀ k : Nat, k ≤ 11 → Rn 12 pathE [0] k [(k : Int)]
  | 0, _ => .zero
  | k + 1, h => by
    have ih := path_up k (by omega)
    have p : ((k : Int), (k : Int) + 1) ∈ slidesP 12 pathE [(k : Int)] := by
      refine mem_slidesP.mpr ⟨List.mem_singleton.mpr rfl, mem_nearL.mpr ⟨⟨by omega, by omega⟩, ?_⟩, ?_⟩
      · rw [ordP_comm]
        unfold ordP
        rw [if_pos (by omega)]
        exact mem_path.mpr ⟨rfl, by omega, by omega⟩
      · refine List.filter_eq_nil_iff.mpr fun o _ => ?_
        intro z
        obtain ⟨h1, h2⟩ := Bool.and_eq_true_iff.mp z
        rw [List.mem_singleton.mp (of_decide_eq_true h1)] at h2
        simp at h2
    have := Rn.step ih p
    rw [after_one] at this
    have e : ((k + 1 : Nat) : Int) = (k : Int) + 1 := by omega
    rw [e]
    exact this
theorem path_low {j : Nat} {T : List Int} (h : Rn 12 pathE [0] j T) : ∃ x : Int, T = [x] ∧ x ≤ j := by
  induction h with
  | zero => exact ⟨0, rfl, by omega⟩
  | @step k T u v _ p ih =>
    obtain ⟨x, rfl, hx⟩ := ih
    obtain ⟨h1, h2, _⟩ := mem_slidesP.mp p
    obtain rfl := List.mem_singleton.mp h1
    have h3 := isFor_path.mem_ord.mp (mem_nearL.mp h2).2
    refine ⟨v, after_one _ _, ?_⟩
    rcases h3 with z | z
    · have := mem_path.mp z
      omega
    · have := mem_path.mp z
      omega
theorem path_dst : Dst 12 pathE [0] 11 [11] := ⟨path_up 11 (Nat.le_refl _), fun j hj => by
  obtain ⟨x, e, hx⟩ := path_low hj
  have := (List.cons.inj e).1
  omega⟩
theorem bare_low {m : Nat} {S T : List Int} {j : Nat} (h : Rn m [] S j T) : T = S := by
  induction h with
  | zero => rfl
  | step _ p _ =>
    have := (mem_nearL.mp (mem_slidesP.mp p).2.1).2
    exact nomatch this
/-! ### a distance is smaller than the number of settings -/
theorem Dst.chain {m : Nat} {es : List (Int × Int)} {S : List Int} : ∀ {n : Nat} {T : List Int}, Dst m es S n T → ∃ l : List (List Int), l.length = n + 1 ∧ l.Nodup ∧ ∀ r ∈ l, ∃ j, j ≤ n ∧ Dst m es S j r
  | 0, T, h => ⟨[T], rfl, List.pairwise_singleton _ _, fun r hr => ⟨0, Nat.le_refl _, by rw [List.mem_singleton.mp hr]; exact h⟩⟩
  | n + 1, T, h => by
    obtain ⟨T', u, v, h1, _, _⟩ := h.prev
    obtain ⟨l, e, nd, al⟩ := Dst.chain h1
    refine ⟨T :: l, by rw [List.length_cons, e], List.nodup_cons.mpr ⟨fun z => ?_, nd⟩, fun r hr => ?_⟩
    · obtain ⟨j, hj, hd⟩ := al T z
      have := hd.uniq h
      omega
    · rcases List.mem_cons.mp hr with rfl | hr
      · exact ⟨n + 1, Nat.le_refl _, h⟩
      · obtain ⟨j, hj, hd⟩ := al r hr
        exact ⟨j, by omega, hd⟩
theorem nd_sub {l : List (List Int)} (nd : l.Nodup) : ∀ {L : List (List Int)}, (∀ r ∈ l, r ∈ L) → l.length ≤ L.length := by
  induction l with
  | nil => intro L _; exact Nat.zero_le _
  | cons a l ih =>
    intro L h
    obtain ⟨na, nd'⟩ := List.nodup_cons.mp nd
    have ha := h a List.mem_cons_self
    have := ih nd' (L := L.erase a) fun r hr => (List.mem_erase_of_ne fun z => na (by rw [← z]; exact hr)).mpr (h r (List.mem_cons_of_mem _ hr))
    rw [List.length_erase_of_mem ha] at this
    have := List.length_pos_of_mem ha
    rw [List.length_cons]
    omega
theorem Dst.few {m : Nat} {es : List (Int × Int)} {S T : List Int} {n : Nat} {L : List (List Int)} (h : Dst m es S n T) (rc : ∀ r, Rch m es S r → r ∈ L) (hl : L.length ≤ 4096) : n ≤ 4096 := by
  obtain ⟨l, e, nd, al⟩ := h.chain
  have : l.length ≤ L.length := nd_sub nd fun r hr => by
    obtain ⟨j, _, hd⟩ := al r hr
    exact rc r hd.1.rch
  omega
theorem shows_int {i : Int} (h0 : 0 ≤ i) (h : i ≤ 5000) : Shows (.int i) := by
  have h1 : i.natAbs.log2 < 13 := PySem.Flt.log2_lt_of (by decide) (by omega)
  refine Sm.shows (n := 20) (k := 0) ⟨?_, by simp [PyData.hasDict], by simp [PyData.depth], ?_, ?_⟩ (by decide) (by decide)
  · simp only [PyData.showable]
    exact decide_eq_true (by omega)
  · simp only [PyData.leavesShort]
    exact decide_eq_true (PyData.shown_int_le (by omega))
  · simp only [PyData.weight]
    split <;> omega
end TL
namespace TL
open PySem PySem.Spec PyProof.Rows L2
/-! ### min(a list of ints) -/
def rMinI (K : PySem.W.Frag) : List V → Hp → VK → Prop := fun vs H Q => ∃ (a : Addr) (n : Int) (ns : List Int), vs = [.ref a] ∧ SqL K H a ((n :: ns).map V.int) ∧ Q (.int (ns.foldl min n)) H
theorem foldl_min {n : Int} : ∀ {ns : List Int}, (∀ k ∈ ns, n ≤ k) → ns.foldl min n = n
  | [], _ => rfl
  | k :: ns, h => by
    rw [List.foldl_cons, show min n k = n from Int.min_eq_left (h k List.mem_cons_self)]
    exact foldl_min fun j hj => h j (List.mem_cons_of_mem _ hj)
section
variable {X : Cx}
theorem depth_ints : ∀ ns : List Int, PyData.depthAll (ns.map .int) = 0
  | [] => by simp [PyData.depthAll]
  | n :: ns => by simp [PyData.depthAll, PyData.depth, depth_ints ns]
theorem call_minI (hc : X.calm = true) (hu : X.A.units + 64 < cLine) : CallR X (.builtin "min") (rMinI X.K) := by
  intro pins s σ H vs us Q I r h
  obtain ⟨a, n, ns, rfl, hs, q⟩ := h
  rw [Vals.ref1 r]
  obtain ⟨its, rv, hl, _⟩ := I.list hs
  obtain ⟨as, hr⟩ := Dp.readsAll I _ _ _ (DpAll.of_ints (n :: ns)) rv
  refine PySem.W.min_list_data (x := .int n) (xs := ns.map .int) (as := as) (I.ok.hd hc) hl.isList hr ⟨fun x hx y hy => ?_, fun x hx => ?_⟩ ?_ (fun i v h' tk bs hv rd hk => ?_)
  · have hx : x ∈ (n :: ns).map PyData.int := hx
    have hy : y ∈ (n :: ns).map PyData.int := hy
    obtain ⟨i, _, rfl⟩ := List.mem_map.mp hx
    obtain ⟨j, _, rfl⟩ := List.mem_map.mp hy
    simp [PySem.W.alike]
  · have hx : x ∈ (n :: ns).map PyData.int := hx
    obtain ⟨i, _, rfl⟩ := List.mem_map.mp hx
    exact fun z => nomatch z
  · have e : PyData.depthAll (PyData.int n :: ns.map .int) = 0 := depth_ints (n :: ns)
    rw [e]
    omega
  · rw [PySem.W.minD_ints] at rd
    cases rd
    exact ⟨.int _, H, I.kept hk, ⟨_, rfl⟩, q⟩
def rMaxI (K : PySem.W.Frag) : List V → Hp → VK → Prop := fun vs H Q => ∃ (a : Addr) (n : Int) (ns : List Int), vs = [.ref a] ∧ SqL K H a ((n :: ns).map V.int) ∧ Q (.int (ns.foldl max n)) H
theorem call_maxI (hc : X.calm = true) (hu : X.A.units + 64 < cLine) : CallR X (.builtin "max") (rMaxI X.K) := by
  intro pins s σ H vs us Q I r h
  obtain ⟨a, n, ns, rfl, hs, q⟩ := h
  rw [Vals.ref1 r]
  obtain ⟨its, rv, hl, _⟩ := I.list hs
  obtain ⟨as, hr⟩ := Dp.readsAll I _ _ _ (DpAll.of_ints (n :: ns)) rv
  refine PySem.W.max_list_data (x := .int n) (xs := ns.map .int) (as := as) (I.ok.hd hc) hl.isList hr ⟨fun x hx y hy => ?_, fun x hx => ?_⟩ ?_ (fun i v h' tk bs hv rd hk => ?_)
  · have hx : x ∈ (n :: ns).map PyData.int := hx
    have hy : y ∈ (n :: ns).map PyData.int := hy
    obtain ⟨i, _, rfl⟩ := List.mem_map.mp hx
    obtain ⟨j, _, rfl⟩ := List.mem_map.mp hy
    simp [PySem.W.alike]
  · have hx : x ∈ (n :: ns).map PyData.int := hx
    obtain ⟨i, _, rfl⟩ := List.mem_map.mp hx
    exact fun z => nomatch z
  · have e : PyData.depthAll (PyData.int n :: ns.map .int) = 0 := depth_ints (n :: ns)
    rw [e]
    omega
  · rw [PySem.W.maxD_ints] at rd
    cases rd
    exact ⟨.int _, H, I.kept hk, ⟨_, rfl⟩, q⟩
theorem maxIK (K : PySem.W.Frag) (hu : X.A.units + 64 < cLine) (hc : X.calm = true := by rfl) (h : X.K = K := by rfl) : CallR X (.builtin "max") (rMaxI K) := h ▸ call_maxI hc hu
theorem minIK (K : PySem.W.Frag) (hu : X.A.units + 64 < cLine) (hc : X.calm = true := by rfl) (h : X.K = K := by rfl) : CallR X (.builtin "min") (rMinI K) := h ▸ call_minI hc hu
end
end TL
namespace TL
open PySem PySem.Spec PyProof.Rows L2
/-! ### an edge taken away, and put back -/
theorem IsFor.filt {m : Nat} {es : List (Int × Int)} (f : IsFor m es) (c : Int × Int → Bool) : IsFor m (es.filter c) := by
  obtain ⟨nm, ks, g, pm⟩ := f.grow
  refine ⟨f.asc.filter _, fun p hp => f.rng p (List.mem_filter.mp hp).1, nm, ks.filter (fun q => c (edgeOf nm q)), ⟨g.names, g.up.filter _, fun q hq => g.down q (List.mem_filter.mp hq).1⟩, ?_⟩
  have := pm.filter c
  rw [List.filter_map] at this
  exact this
def cutR (es : List (Int × Int)) (a b : Int) : List (Int × Int) := es.filter fun q => !decide (q = ordP a b)
theorem IsFor.ord_lt {m : Nat} {es : List (Int × Int)} (f : IsFor m es) {a b : Int} (h : (a, b) ∈ es) : ordP a b = (a, b) := by
  have := f.rng _ h
  unfold ordP
  rw [if_pos (by omega)]
theorem IsFor.cut {m : Nat} {es : List (Int × Int)} {a b : Int} (f : IsFor m es) (he : ordP a b ∈ es) (p : List Int) : ¬ Pth (cutR es a b) a b p := fun h => by
  have mem : ∀ q ∈ cutR es a b, q ∈ es ∧ q ≠ ordP a b := fun q hq => by
    obtain ⟨h1, h2⟩ := List.mem_filter.mp hq
    exact ⟨h1, fun z => by rw [decide_eq_true z] at h2; cases h2⟩
  have h1 : Pth es a b p := h.mono fun q hq => (mem q hq).1
  have ad : Adj es a b := f.mem_ord.mp he
  have ne : a ≠ b := fun z => by
    subst z
    exact f.loop _ he
  have h2 : Pth es a b [a, b] := (Pth.one a).snoc ad fun z => ne (List.mem_singleton.mp z).symm
  have e := f.uniq _ _ _ _ h1 h2
  subst e
  cases h with
  | cons ad' h' n =>
    cases h' with
    | one =>
      rcases ad' with z | z
      · exact (mem _ z).2 (f.ord_lt (mem _ z).1).symm
      · exact (mem _ z).2 (by rw [ordP_comm, f.ord_lt (mem _ z).1])
    | cons _ h'' _ => cases h''
theorem AscP.nodup' {es : List (Int × Int)} (h : AscP es) : es.Nodup := h.imp fun {p q} hl e => by
  subst e
  unfold LtP at hl
  omega
theorem IsFor.back {m : Nat} {es : List (Int × Int)} {a b : Int} (f : IsFor m es) (he : ordP a b ∈ es) : srtP (cutR es a b ++ [ordP a b]) = es := by
  have nd := AscP.nodup' f.asc
  have nd2 : (cutR es a b ++ [ordP a b]).Nodup := by
    refine List.nodup_append.mpr ⟨nd.filter _, List.pairwise_singleton _ _, fun x hx y hy e => ?_⟩
    rw [List.mem_singleton.mp hy] at e
    have := (List.mem_filter.mp hx).2
    rw [decide_eq_true e] at this
    cases this
  have pm : (cutR es a b ++ [ordP a b]).Perm es := (List.perm_ext_iff_of_nodup nd2 nd).mpr fun x => by
    rw [List.mem_append, List.mem_singleton]
    unfold cutR
    rw [List.mem_filter]
    constructor
    · rintro (h | h)
      · exact h.1
      · rw [h]; exact he
    · intro h
      by_cases e : x = ordP a b
      · exact .inr e
      · exact .inl ⟨h, by rw [decide_eq_false e]; rfl⟩
  rw [srtP_congr pm, srtP_of_asc f.asc]
theorem cutR_comm (es : List (Int × Int)) (a b : Int) : cutR es a b = cutR es b a := by
  unfold cutR
  rw [ordP_comm]
end TL
namespace TL
open PySem PySem.Spec PyProof.Rows L2
/-! ### an edge between two trees -/
/-- what the program looks at -/
structure Fr (m : Nat) (es : List (Int × Int)) : Prop where
  asc : AscP es
  rng : ∀ p ∈ es, 0 ≤ p.1 ∧ p.1 < p.2 ∧ p.2 < m
  opn : ∀ A p B, es = A ++ p :: B → ¬ Conn A p.1 p.2
theorem Fr.open {m : Nat} {A B : List (Int × Int)} {p : Int × Int} (f : Fr m (A ++ p :: B)) : ¬ Conn A p.1 p.2 := f.opn A p B rfl
theorem IsFor.fr {m : Nat} {es : List (Int × Int)} (f : IsFor m es) : Fr m es := ⟨f.asc, f.rng, fun A p B e => by subst e; exact f.open⟩
theorem Conn.edge {F A : List (Int × Int)} {u v : Int} (s : ∀ q ∈ F, q ∈ A ∨ q = ordP u v) {x y : Int} (h : Conn F x y) : Conn A x y ∨ (Conn A x u ∧ Conn A v y) ∨ (Conn A x v ∧ Conn A u y) := by
  induction h with
  | refl => exact .inl (.refl _)
  | @step b c h e ih =>
    have key : ((b, c) ∈ A ∨ (c, b) ∈ A) ∨ (b = u ∧ c = v) ∨ (b = v ∧ c = u) := by
      have two : ∀ p q : Int, (p, q) = ordP u v → (p = u ∧ q = v) ∨ (p = v ∧ q = u) := fun p q z => by
        unfold ordP at z
        split at z
        · exact .inl ⟨(Prod.mk.inj z).1, (Prod.mk.inj z).2⟩
        · exact .inr ⟨(Prod.mk.inj z).1, (Prod.mk.inj z).2⟩
      rcases e with e | e
      · rcases s _ e with z | z
        · exact .inl (.inl z)
        · exact .inr (two _ _ z)
      · rcases s _ e with z | z
        · exact .inl (.inr z)
        · rcases two _ _ z with ⟨z1, z2⟩ | ⟨z1, z2⟩
          · exact .inr (.inr ⟨z2, z1⟩)
          · exact .inr (.inl ⟨z2, z1⟩)
    rcases key with ad | ⟨rfl, rfl⟩ | ⟨rfl, rfl⟩
    · rcases ih with i | ⟨i, j⟩ | ⟨i, j⟩
      · exact .inl (.step i ad)
      · exact .inr (.inl ⟨i, .step j ad⟩)
      · exact .inr (.inr ⟨i, .step j ad⟩)
    · rcases ih with i | ⟨i, j⟩ | ⟨i, j⟩
      · exact .inr (.inl ⟨i, .refl _⟩)
      · exact .inr (.inl ⟨i, .refl _⟩)
      · exact .inl i
    · rcases ih with i | ⟨i, j⟩ | ⟨i, j⟩
      · exact .inr (.inr ⟨i, .refl _⟩)
      · exact .inl i
      · exact .inr (.inr ⟨i, .refl _⟩)
theorem Conn.adj {es : List (Int × Int)} {p : Int × Int} (h : p ∈ es) : Conn es p.1 p.2 := .step (.refl _) (.inl h)
theorem ord_conn {es : List (Int × Int)} {u v : Int} (h : Conn es (ordP u v).1 (ordP u v).2) : Conn es u v := by
  unfold ordP at h
  split at h
  · exact h
  · exact h.symm
theorem IsFor.joined {m : Nat} {es : List (Int × Int)} {u v : Int} (f : IsFor m es) (hu : 0 ≤ u ∧ u < m) (hv : 0 ≤ v ∧ v < m) (np : ∀ p, ¬ Pth es u v p) : Fr m (srtP (es ++ [ordP u v])) := by
  have nc : ¬ Conn es u v := fun h => by
    obtain ⟨p, hp⟩ := h.pth
    exact np p hp
  have ne : u ≠ v := fun z => by
    subst z
    exact nc (.refl _)
  have nm : ordP u v ∉ es := fun z => nc (ord_conn (Conn.adj z))
  have nd : (es ++ [ordP u v]).Nodup := List.nodup_append.mpr ⟨AscP.nodup' f.asc, List.pairwise_singleton _ _, fun x hx y hy e => nm (by rw [← List.mem_singleton.mp hy, ← e]; exact hx)⟩
  have ro : 0 ≤ (ordP u v).1 ∧ (ordP u v).1 < (ordP u v).2 ∧ (ordP u v).2 < m := by
    unfold ordP
    split
    · exact ⟨hu.1, by show u < v; omega, hv.2⟩
    · exact ⟨hv.1, by show v < u; omega, hu.2⟩
  refine ⟨srtP_asc nd, fun p hp => ?_, fun A p B e h => ?_⟩
  · rcases List.mem_append.mp (mem_srtP.mp hp) with z | z
    · exact f.rng p z
    · rw [List.mem_singleton.mp z]
      exact ro
  · have ndA : (A ++ p :: B).Nodup := by
      rw [← e]
      exact AscP.nodup' (srtP_asc nd)
    have pA : p ∉ A := fun z => (List.nodup_append.mp ndA).2.2 p z p List.mem_cons_self rfl
    have mem : ∀ q ∈ A ++ p :: B, q ∈ es ∨ q = ordP u v := fun q hq => by
      rw [← e] at hq
      rcases List.mem_append.mp (mem_srtP.mp hq) with z | z
      · exact .inl z
      · exact .inr (List.mem_singleton.mp z)
    by_cases ep : p = ordP u v
    · have sub : ∀ q ∈ A, q ∈ es := fun q hq => by
        rcases mem q (List.mem_append_left _ hq) with z | z
        · exact z
        · exact absurd (by rw [ep, ← z]; exact hq) pA
      have h2 := h.mono sub
      rw [ep] at h2
      exact nc (ord_conn h2)
    · have pe : p ∈ es := (mem p (List.mem_append_right _ List.mem_cons_self)).resolve_right ep
      have op : ordP p.1 p.2 = p := f.ord_lt (a := p.1) (b := p.2) pe
      have sub : ∀ q ∈ A, q ∈ cutR es p.1 p.2 ∨ q = ordP u v := fun q hq => by
        rcases mem q (List.mem_append_left _ hq) with z | z
        · refine .inl (List.mem_filter.mpr ⟨z, ?_⟩)
          rw [op, decide_eq_false fun y => pA (by rw [← y]; exact hq)]
          rfl
        · exact .inr z
      have cs : ∀ {x y : Int}, Conn (cutR es p.1 p.2) x y → Conn es x y := fun h => h.mono fun q hq => (List.mem_filter.mp hq).1
      have pq : Conn es p.1 p.2 := Conn.adj pe
      rcases h.edge sub with c | ⟨c1, c2⟩ | ⟨c1, c2⟩
      · obtain ⟨q, hq⟩ := c.pth
        exact f.cut (by rw [op]; exact pe) q hq
      · exact nc (((cs c1).symm.trans pq).trans (cs c2).symm)
      · exact nc ((((cs c2).trans pq.symm)).trans (cs c1))
theorem Fr.shows {m : Nat} {es : List (Int × Int)} (h : Fr m es) (hm : m ≤ 12) (hl : es.length ≤ 13) : Sm (forD m es) 700 3 := by
  have h1 : Sm (prsD es) (13 * 23) 2 := Sm.prs (fun p hp => by have := h.rng p hp; unfold smP sm; omega) hl
  have h2 : Sm (.int (m : Int)) (13 * 23) 2 := (Sm.int (by unfold sm; omega)).le (by decide) (by decide)
  refine (Sm.tup (n := 13 * 23) (k := 2) (m := 2) (fun d hd => ?_) (Nat.le_refl _)).le (by decide) (by decide)
  rcases List.mem_cons.mp hd with rfl | hd
  · exact h2
  · obtain rfl := List.mem_singleton.mp hd
    exact h1
/-! ### paths, level by level -/
def ends (p : List Int) : Int := p.getLastD 0
def lev (m : Nat) (es : List (Int × Int)) (a : Int) : Nat → List (List Int)
  | 0 => [[a]]
  | k + 1 => (lev m es a k).flatMap fun p => ((nearL m es (ends p)).filter fun o => !decide (o ∈ p)).map fun o => p ++ [o]
theorem ends_snoc (p : List Int) (o : Int) : ends (p ++ [o]) = o := by
  unfold ends
  simp
theorem Pth.ends {es : List (Int × Int)} {a b : Int} {p : List Int} (h : Pth es a b p) : TL.ends p = b := by
  induction h with
  | one => rfl
  | @cons a b c p ad hp n ih =>
    unfold TL.ends at ih ⊢
    cases p with
    | nil => cases hp
    | cons x xs =>
      rw [← ih]
      rfl
section
variable {m : Nat} {es : List (Int × Int)} {a : Int}
theorem lev_pth (f : IsFor m es) : ∀ {k : Nat} {p : List Int}, p ∈ lev m es a k → Pth es a (ends p) p ∧ p.length = k + 1
  | 0, p, h => by
    rw [List.mem_singleton.mp h]
    exact ⟨.one a, rfl⟩
  | k + 1, p, h => by
    obtain ⟨q, hq, hp⟩ := List.mem_flatMap.mp h
    obtain ⟨o, ho, rfl⟩ := List.mem_map.mp hp
    obtain ⟨h1, h2⟩ := List.mem_filter.mp ho
    obtain ⟨pq, lq⟩ := lev_pth f hq
    have no : o ∉ q := fun z => by rw [decide_eq_true z] at h2; cases h2
    rw [ends_snoc]
    refine ⟨pq.snoc ((f.mem_ord.mp (mem_nearL.mp h1).2).symm) no, ?_⟩
    rw [List.length_append, lq]
    rfl
theorem Pth.unsnoc {b : Int} {p : List Int} (h : Pth es a b p) (hl : 2 ≤ p.length) : ∃ q c, p = q ++ [b] ∧ Pth es a c q ∧ Adj es c b ∧ b ∉ q := by
  have r := h.rev
  cases hp : p.reverse with
  | nil =>
    have := congrArg List.length hp
    rw [List.length_reverse] at this
    rw [this] at hl
    exact absurd hl (by decide)
  | cons x xs =>
    rw [hp] at r
    have ep : p = xs.reverse ++ [x] := by
      rw [← List.reverse_reverse p, hp, List.reverse_cons]
    cases r with
    | one =>
      rw [ep] at hl
      simp at hl
    | @cons _ c _ _ ad h' n =>
      exact ⟨xs.reverse, c, ep, h'.rev, ad.symm, fun z => n (List.mem_reverse.mp z)⟩
theorem lev_all (f : IsFor m es) : ∀ {k : Nat} {b : Int} {p : List Int}, Pth es a b p → p.length = k + 1 → p ∈ lev m es a k
  | 0, b, p, h, hl => by
    cases h with
    | one => exact List.mem_singleton.mpr rfl
    | cons ad h' n =>
      cases h' <;> simp at hl
  | k + 1, b, p, h, hl => by
    obtain ⟨q, c, rfl, hq, ad, n⟩ := h.unsnoc (by omega)
    rw [List.length_append, List.length_singleton] at hl
    have ih := lev_all f hq (by omega : q.length = k + 1)
    refine List.mem_flatMap.mpr ⟨q, ih, List.mem_map.mpr ⟨b, List.mem_filter.mpr ⟨?_, by rw [decide_eq_false n]; rfl⟩, rfl⟩⟩
    rw [hq.ends]
    have rb : 0 ≤ b ∧ b < m := by
      rcases ad with z | z
      · have := f.rng _ z; simp only at this; omega
      · have := f.rng _ z; simp only at this; omega
    exact mem_nearL.mpr ⟨rb, f.mem_ord.mpr ad.symm⟩
theorem IsFor.on_rng (f : IsFor m es) {b : Int} {p : List Int} (h : Pth es a b p) (ha : 0 ≤ a ∧ a < m) : ∀ x ∈ p, 0 ≤ x ∧ x < (m : Int) := by
  induction h with
  | one => intro x hx; rw [List.mem_singleton.mp hx]; exact ha
  | cons ad _ _ ih =>
    intro x hx
    rcases List.mem_cons.mp hx with rfl | hx
    · exact ha
    · refine ih ?_ x hx
      rcases ad with z | z
      · have := f.rng _ z; simp only at this; omega
      · have := f.rng _ z; simp only at this; omega
theorem lev_nodup (f : IsFor m es) : ∀ k : Nat, (lev m es a k).Nodup
  | 0 => List.pairwise_singleton _ _
  | k + 1 => by
    refine List.pairwise_flatMap.mpr ⟨fun p hp => ?_, ?_⟩
    · refine List.pairwise_map.mpr (((nearL_asc m es _).nodup.filter _).imp fun {x y} h e => h ?_)
      have := List.append_cancel_left e
      exact (List.cons.inj this).1
    · refine (lev_nodup f k).imp fun {p q} h x hx y hy e => h ?_
      obtain ⟨o, _, rfl⟩ := List.mem_map.mp hx
      obtain ⟨o', _, rfl⟩ := List.mem_map.mp hy
      exact (List.append_inj' e rfl).1
theorem lev_len (f : IsFor m es) (ha : 0 ≤ a ∧ a < m) (k : Nat) : (lev m es a k).length ≤ m := by
  have nd : ((lev m es a k).map ends).Nodup := by
    refine List.pairwise_map.mpr ((List.Pairwise.and_mem.mp (lev_nodup f k)).imp ?_)
    rintro p q ⟨hp, hq, h⟩ e
    have h1 := (lev_pth f hp).1
    have h2 := (lev_pth f hq).1
    rw [← e] at h2
    exact h (f.uniq _ _ _ _ h1 h2)
  have rg : ∀ x ∈ (lev m es a k).map ends, 0 ≤ x ∧ x < (m : Int) := fun x hx => by
    obtain ⟨p, hp, rfl⟩ := List.mem_map.mp hx
    have h1 := (lev_pth f hp).1
    have : ∀ {b c : Int} {q : List Int}, Pth es b c q → (0 ≤ b ∧ b < (m : Int)) → 0 ≤ c ∧ c < (m : Int) := by
      intro b c q h
      induction h with
      | one => exact id
      | cons ad _ _ ih =>
        intro hb
        refine ih ?_
        rcases ad with z | z
        · have := f.rng _ z; simp only at this; omega
        · have := f.rng _ z; simp only at this; omega
    exact this h1 ha
  have := (IsSet.mk (es := []) (m := m) (srtI_asc nd) (fun v hv => rg v (mem_srtI.mp hv)) (fun _ _ _ _ z => nomatch z)).len
  rw [srtI_length, List.length_map] at this
  exact this
end
end TL
namespace TL
open PySem PySem.Spec PyProof.Rows L2
/-! ### boards: a forest with lamps; edits -/
structure BS where
  m : Nat
  es : List (Int × Int)
  S : List Int
structure BS.ok (s : BS) : Prop where
  m12 : s.m ≤ 12
  isf : IsFor s.m s.es
  iss : IsSet s.m s.es s.S
def BS.d (s : BS) : PyData := .tuple [forD s.m s.es, intsD s.S]
inductive Ed where
  | light (v : Int)
  | dim (v : Int)
  | slide (u v : Int)
  | grow (o : Option Int)
  | join (a b : Int)
  | cut (a b : Int)
def optD : Option Int → PyData
  | none => .none
  | some v => .int v
def Ed.nm : Ed → Str
  | .light _ => "light"
  | .dim _ => "dim"
  | .slide _ _ => "slide"
  | .grow _ => "grow"
  | .join _ _ => "join"
  | .cut _ _ => "cut"
def Ed.vals : Ed → List PyData
  | .light v => [.int v]
  | .dim v => [.int v]
  | .slide u v => [.int u, .int v]
  | .grow o => [optD o]
  | .join a b => [.int a, .int b]
  | .cut a b => [.int a, .int b]
def Ed.d (e : Ed) : PyData := .tuple (.str e.nm :: e.vals)
def attE (m : Nat) : Option Int → List (Int × Int)
  | none => []
  | some v => [(v, (m : Int))]
def litS (S : List Int) (v : Int) : List Int := srtI (S ++ [v])
def dimS (S : List Int) (v : Int) : List Int := S.filter fun x => !decide (x = v)
def cutB (es : List (Int × Int)) (a b : Int) : List (Int × Int) := es.filter fun q => !decide (q = ordP a b)
def Ed.app : Ed → BS → BS
  | .light v, s => ⟨s.m, s.es, litS s.S v⟩
  | .dim v, s => ⟨s.m, s.es, dimS s.S v⟩
  | .slide u v, s => ⟨s.m, s.es, after s.S u v⟩
  | .grow o, s => ⟨s.m + 1, srtP (s.es ++ attE s.m o), s.S⟩
  | .join a b, s => ⟨s.m, srtP (s.es ++ [ordP a b]), s.S⟩
  | .cut a b, s => ⟨s.m, cutB s.es a b, s.S⟩
def okV (s : BS) (v : Int) : Prop := 0 ≤ v ∧ v < s.m
def Ed.can : Ed → BS → Prop
  | .light v, s => okV s v ∧ v ∉ s.S ∧ (nearL s.m s.es v).filter (fun o => decide (o ∈ s.S)) = []
  | .dim v, s => v ∈ s.S
  | .slide u v, s => (u, v) ∈ slidesP s.m s.es s.S
  | .grow o, s => s.m < 12 ∧ ∀ v, o = some v → okV s v
  | .join a b, s => okV s a ∧ okV s b ∧ (∀ p, ¬ Pth s.es a b p) ∧ ¬ (a ∈ s.S ∧ b ∈ s.S)
  | .cut a b, s => okV s a ∧ okV s b ∧ ordP a b ∈ s.es
theorem ok_light {s : BS} {v : Int} (h : s.ok) (c : (Ed.light v).can s) : ((Ed.light v).app s).ok := by
  obtain ⟨hv, nv, hn⟩ := c
  refine ⟨h.m12, h.isf, ⟨srtI_asc (List.nodup_append.mpr ⟨h.iss.asc.nodup, by simp, fun a ha b hb => ?_⟩), fun x hx => ?_, fun x hx y hy => ?_⟩⟩
  · rw [List.mem_singleton.mp hb]
    intro e
    rw [e] at ha
    exact nv ha
  · rcases List.mem_append.mp (mem_srtI.mp hx) with hx | hx
    · exact h.iss.rng x hx
    · rw [List.mem_singleton.mp hx]
      exact hv
  · have key : ∀ u ∈ s.S, ordP u v ∉ s.es := fun u hu h2 => by
      have : u ∈ (nearL s.m s.es v).filter (fun o => decide (o ∈ s.S)) := List.mem_filter.mpr ⟨mem_nearL.mpr ⟨h.iss.rng u hu, h2⟩, decide_eq_true hu⟩
      rw [hn] at this
      cases this
    rcases List.mem_append.mp (mem_srtI.mp hx) with h1 | h1
    · rcases List.mem_append.mp (mem_srtI.mp hy) with h2 | h2
      · exact h.iss.free x h1 y h2
      · rw [List.mem_singleton.mp h2]
        exact key x h1
    · rw [List.mem_singleton.mp h1]
      rcases List.mem_append.mp (mem_srtI.mp hy) with h2 | h2
      · rw [ordP_comm]
        exact key y h2
      · rw [List.mem_singleton.mp h2]
        exact h.isf.loop v
theorem ok_dim {s : BS} {v : Int} (h : s.ok) : ((Ed.dim v).app s).ok :=
  ⟨h.m12, h.isf, ⟨h.iss.asc.filter _, fun x hx => h.iss.rng x (List.mem_filter.mp hx).1, fun x hx y hy => h.iss.free x (List.mem_filter.mp hx).1 y (List.mem_filter.mp hy).1⟩⟩
theorem ok_slide {s : BS} {u v : Int} (h : s.ok) (c : (Ed.slide u v).can s) : ((Ed.slide u v).app s).ok := ⟨h.m12, h.isf, h.iss.slide h.isf c⟩
theorem ok_cut {s : BS} {a b : Int} (h : s.ok) : ((Ed.cut a b).app s).ok :=
  ⟨h.m12, h.isf.filt _, ⟨h.iss.asc, h.iss.rng, fun x hx y hy z => h.iss.free x hx y hy (List.mem_filter.mp z).1⟩⟩
theorem only_BS (s : BS) : only s.d = true := by
  show only (.tuple [forD s.m s.es, intsD s.S]) = true
  have h1 := only_forD s.m s.es
  have h2 := only_ints s.S
  have h3 : only (intsD s.S) = true := by
    show only (.tuple (s.S.map .int)) = true
    simpa [only] using h2
  simp [only, onlyAll, h1, h3]
theorem only_BSs (l : List BS) : onlyAll (l.map BS.d) = true := by
  induction l with
  | nil => rfl
  | cons s l ih =>
    show (only s.d && onlyAll (l.map BS.d)) = true
    rw [only_BS, ih]
    rfl
theorem only_Ed (e : Ed) : only e.d = true := by
  cases e with
  | grow o => cases o <;> rfl
  | _ => rfl
theorem only_Eds (l : List Ed) : onlyAll (l.map Ed.d) = true := by
  induction l with
  | nil => rfl
  | cons s l ih =>
    show (only s.d && onlyAll (l.map Ed.d)) = true
    rw [only_Ed, ih]
    rfl
/-! ### the heap: all but one address -/
def Fo (b : Addr) (H H' : Hp) : Prop := ∀ a o, a ≠ b → H a = some o → H' a = some o
theorem Same.fo {b : Addr} {H H' : Hp} (h : Same H H') : Fo b H H' := fun a o _ e => h a o e
theorem Fo.refl {b : Addr} {H : Hp} : Fo b H H := fun _ _ _ e => e
theorem Fo.trans {b : Addr} {H H1 H2 : Hp} (h : Fo b H H1) (g : Fo b H1 H2) : Fo b H H2 := fun a o n e => g a o n (h a o n e)
theorem Fo.kt {K : PySem.W.Frag} {b C dx : Addr} {fs : List (Str × V)} {H H' : Hp} (h : Fo b H H') (hb : H b = some (.ins C dx fs)) : KT K H H' := by
  intro a xs q
  rcases q with (q | ⟨o, q⟩) | q
  · exact .inl (.inl (h _ _ (fun z => by rw [z, hb] at q; cases q) q))
  · exact .inl (.inr ⟨o, h _ _ (fun z => by rw [z, hb] at q; cases q) q⟩)
  · exact .inr q
theorem Fo.upd {b : Addr} {H : Hp} {o : HO} : Fo b H (upd H b o) := fun a u n e => by
  rw [upd_ne n]
  exact e
theorem Deck.fo {b d l C dx : Addr} {n : Nat} {fs : List (Str × V)} {H H' : Hp} (hD : Deck H d l n) (h : Fo b H H') (hb : H b = some (.ins C dx fs)) : Deck H' d l n := by
  obtain ⟨c, ns, hc, h1, h2, h3⟩ := hD
  exact ⟨c, ns, hc, h _ _ (fun z => by rw [z, hb] at h1; cases h1) h1, h _ _ (fun z => by rw [z, hb] at h2; cases h2) h2, h3⟩
theorem Deck.ins {d l b C dx : Addr} {n : Nat} {fs : List (Str × V)} {H : Hp} (hD : Deck H d l n) (hb : H b = some (.ins C dx fs)) : b ≠ d ∧ b ≠ l := by
  obtain ⟨c, ns, hc, h1, h2, h3⟩ := hD
  exact ⟨fun z => (by rw [z, h1] at hb; cases hb), fun z => (by rw [z, h2] at hb; cases hb)⟩
/-! ### a board as it stands -/
def flds (sa ma : Addr) (busy : Bool) : List (Str × V) := [("states", .ref sa), ("made", .ref ma), ("busy", .bl busy)]
structure Bd (K : PySem.W.Frag) (C : Addr) (H : Hp) (b : Addr) (sts : List BS) (eds : List Ed) : Prop where
  at_ : ∃ dx sa ma, H b = some (.ins C dx (flds sa ma false)) ∧ Dp K H (.ref sa) (.tuple (sts.map BS.d)) ∧ Dp K H (.ref ma) (.tuple (eds.map Ed.d))
  len : sts.length = eds.length + 1
  le : eds.length ≤ 60
  ok : ∀ s ∈ sts, s.ok
theorem only_tup {ds : List PyData} (h : onlyAll ds = true) : only (.tuple ds) = true := by
  simpa [only] using h
theorem Bd.kt {K : PySem.W.Frag} {C b : Addr} {H H' : Hp} {sts : List BS} {eds : List Ed} (h : Bd K C H b sts eds) (k : KT K H H') (e : ∀ o, H b = some o → H' b = some o) : Bd K C H' b sts eds := by
  obtain ⟨dx, sa, ma, h1, h2, h3⟩ := h.at_
  exact ⟨⟨dx, sa, ma, e _ h1, Dp.kt k h2 (only_tup (only_BSs _)), Dp.kt k h3 (only_tup (only_Eds _))⟩, h.len, h.le, h.ok⟩
theorem Bd.same {K : PySem.W.Frag} {C b : Addr} {H H' : Hp} {sts : List BS} {eds : List Ed} (h : Bd K C H b sts eds) (s : Same H H') : Bd K C H' b sts eds := h.kt (Same.kt s) fun o e => s b o e
theorem Bd.fm {K : PySem.W.Frag} {C b d l : Addr} {n : Nat} {H H' : Hp} {sts : List BS} {eds : List Ed} (h : Bd K C H b sts eds) (hD : Deck H d l n) (f : Fm d l H H') : Bd K C H' b sts eds := by
  obtain ⟨dx, sa, ma, h1, _⟩ := id h.at_
  have ne := hD.ins h1
  exact h.kt (f.kt hD) fun o e => f b o ne.1 ne.2 e
theorem Bd.ins {K : PySem.W.Frag} {C b : Addr} {H : Hp} {sts : List BS} {eds : List Ed} (h : Bd K C H b sts eds) : ∃ dx fs, H b = some (.ins C dx fs) := let ⟨dx, _, _, h1, _⟩ := h.at_; ⟨dx, _, h1⟩
theorem Bd.fo {K : PySem.W.Frag} {C b c : Addr} {H H' : Hp} {sts : List BS} {eds : List Ed} {dx Cc : Addr} {fs : List (Str × V)} (h : Bd K C H b sts eds) (hc : H c = some (.ins Cc dx fs)) (f : Fo c H H') (n : b ≠ c) : Bd K C H' b sts eds := h.kt (f.kt hc) fun o e => f b o n e
theorem ne_sm : ¬ (("states" : Str) = "made") := by decide +kernel
theorem ne_sb : ¬ (("states" : Str) = "busy") := by decide +kernel
theorem ne_mb : ¬ (("made" : Str) = "busy") := by decide +kernel
section
variable {sa ma : Addr} {k : Bool}
theorem look_cons {f g : Str} {v : V} {r : List (Str × V)} : ((g, v) :: r).lookup f = if f = g then some v else r.lookup f := by
  rw [List.lookup_cons]
  by_cases h : f = g
  · rw [if_pos h, h, beq_self_eq_true]
  · rw [if_neg h, show (f == g) = false from beq_eq_false_iff_ne.mpr h]
theorem flds_states : (flds sa ma k).lookup ("states" : Str) = some (.ref sa) := by
  unfold flds
  rw [look_cons, if_pos rfl]
theorem flds_made : (flds sa ma k).lookup ("made" : Str) = some (.ref ma) := by
  unfold flds
  rw [look_cons, if_neg (fun z => ne_sm z.symm), look_cons, if_pos rfl]
theorem flds_busy : (flds sa ma k).lookup ("busy" : Str) = some (.bl k) := by
  unfold flds
  rw [look_cons, if_neg (fun z => ne_sb z.symm), look_cons, if_neg (fun z => ne_mb z.symm), look_cons, if_pos rfl]
theorem flds_no {x : Str} (h1 : ¬ x = "states") (h2 : ¬ x = "made") (h3 : ¬ x = "busy") : (flds sa ma k).lookup x = none := by
  unfold flds
  rw [look_cons, if_neg h1, look_cons, if_neg h2, look_cons, if_neg h3]
  rfl
theorem putF_here {f : Str} {v u : V} {r : List (Str × V)} : putF f v ((f, u) :: r) = (f, v) :: r := by
  show (if f = f then _ else _) = _
  rw [if_pos rfl]
theorem putF_next {f g : Str} {v u : V} {r : List (Str × V)} (h : ¬ g = f) : putF f v ((g, u) :: r) = (g, u) :: putF f v r := by
  show (if g = f then _ else _) = _
  rw [if_neg h]
theorem put_states {z : Addr} : putF ("states" : Str) (.ref z) (flds sa ma k) = flds z ma k := putF_here
theorem put_made {z : Addr} : putF ("made" : Str) (.ref z) (flds sa ma k) = flds sa z k := by
  unfold flds
  rw [putF_next ne_sm, putF_here]
theorem put_busy {z : Bool} : putF ("busy" : Str) (.bl z) (flds sa ma k) = flds sa ma z := by
  unfold flds
  rw [putF_next ne_sb, putF_next ne_mb, putF_here]
end
end TL
namespace TL
open PySem PySem.Spec PyProof.Rows L2 LamX NdefX
/-! ### try: return e / finally: .. (nothing raised, a bool returned) -/
def tRetFin (te : TE) (tf : TS) : TS := fun D σ H => te σ H fun v H1 => ∃ b, v = .bl b ∧ tf { nx := fun _ H2 => D.rt (.bl b) H2, rt := fun _ _ => False } σ H1
theorem ps_retFin {X : Cx} {e : Expr} {f₀ : Stmt} {fs : List Stmt} {pos p1 : Pos} {te : TE} {tf : TS} (he : PE X.nox e te) (hf : PSs X.nox (f₀ :: fs) tf) : PS X (.Try [.Return (some e) p1] [] [] (f₀ :: fs) pos) (tRetFin te tf) := by
  refine ⟨fun pins s σ H D I h => ?_⟩
  refine wpAny_Try_finally (wpAny_execs_cons (wpAny_Return_some (wpAny_mono (he.run pins s σ H _ (I.wish _) h) (fun u s1 z => ?_) fun _ _ z => False.elim z)))
  obtain ⟨v, H1, I1, r, b, ev, q⟩ := z
  subst ev
  have I2 : Inv X pins σ H1 s1 := I1.unwish
  refine wpAny_mono (hf.run pins s1 σ H1 _ (I2.wish _) q) (fun g2 s2 q2 => ?_) fun _ _ z => False.elim z
  have q3 : SP X pins { nx := fun _ H2 => D.rt (.bl b) H2, rt := fun _ _ => False } g2 s2 := q2.unwish
  cases g2 with
  | next =>
    obtain ⟨σ', H2, J, q⟩ := q3
    exact ⟨.bl b, σ', H2, J, r, q⟩
  | ret w =>
    obtain ⟨_, _, _, _, _, q⟩ := q3
    exact False.elim q
  | brk =>
    obtain ⟨_, _, _, q⟩ := q3
    exact False.elim q
  | cont =>
    obtain ⟨_, _, _, q⟩ := q3
    exact False.elim q
/-! ### all but one address and the descriptions -/
def ExB (b : Addr) (H H' : Hp) : Prop := ∀ a o, a ≠ b → H a = some o → (∀ φ, o ≠ .ext φ) → (∀ ps, o ≠ .tbl ps) → H' a = some o
theorem ExB.trans {b : Addr} {H H1 H2 : Hp} (h : ExB b H H1) (g : ExB b H1 H2) : ExB b H H2 := fun a o n e x y => g a o n (h a o n e x y) x y
theorem Fo.exb {b : Addr} {H H' : Hp} (h : Fo b H H') : ExB b H H' := fun a o n e _ _ => h a o n e
theorem ExB.off {b : Addr} {cl : List (Str × Addr)} {H : Hp} (all : ∀ c ∈ cl.map (·.2), ∃ o v, H c = some (CellO c o) ∧ o.data = .cell v) : ExB b H (offC cl H) := fun a o _ e x _ => (offC_out (CellsG.out all e x)).trans e
theorem ExB.kt {K : PySem.W.Frag} {b C dx : Addr} {fs : List (Str × V)} {H H' : Hp} (h : ExB b H H') (hb : H b = some (.ins C dx fs)) : KT K H H' := by
  intro a xs q
  rcases q with (q | ⟨o, q⟩) | q
  · exact .inl (.inl (h _ _ (fun z => by rw [z, hb] at q; cases q) q (fun φ z => by cases z) (fun φ z => by cases z)))
  · exact .inl (.inr ⟨o, h _ _ (fun z => by rw [z, hb] at q; cases q) q (fun φ z => by cases z) (fun φ z => by cases z)⟩)
  · exact .inr q
/-! ### a board as it stands while a goal is asked -/
structure BdW (K : PySem.W.Frag) (C : Addr) (H : Hp) (b : Addr) (w : Bool) (sts : List BS) (eds : List Ed) : Prop where
  at_ : ∃ dx sa ma, H b = some (.ins C dx (flds sa ma w)) ∧ Dp K H (.ref sa) (.tuple (sts.map BS.d)) ∧ Dp K H (.ref ma) (.tuple (eds.map Ed.d))
  len : sts.length = eds.length + 1
  le : eds.length ≤ 60
  ok : ∀ s ∈ sts, s.ok
theorem Bd.w {K : PySem.W.Frag} {C b : Addr} {H : Hp} {sts : List BS} {eds : List Ed} (h : Bd K C H b sts eds) : BdW K C H b false sts eds := ⟨h.at_, h.len, h.le, h.ok⟩
theorem BdW.bd {K : PySem.W.Frag} {C b : Addr} {H : Hp} {sts : List BS} {eds : List Ed} (h : BdW K C H b false sts eds) : Bd K C H b sts eds := ⟨h.at_, h.len, h.le, h.ok⟩
theorem BdW.kt {K : PySem.W.Frag} {C b : Addr} {w : Bool} {H H' : Hp} {sts : List BS} {eds : List Ed} (h : BdW K C H b w sts eds) (k : KT K H H') (e : ∀ C dx fs, H b = some (.ins C dx fs) → H' b = some (.ins C dx fs)) : BdW K C H' b w sts eds := by
  obtain ⟨dx, sa, ma, h1, h2, h3⟩ := h.at_
  exact ⟨⟨dx, sa, ma, e _ _ _ h1, Dp.kt k h2 (only_tup (only_BSs _)), Dp.kt k h3 (only_tup (only_Eds _))⟩, h.len, h.le, h.ok⟩
theorem BdW.same {K : PySem.W.Frag} {C b : Addr} {w : Bool} {H H' : Hp} {sts : List BS} {eds : List Ed} (h : BdW K C H b w sts eds) (s : Same H H') : BdW K C H' b w sts eds := h.kt (Same.kt s) fun _ _ _ e => s b _ e
/-! ### what is known of a goal -/
section
variable {P : Program} {w : World} {K : PySem.W.Frag} {mg : Str → Option Value} {base : Heap} {C : Addr}
def GoalH (P : Program) (w : World) (K : PySem.W.Frag) (mg : Str → Option Value) (base : Heap) (C : Addr) (H : Hp) (b f : Addr) (g : BS → List Ed → Bool) : Prop :=
  ∃ (F : LF) (ps fr : List Str) (ws : List (Option V)) (sp : List (Option V) → Sp) (R : Hp → Prop), H f = some (LmO f F) ∧ H F.c = some (CodeO F.c F.qual) ∧ CellsG H F.cl fr ws ∧ LmOk P w K mg base CX0 4 f F ps fr sp ∧ R H ∧
    (∀ H H', R H → ExB b H H' → R H') ∧ ∀ H sts eds s (Q : VK), R H → BdW K C H b true sts eds → sts[eds.length]? = some s → (∀ H', Same H H' → Q (.bl (g s eds)) H') → sp ws [.ref b] H Q E0
theorem CellsG.fo {H H' : Hp} {cl : List (Str × Addr)} {fr : List Str} {ws : List (Option V)} (h : CellsG H cl fr ws) (e : ∀ c o, H c = some (CellO c o) → H' c = some (CellO c o)) : CellsG H' cl fr ws := by
  refine ⟨h.len, fun c hc => ?_, h.inj, fun i y hy => ?_⟩
  · obtain ⟨o, v, h1, h2⟩ := h.all c hc
    exact ⟨o, v, e _ _ h1, h2⟩
  · obtain ⟨c, hc, hv⟩ := h.has i y hy
    refine ⟨c, hc, fun v ev => ?_⟩
    obtain ⟨o, u, h1, h2, r⟩ := hv v ev
    exact ⟨o, u, e _ _ h1, h2, r⟩
theorem GoalH.fo {H H' : Hp} {b f dx : Addr} {fs : List (Str × V)} {g : BS → List Ed → Bool} (h : GoalH P w K mg base C H b f g) (fo : Fo b H H') (hb : H b = some (.ins C dx fs)) : GoalH P w K mg base C H' b f g := by
  obtain ⟨F, ps, fr, ws, sp, R, h1, h2, h3, h4, h5, h6, h7⟩ := h
  have ne : ∀ {a φ}, H a = some (.ext φ) → a ≠ b := fun {a φ} e z => by
    rw [z, hb] at e
    cases e
  exact ⟨F, ps, fr, ws, sp, R, fo _ _ (ne h1) h1, fo _ _ (ne h2) h2, h3.fo fun c o e => fo _ _ (ne e) e, h4, h6 _ _ h5 fo.exb, h6, h7⟩
end
/-! ### the def that makes a lambda -/
theorem okC {P : Program} {w : World} {K : PySem.W.Frag} {mg : Str → Option Value} {base : Heap} {x qual : Str} {st : Stmt} {f c : Addr} {fd : FuncData} {N ps : List Str} {k : Nat} {sp : Sp} (F : Fun K x qual st f fd) (hc : fd.code = .ref c) (S : FnScope N ps (defScope st)) (len : ∀ vs H Q E, sp vs H Q E → vs.length = ps.length)
    (hbody : ∀ (A : Around) (outer : List Env) (s : Shared) (H : Hp) (vs : List V) (Q : VK) (E : XK), Room k (A.deeper (envOfC qual (defScope st) s.heap.objs.size f (.ref c))) → sp vs H Q E →
      ∃ t, PSs (cxOf CX0 P w K mg base N qual (defScope st) f (.ref c) A outer s H E).nox (defBody st) t ∧ t { nx := fun _ H' => Q .non H', rt := Q } (start N vs) H) : FnOk P w K mg base CX0 (k + 1) f fd ps sp := by
  obtain ⟨oc, od, kV, doc, pm, an, cdv, ct, osl, rfl, lk, hcd⟩ := F.ex
  have e : cdv = .ref c := hc
  subst e
  refine fn_of lk hcd S len fun A outer s H vs Q E hr hsp => ?_
  obtain ⟨t, h, q⟩ := hbody A outer s H vs Q E hr hsp
  exact ⟨t, h.nox, q⟩
theorem okGC {P : Program} {w : World} {K : PySem.W.Frag} {mg : Str → Option Value} {base : Heap} {x qual : Str} {st : Stmt} {f c : Addr} {fd : FuncData} {N ps : List Str} {k : Nat} {sp : Sp} (F : Fun K x qual st f fd) (hc : fd.code = .ref c) (S : FnScope N ps (defScope st))
    (len : ∀ vs H Q E, sp vs H Q E → vs.length = ps.length)
    (hb : ∀ (A : Around) (out : List Env) (s : Shared) (H : Hp) (vs : List V) (Q : VK) (E : XK),
      Room k (A.deeper (envOfC qual (defScope st) s.heap.objs.size f (.ref c))) → A.guards = some [] → sp vs H Q E →
      ∃ t, PSs (cxOf CX0 P w K mg base N qual (defScope st) f (.ref c) A out s H E).nox (defBody st) t ∧
        t { nx := fun _ H' => Q .non H', rt := Q } (start N vs) H) :
    FnG P w K mg base (k + 1) f fd ps sp := by
  obtain ⟨oc, od, kV, doc, pm, an, cdv, ct, osl, rfl, lk, hcd⟩ := F.ex
  have e : cdv = .ref c := hc
  subst e
  refine ⟨len, fun A out s H args us vs Q E hr gd e0 bnd r hsp => ?_⟩
  have stays : ∀ b o, base.get? b = some o → s.heap.get? b = some o := fun b o e => (e0.bs b o e).1
  have KX : K.In s.heap := e0.mod.kin.keeps stays
  have nl : s.heap.NoLimit := e0.mod.nolimit.keeps stays
  have kinds : ∀ y ∈ ps.zip us, (defScope st).names.lookup y.1 = some .local ∨
      ((defScope st).names.lookup y.1 = some .cell ∧
        ((cellsFrom (s.heap.objs.size + 1) (defScope st).names []).lookup y.1).isSome = true) := by
    rintro ⟨n, v⟩ hy
    exact (S.par n (List.of_mem_zip hy).1).imp id fun q => ⟨q, PySem.W.cellsFrom_some _ _ _ (.inl q)⟩
  refine codeAny_call_function hr.depth (KX _ _ lk) rfl S.co S.gen rfl (PySem.W.codeRec_of KX hcd) (bnd _ _ _ _ ?_)
  refine wpAny_newFunctionEnv_cells S.kind kinds fun env he s1 ic => ?_
  subst he
  refine ⟨nl.keeps ic.toInCall.keep, codeAny_func ?_⟩
  obtain ⟨t, ht, hq⟩ := hb A out s H vs Q E (hr.deeper _) gd hsp
  have J := inv_start (CX := CX0) (E := E) S hr.hd e0 (len _ _ _ _ hsp) r ic
  refine wpAny_mono (ht.nox.run [] s1 (start N vs) H _ J hq) (fun fl s' hs => ?_) fun e s' hs => hs
  match fl, hs with
  | .ret u, ⟨v, σ', H', J', rv, q⟩ => exact ⟨v, H', J'.os, J'.bare, J'.base, J'.hok, rv, q⟩
  | .next, ⟨σ', H', J', q⟩ => exact ⟨V.non, H', J'.os, J'.bare, J'.base, J'.hok, rfl, q⟩
  | .brk, ⟨_, _, _, q⟩ => exact False.elim q
  | .cont, ⟨_, _, _, q⟩ => exact False.elim q
def freeB (sc scope : Scope) : Bool := scope.names.all fun y => match y.2 with
  | .free => match sc.names.lookup y.1 with
    | some .cell => true
    | some .free => true
    | _ => false
  | _ => true
theorem freeB_ok {sc scope : Scope} (h : freeB sc scope = true) : ∀ y ∈ scope.names, y.2 = .free → sc.names.lookup y.1 = some .cell ∨ sc.names.lookup y.1 = some .free := fun y hy e => by
  have z := List.all_eq_true.mp h y hy
  rw [e] at z
  revert z
  cases q : sc.names.lookup y.1 with
  | none => intro z; cases z
  | some k => cases k <;> intro z <;> first | exact .inl rfl | exact .inr rfl | cases z
def frB (fr : List Str) (scope : Scope) : Bool := fr.all fun y => scope.names.any fun z => z.1 == y && match z.2 with
  | .free => true
  | _ => false
theorem frB_ok {fr : List Str} {scope : Scope} (h : frB fr scope = true) : ∀ y ∈ fr, (y, NameKind.free) ∈ scope.names := fun y hy => by
  obtain ⟨⟨a, k⟩, hz, e⟩ := List.any_eq_true.mp (List.all_eq_true.mp h y hy)
  obtain ⟨e1, e2⟩ := Bool.and_eq_true_iff.mp e
  have e1 : a = y := by simpa using e1
  subst e1
  cases k <;> first | exact hz | cases e2
/-- o.x(e, .., k = lambda ..: ..) -/
theorem pe_mtakLm {X : Cx} {k n : Nat} {ps : List Str} {sp : Sp} {C c cP : Addr} {x kn : Str} {pos apos lp kp : Pos} {e o : Expr} {es : List Expr} {ta : TE} {t : TA} {params : Arguments} {body : Expr} {scope : Scope} {pl : Sem Bool} (fr : List Str) (js : List Nat) (T : List (Addr × Str))
    (M : MtK X.prog X.w X.K X.mg X.base C x k ps [kn] (n + 1) 1 sp) (hr : Room k X.A) (he : PE X o ta) (ha : PA X (e :: es) t)
    (TB : TabB X.base X.mg c cP) (hm : (cP, X.env.qual ++ "<lambda>") ∈ T) (hu : ∀ p ∈ T, p.1 = cP → p.2 = X.env.qual ++ "<lambda>") (hcode : X.env.code = .ref c := by rfl)
    (hfree : freeB X.env.scope scope = true := by rfl) (hfr : frB fr scope = true := by rfl) (hjs : js.map (fun j => X.N[j]?) = fr.map some := by rfl) (hfn : ∀ x, X.fn x = true := by intro _; rfl) (hdef : defaultsOf params X.env = ([], []) := by rfl)
    (hall : (backToKw pos (keywordEach [⟨some kn, .Lambda params body scope lp, kp⟩] X.env)).all (·.1.isSome) = true := by rfl) (hks : (backToKw pos (keywordEach [⟨some kn, .Lambda params body scope lp, kp⟩] X.env)).filterMap (·.1) = [kn] := by rfl)
    (hst : starEach (e :: es) X.env = (false, eval e X.env) :: starEach es X.env := by rfl)
    (hpl : ((backTo pos (starEach (e :: es) X.env)).any (·.1) || (backToKw pos (keywordEach [⟨some kn, .Lambda params body scope lp, kp⟩] X.env)).any (·.1.isNone)) = false := by rfl)
    (ht : eval (.Call (.Attribute o x apos) (e :: es) [⟨some kn, .Lambda params body scope lp, kp⟩] pos) X.env = (do
      let ov ← eval o X.env
      standAt apos.atName
      let (f, first) ← holding [ov] (getMethod ov x pl)
      callWith pos f first (backTo pos (starEach (e :: es) X.env)) (backToKw pos (keywordEach [⟨some kn, .Lambda params body scope lp, kp⟩] X.env))) := by rfl) :
    PE X (.Call (.Attribute o x apos) (e :: es) [⟨some kn, .Lambda params body scope lp, kp⟩] pos) (tMethAKL C x sp n 1 (cloFrom X.env.cells scope.names []) fr js ta t
      (tCons (tLm T fun c' => ⟨X.env.qual ++ "<lambda>", params, body, scope, cloFrom X.env.cells scope.names [], c'⟩) tNil)) :=
  pe_mtakL (pl := pl) M hr he ha (pk_cons (pe_lm TB hcode hm hu (freeB_ok hfree) hdef) pk_nil) (freeB_ok hfree) (frB_ok hfr) hjs hfn hall hks hst hpl ht
/-! ### where a lambda stands in a text -/
def forB : Stmt → List Stmt
  | .For _ _ b _ _ => b
  | _ => []
def asgV : Stmt → PySem.Expr
  | .Assign _ v _ => v
  | .Return (some v) _ => v
  | _ => .Name "" ⟨0, 0, 0, 0⟩
def kwV : PySem.Expr → Nat → PySem.Expr
  | .Call _ _ kws _, j => (kws.getD j ⟨none, .Name "" ⟨0, 0, 0, 0⟩, ⟨0, 0, 0, 0⟩⟩).value
  | _, _ => .Name "" ⟨0, 0, 0, 0⟩
def lmArgs : PySem.Expr → Arguments
  | .Lambda a _ _ _ => a
  | _ => { posonlyargs := [], args := [], vararg := none, kwonlyargs := [], kw_defaults := [], kwarg := none, defaults := [] }
def lmBody : PySem.Expr → PySem.Expr
  | .Lambda _ b _ _ => b
  | _ => .Name "" ⟨0, 0, 0, 0⟩
def lmScope : PySem.Expr → Scope
  | .Lambda _ _ s _ => s
  | _ => { kind := .function, names := [], isGenerator := false, isCoroutine := false }
abbrev lmQ (q : Str) : Str := q ++ ".<locals>." ++ "<lambda>"
abbrev lmT (cP : Addr) (q : Str) : List (Addr × Str) := [(cP, lmQ q)]
theorem lm_hm {cP : Addr} {q : Str} : (cP, lmQ q) ∈ lmT cP q := List.mem_singleton.mpr rfl
theorem lm_hu {cP : Addr} {q : Str} : ∀ p ∈ lmT cP q, p.1 = cP → p.2 = lmQ q := fun p hp _ => by rw [List.mem_singleton.mp hp]
end TL
/-! ### sorted(d, key = a lambda of the caller's that gives ints) -/
namespace TL
open PySem PySem.Spec PyProof.Rows L2 SrtO
/-- items in the order of their int keys -/
def KeyOut (ns : List Int) (vs out : List Value) : Prop := ∃ ps : List (Int × Value), ps.Perm (ns.zip vs) ∧ out = ps.map Prod.snd ∧ ps.Pairwise fun p q => p.1 ≤ q.1
theorem keyOut_of {ks vs : List Value} {ns : List Int} {xs : List Keyed} (hI : IntsAre ks ns) (hs : Srtd (lt2 ltIv) xs) (hp : xs.Perm (ks.zip vs)) : KeyOut ns vs (xs.map (·.2)) := by
  refine ⟨xs.map fun p => (iv p.1, p.2), ?_, by rw [List.map_map]; rfl, List.pairwise_map.mpr (hs.imp fun {x y} h => Int.not_lt.mp (of_decide_eq_false (p := iv y.1 < iv x.1) h))⟩
  have e : (ks.zip vs).map (fun p : Keyed => (iv p.1, p.2)) = ns.zip vs := by
    rw [← iv_ints hI, List.zip_map_left]
    rfl
  rw [← e]
  exact hp.map _
section
variable {prog : Program} {w : World} {A : Around} {E : Value → Shared → Prop} {s : Shared}
theorem key_end {a kS : Addr} {vs ks : List Value} {ns : List Int} {e e1 : Nat} {R : PySem.Fin → Shared → Prop} (hI : IntsAre ks ns) (hl : ks.length = vs.length) (hz : vs.length ≤ sizeLine) (hka : kS ≠ a)
    (hk : s.heap.get? kS = some (seqObj "list" ks.toArray e)) (ha : s.heap.get? a = some (seqObj "list" #[] e1))
    (h : ∀ out : List Value, KeyOut ns vs out → out.length = vs.length → R (.done (.ret .none)) { s with heap := (s.heap.update kS (Obj.mapSeq fun _ => #[])).update a (Obj.mapSeq fun _ => out.toArray) }) :
    wpAny (model prog w) A (ksk_end a false vs.toArray e1 (.ref kS) ks.toArray) R E s := by
  have kz : (ks.toArray.zip vs.toArray).toList = ks.zip vs := by simp
  -- what stands behind the comparing
  have fin : ∀ st : SortSt, Srtd (lt2 ltIv) (arrOf st).toList → (arrOf st).toList.Perm (ks.zip vs) → failedOf st = none → wpAny (model prog w) A (ksk_tail a false e1 (.ref kS) st) R E s := by
    intro st hs hp hf
    have ho := keyOut_of hI hs hp
    have lo : ((arrOf st).map (·.2)).size = vs.length := by
      rw [Array.size_map, ← Array.length_toList, hp.length_eq, List.length_zip, hl, Nat.min_self]
    have ua : (s.heap.update kS (Obj.mapSeq fun _ => (#[] : Array Value))).get? a = some (seqObj "list" #[] e1) := (Heap.get?_update_ne _ _ _ _ hka.symm).trans ha
    unfold ksk_tail
    dsimp only
    refine wpAny_bind (listUpdate_at hk rfl ?_ (by rw [List.size_toArray, hl]; exact hz) (Nat.zero_le _))
    refine wpAny_bind (wpAny_letGo ?_)
    refine wpAny_bind (seqEpoch_at ua rfl ?_)
    refine wpAny_bind (listUpdate_at ua rfl ?_ (Nat.zero_le _) (by
      show ((arrOf st).map (·.2)).size ≤ _
      rw [lo]
      exact Nat.le_succ_of_le hz))
    rw [hf]
    simp only [bne_self_eq_false, Bool.false_eq_true, if_false]
    refine wpAny_pure ?_
    have q := h ((arrOf st).map (·.2)).toList (by rw [Array.toList_map]; exact ho) (by rw [Array.length_toList, lo])
    rwa [Array.toArray_toList] at q
  unfold ksk_end
  dsimp only
  by_cases h2 : vs.toArray.size < 2
  · rw [if_pos h2, if_pos h2]
    refine wpAny_bind (wpAny_pure ?_)
    rw [StateT.run_pure]
    refine wpAny_bind (wpAny_pure ?_)
    dsimp only
    rw [List.size_toArray] at h2
    refine fin (SortSt.mk' general' (ks.toArray.zip vs.toArray) #[] 7 none) ?_ ?_ rfl
    · show Srtd (lt2 ltIv) (ks.toArray.zip vs.toArray).toList
      rw [kz]
      have ll : (ks.zip vs).length < 2 := by rw [List.length_zip, hl, Nat.min_self]; exact h2
      generalize ks.zip vs = z at ll
      match z, ll with
      | [], _ => exact List.Pairwise.nil
      | [k], _ => exact List.pairwise_singleton _ _
    · show (ks.toArray.zip vs.toArray).toList.Perm _
      rw [kz]
  · rw [if_neg h2, if_neg h2]
    rw [List.size_toArray] at h2
    obtain ⟨κ, hkind, hT⟩ := ints_sortable (prog := prog) (w := w) (A := A) (s := s) (a := a) hI (by omega) s.heap (fun _ _ _ e => e)
    refine wpAny_bind (hkind _ _ ?_)
    refine wpAny_bind (wpAny_mono (wpS_sortO (st0 := SortSt.mk' κ (ks.toArray.zip vs.toArray) #[] 7 none)
      (Q := fun _ st => Srtd (lt2 ltIv) (arrOf st).toList ∧ Stb (lt2 ltIv) (arrOf st).toList (ks.toArray.zip vs.toArray).toList ∧ failedOf st = none) (swo2 swo_int) hT rfl (fun p hm => ?_) rfl rfl fun st a1 a2 a3 => ⟨a1, a2, a3⟩) ?_ fun _ _ e => e)
    · have hm : p ∈ (ks.toArray.zip vs.toArray).toList := hm
      rw [kz] at hm
      exact (List.of_mem_zip hm).1
    rintro ⟨⟨⟩, st⟩ s' ⟨rfl, p1, p2, p3⟩
    dsimp only
    refine fin st p1 ?_ p3
    have := p2.perm
    rwa [kz] at this
end
/-! ### the list's items by a key that is asked of each -/
/-- the list while it is sorted: empty, its count of changes known -/
def ExL (a : Addr) (e : Nat) : HO := .ext fun h => h.get? a = some (seqObj "list" #[] e)
theorem exL_ok {P : Program} {w : World} {H : Hp} {h : Heap} {a : Addr} {e : Nat} (q : h.get? a = some (seqObj "list" #[] e)) : ObjOk P w H h a (ExL a e) := ⟨q, ⟨_, q⟩, fun _ _ q k => k _ q⟩
/-- the rows as they stand, by their keys -/
def KeyOrd (g : V → Int) (xs ys : List V) : Prop := ys.Perm xs ∧ ys.Pairwise fun x y => g x ≤ g y
theorem keyOrd_of {g : V → Int} {xs : List V} {vs out : List Value} (r : Vals xs vs) (h : KeyOut (xs.map g) vs out) : ∃ ys, Vals ys out ∧ KeyOrd g xs ys := by
  obtain ⟨ps, hp, rfl, hs⟩ := h
  have key : ∀ {xs : List V} {vs : List Value}, Vals xs vs → (xs.map g).zip vs = (xs.zip vs).map fun p => (g p.1, p.2) := fun {xs vs} _ => by
    rw [List.zip_map_left]
    rfl
  rw [key r] at hp
  obtain ⟨qs, q1, q2⟩ : ∃ qs : List (V × Value), qs.Perm (xs.zip vs) ∧ qs.map (fun p => (g p.1, p.2)) = ps := by
    have := perm_lift (fun p : V × Value => (g p.1, p.2)) hp (xs.zip vs) rfl
    obtain ⟨l, l1, l2⟩ := this
    exact ⟨l, l1, l2⟩
  subst q2
  have rel : ∀ {xs : List V} {vs : List Value}, Vals xs vs → ∀ p ∈ xs.zip vs, RelV p.1 p.2 := fun {xs vs} r => by
    induction r with
    | nil => exact fun p hp => nomatch hp
    | cons r1 r2 ih =>
      intro p hp
      rcases List.mem_cons.mp hp with rfl | hp
      · exact r1
      · exact ih p hp
  have out : ∀ l : List (V × Value), (∀ p ∈ l, RelV p.1 p.2) → Vals (l.map (·.1)) ((l.map fun p => (g p.1, p.2)).map Prod.snd) := fun l => by
    induction l with
    | nil => exact fun _ => .nil
    | cons p l ih => exact fun h => .cons (h p List.mem_cons_self) (ih fun q hq => h q (List.mem_cons_of_mem _ hq))
  refine ⟨qs.map (·.1), out qs fun p hp => rel r p (q1.mem_iff.mp hp), ?_, ?_⟩
  · have e := q1.map (·.1)
    rwa [List.map_fst_zip (by rw [r.length]; exact Nat.le_refl _)] at e
  · have e : qs.Pairwise fun p q => g p.1 ≤ g q.1 := (List.pairwise_map (f := fun p : V × Value => (g p.1, p.2)) (R := fun p q : Int × Value => p.1 ≤ q.1)).mp hs
    exact List.pairwise_map.mpr e
theorem vals_at {xs : List V} {vs : List Value} {j : Nat} {v : Value} (r : Vals xs vs) (h : vs[j]? = some v) : ∃ x, xs[j]? = some x ∧ RelV x v := by
  induction r generalizing j with
  | nil => cases h
  | cons r1 r2 ih =>
    cases j with
    | zero => cases h; exact ⟨_, rfl, r1⟩
    | succ j => exact ih h
section
variable {X : Cx} {pins : List (Addr × Obj)} {σ : L2.St} {H0 : Hp} {s : Shared} {A : Around} {E : Value → Shared → Prop}
theorem lsort_key {a : Addr} {f : Value} {xs : List V} {g : V → Int} {R : PySem.Fin → Shared → Prop} (I : Inv X pins σ H0 s) (ha : H0 a = some (.lst xs))
    (turn : ∀ (x : V) (v : Value) (H : Hp) (s' : Shared), x ∈ xs → RelV x v → (∀ b o, b ≠ a → H0 b = some o → H b = some o) → Inv X pins σ H s' →
      wpAny (model X.prog X.w) A (call f [v]) (fun u s2 => ∃ (t : Tok) (H2 : Hp), u = .int (g x) t ∧ Inv X pins σ H2 s2 ∧ Same H H2) (fun _ _ => False) s')
    (h : ∀ (s' : Shared) (H' : Hp) (ys : List V), Inv X pins σ H' s' → (∀ b o, b ≠ a → H0 b = some o → H' b = some o) → KeyOrd g xs ys → H' a = some (.lst ys) → R (.done (.ret .none)) s') :
    wpAny (model X.prog X.w) A (ksk_tree a f false) R E s := by
  obtain ⟨hz, vs, n, rv, lv, ho⟩ := I.lstM ha
  have zv : vs.length ≤ sizeLine := by rw [← lv]; exact hz
  have la : a < s.heap.objs.size := Heap.lt_size ho
  unfold ksk_tree
  refine wpAny_bind (listItems_at ho rfl ?_)
  refine wpAny_bind (listUpdate_at ho rfl ?_ (by rw [List.size_toArray]; exact zv) (Nat.zero_le _))
  obtain ⟨e1, h1⟩ : ∃ e1, (s.heap.update a (Obj.mapSeq fun _ => (#[] : Array Value))).get? a = some (seqObj "list" #[] e1) := ⟨_, get?_update_seq ho fun _ => #[]⟩
  have I1 : Inv X pins σ (upd H0 a (ExL a e1)) { s with heap := s.heap.update a (Obj.mapSeq fun _ => (#[] : Array Value)) } :=
    I.write (x := a) (e := a) (t' := s.toks) (by rw [ha]; trivial) (.inl rfl) (fun b u hb q => (Heap.get?_update_ne _ _ _ _ hb).trans q) ⟨_, h1⟩ (exL_ok h1)
  refine wpAny_bind (seqEpoch_at h1 rfl ?_)
  refine wpAny_bind (wpAny_newTuple ?_ (by show vs.length ≤ _; exact zv))
  obtain ⟨h2, eh⟩ : ∃ h2 : Heap, h2 = (s.heap.update a (Obj.mapSeq fun _ => (#[] : Array Value))).push { cls := .type "tuple", data := .seq vs.toArray.toList.toArray } := ⟨_, rfl⟩
  have sz : h2.objs.size = s.heap.objs.size + 1 := by rw [eh, size_push', Heap.size_update]
  have I2 : Inv X pins σ (upd H0 a (ExL a e1)) { s with heap := h2 } := I1.kept (t' := s.toks) (h' := h2) fun b u q => by
    rw [eh]
    exact Heap.get?_push_of_some _ q
  show wpAny _ A _ R E { s with heap := (s.heap.update a (Obj.mapSeq fun _ => (#[] : Array Value))).push { cls := .type "tuple", data := .seq vs.toArray.toList.toArray } }
  rw [← eh]
  have fr : H0 h2.objs.size = none := by
    rw [sz]
    exact I.hok.fresh (Nat.le_succ _)
  have nka : h2.objs.size ≠ a := by rw [sz]; exact Nat.ne_of_gt (Nat.lt_succ_of_lt la)
  refine wpAny_bind (wpAny_newList ?_ (Nat.zero_le _))
  have I3 : Inv X pins σ (upd (upd H0 a (ExL a e1)) h2.objs.size (.lst [])) { s with heap := h2.push (seqObj "list" #[] 0) } := I2.lnew (ys := []) (its := []) (t' := s.toks) .nil (Nat.zero_le _)
  show wpAny _ A _ R E { s with heap := h2.push (seqObj "list" #[] 0) }
  generalize hkS : h2.objs.size = kS at fr nka I3
  generalize h2.push (seqObj "list" #[] 0) = h3 at I3
  clear I1 I2 sz eh h1 hkS
  refine wpAny_holding ?_
  unfold ksk_rest
  refine wpAny_bind (wpAny_rule ?_)
  first
    | rw [List.forIn_toArray]
    | (rw [← Array.forIn_toList]; simp only [List.toList_toArray])
    | rw [← Array.forIn_toList]
  refine wpAny_bind (ksk_fold (fun i s' => ∃ H' : Hp, Inv X pins σ H' s' ∧ (∀ b o, b ≠ a → H0 b = some o → H' b = some o) ∧ H' a = some (ExL a e1) ∧ H' kS = some (.lst (((xs.take i).map g).map V.int))) vs 0 _ ⟨_, I3, fun b o hb q => ?_, ?_, ?_⟩ ?step ?done)
  · rw [upd_ne (ne_of_none q fr), upd_ne hb]
    exact q
  · rw [upd_ne nka.symm, upd_same]
  · exact upd_same
  case step =>
    rintro j v s' hv ⟨H', I', k', a', n'⟩
    rw [Nat.zero_add] at n' ⊢
    obtain ⟨x, hx, rx⟩ := vals_at rv hv
    refine wpAny_bind (wpAny_attempt (wpAny_mono (turn x v H' s' (List.mem_of_getElem? hx) rx k' I') (fun u s2 q => ?_) fun _ _ z => z.elim))
    obtain ⟨t, H2, rfl, I2, sm⟩ := q
    dsimp only
    have n2 := sm _ _ n'
    obtain ⟨z2, its, c, r2, l2, o2⟩ := I2.lstM n2
    have lj : its.length ≤ vs.length := by
      rw [← l2, List.length_map, List.length_map, List.length_take, lv]
      exact Nat.min_le_right _ _
    refine wpAny_bind (listUpdate_at o2 rfl ?_ (by rw [List.size_toArray]; omega) (by
      show (its.toArray.push _).size ≤ _
      rw [Array.size_push, List.size_toArray]
      omega))
    have e2 : ((xs.take (j + 1)).map g).map V.int = ((xs.take j).map g).map V.int ++ [V.int (g x)] := by
      rw [List.take_add_one, hx, List.map_append, List.map_append]
      rfl
    have jl : j < vs.length := (List.getElem?_eq_some_iff.mp hv).1
    refine wpAny_pure ⟨rfl, _, I2.lset (its' := its ++ [.int (g x) t]) (t' := s2.toks) n2 o2 (by simp) (r2.append (.cons (show RelV (.int (g x)) (.int (g x) t) from ⟨t, rfl⟩) .nil)) (by rw [← e2, List.length_map, List.length_map, List.length_take]; omega), fun b o hb q => ?_, ?_, ?_⟩
    · rw [upd_ne (ne_of_none q fr)]
      exact sm _ _ (k' b o hb q)
    · rw [upd_ne nka.symm]
      exact sm _ _ a'
    · rw [upd_same, e2]
  case done =>
    rintro s' ⟨H', I', k', a', n'⟩
    rw [Nat.zero_add, List.take_of_length_le (by omega)] at n'
    obtain ⟨z2, its, c, r2, l2, o2⟩ := I'.lstM n'
    obtain ⟨oa, _, _⟩ := I'.hok a _ a'
    refine wpAny_bind (listItems_at o2 rfl ?_)
    refine key_end r2.ints (by rw [← l2, List.length_map, List.length_map, lv]) zv nka o2 oa fun out ho lo => ?_
    obtain ⟨ys, ry, oy⟩ := keyOrd_of rv ho
    have I4 := I'.lset (its' := []) (f := fun _ => #[]) (t' := s'.toks) n' o2 rfl .nil (Nat.zero_le _)
    have oa2 : (s'.heap.update kS (Obj.mapSeq fun _ => (#[] : Array Value))).get? a = some (seqObj "list" #[] e1) := (Heap.get?_update_ne _ _ _ _ nka.symm).trans oa
    obtain ⟨c2, q2⟩ : ∃ c2, ((s'.heap.update kS (Obj.mapSeq fun _ => (#[] : Array Value))).update a (Obj.mapSeq fun _ => out.toArray)).get? a = some (seqObj "list" out.toArray c2) := ⟨_, get?_update_seq oa2 fun _ => out.toArray⟩
    have ly : ys.length ≤ sizeLine := by rw [oy.1.length_eq]; exact hz
    refine h _ _ ys (I4.write (x := a) (e := a) (o := .lst ys) (t' := s'.toks) (by rw [upd_ne nka.symm, a']; trivial) (.inl rfl) (fun b u hb q => (Heap.get?_update_ne _ _ _ _ hb).trans q) ⟨_, q2⟩ ⟨ly, out, c2, ry, q2⟩) (fun b o hb q => ?_) oy upd_same
    rw [upd_ne hb, upd_ne (ne_of_none q fr)]
    exact k' b o hb q
end
/-! ### sorted(d, key = lambda ..: ..) -/
/-- the row that stands at a value -/
def rowOf (H : Hp) : V → List Int
  | .ref t => match H t with
    | some (.tup zs) => zs.map fun v => match v with
      | .int i => i
      | _ => 0
    | _ => []
  | _ => []
theorem rowOf_tup {H : Hp} {t : Addr} {b : List Int} (h : H t = some (.tup (b.map V.int))) : rowOf H (.ref t) = b := by
  show (match H t with
    | some (.tup zs) => zs.map fun v => match v with
      | .int i => i
      | _ => 0
    | _ => []) = b
  rw [h]
  show (b.map V.int).map _ = b
  rw [List.map_map]
  exact List.map_id' _
theorem refs_at {H : Hp} : ∀ {us : List Value} {bs : List (List Int)}, PySem.W.EachIs (fun (u : Value) (b : List Int) => ∃ a, u = Value.ref a ∧ H a = some (.tup (b.map V.int))) us bs →
    ∃ ys : List V, Vals ys us ∧ (∀ y ∈ ys, ∃ t b, y = .ref t ∧ b ∈ bs ∧ H t = some (.tup (b.map V.int))) ∧ ys.map (rowOf H) = bs
  | _, _, .nil => ⟨[], .nil, (fun _ h => nomatch h), rfl⟩
  | _, _, .cons ⟨a, e, h⟩ r => by
    obtain ⟨ys, h1, h2, h3⟩ := refs_at r
    subst e
    refine ⟨.ref a :: ys, .cons rfl h1, fun y hy => ?_, by rw [List.map_cons, rowOf_tup h, h3]⟩
    rcases List.mem_cons.mp hy with rfl | hy
    · exact ⟨a, _, rfl, List.mem_cons_self, h⟩
    · obtain ⟨t, b, e1, e2, e3⟩ := h2 y hy
      exact ⟨t, b, e1, List.mem_cons_of_mem _ e2, e3⟩
def rSortLm (P : Program) (w : World) (K : PySem.W.Frag) (mg : Str → Option Value) (base : Heap) (k : Nat) (cl : List (Str × Addr)) (fr : List Str) (ws : List (Option V)) : List V → List V → Hp → VK → Prop := fun vs zs H Q =>
  ∃ (d fl : Addr) (kvs : List (List Key × V)) (bs : List (List Int)) (F : LF) (ps : List Str) (sp : List (Option V) → Sp) (g : List Int → Int), vs = [.ref d] ∧ zs = [.ref fl] ∧ H d = some (.dT kvs) ∧ kvs.map (·.1) = bs.map kI ∧ bs.length ≤ 5000 ∧
    H fl = some (LmO fl F) ∧ H F.c = some (LamX.CodeO F.c F.qual) ∧ F.cl = cl ∧ LmOk P w K mg base CX0 k fl F ps fr sp ∧
    (∀ b ∈ bs, ∀ (t : Addr) (H' : Hp) (R : VK), Same H H' → H' t = some (.tup (b.map V.int)) → (∀ H2, Same H' H2 → R (.int (g b)) H2) → sp ws [.ref t] H' R E0) ∧
    ∀ (p : Addr) (ys : List V) (H' : Hp), Same H H' → H p = none → H' p = some (.lst ys) → (∀ y ∈ ys, ∃ t b, y = .ref t ∧ b ∈ bs ∧ H t = some (.tup (b.map V.int))) → (ys.map (rowOf H)).Perm bs → (ys.map (rowOf H)).Pairwise (fun x y => g x ≤ g y) → Q (.ref p) H'
section
variable {X : Cx} {k : Nat} {cl : List (Str × Addr)} {fr : List Str} {js : List Nat}
open LamX NdefX
theorem run_sortLm {pins : List (Addr × Obj)} {s : Shared} {σ : L2.St} {H : Hp} {vs zs : List V} {us ws : List Value} {Q : VK} (cp : Caps X cl fr js) (hr : Room (k + 2) X.A) (hc : X.calm = true) (I : Inv X pins σ H s) (r : Vals vs us) (rz : Vals zs ws)
    (h : rSortLm X.prog X.w X.K X.mg X.base k cl fr (js.map (slotAt σ)) vs zs H Q) : wpAny (model X.prog X.w) X.A (call (.builtin "sorted") us ([Str.ofString "key"].zip ws)) (EP X pins σ Q) X.xe s := by
  obtain ⟨d, fl, kvs, bs, F, ps, sp, g, rfl, rfl, hd, hkb, h5, hf, hco, hcl, Fn, hg, q⟩ := h
  obtain ⟨u, rfl, rx⟩ := r.one
  obtain ⟨u2, rfl, rx2⟩ := rz.one
  cases rx
  cases rx2
  obtain ⟨z, hs, ks, pr, o, es, ep, ho, hx, hdt, he, hn⟩ := (show ObjOk X.prog X.w H s.heap d (.dT kvs) from I.hok d _ hd)
  have l1 : es.size = ks.length := size_of_entries he
  have l2 : kvs.length = ks.length := Paired.length pr
  have lb : ks.length = bs.length := by
    have := congrArg List.length hkb
    rw [List.length_map, List.length_map] at this
    omega
  refine call_function_entry_kw kind_sorted plain_sorted entry_sorted (ksk_s1 _ _) ?_
  unfold Builtin.«sorted»
  refine wpAny_bind (m := checkCount "sorted" 1 1 _) (wpAny_pure ?_)
  refine wpAny_bind (PySem.W.kdu_collect (A := X.A.in1) (kdl_raw hs hx hdt) (I.ok.hd hc) ho (by omega) fun h' tk acc kp it => ?_)
  have ea : acc.toList = ks.map fun x => Value.ref x.2.1 := by
    have hl : acc.toList.length = ks.length := by rw [Array.length_toList, it.1]; exact l1
    apply List.ext_getElem?
    intro j
    rw [List.getElem?_map]
    cases hj : acc.toList[j]? with
    | none =>
      have h1 := List.getElem?_eq_none_iff.mp hj
      rw [List.getElem?_eq_none (by omega)]
      all_goals rfl
    | some v =>
      obtain ⟨en, hen, hv⟩ := it.2 j v (by rw [← Array.getElem?_toList]; exact hj)
      have qe := entry_at he j
      rw [hen] at qe
      cases hb : ks[j]? with
      | none =>
        rw [hb] at qe
        exact nomatch (show some en = none from qe)
      | some b =>
        rw [hb] at qe
        have e2 : en = entryOfKey (tupleKind (mixKind X.prog X.w)) b := Option.some.inj qe
        rw [hv, e2]
        all_goals rfl
  have ek := each_keys (P := X.prog) (w := X.w) (K := X.K) pr hkb
  rw [← ea] at ek
  generalize hL : acc.toList = L1 at ek
  have lL : L1.length = bs.length := ek.length
  obtain ⟨xs, rv, hxs, erow⟩ := refs_at ek
  refine wpAny_bind (wpAny_newList ?_ (by rw [sizeLine_eq]; omega))
  have hoL : (h'.push (seqObj "list" L1.toArray 0)).get? h'.objs.size = some (seqObj "list" L1.toArray 0) := Heap.get?_push_size _ rfl
  have hnS : s.heap.get? h'.objs.size = none := by
    cases e : s.heap.get? h'.objs.size with
    | none => rfl
    | some u => exact absurd (Heap.lt_size (kp _ _ e)) (Nat.lt_irrefl _)
  have hnn : H h'.objs.size = none := I.hok.gone hnS
  have zx : xs.length ≤ sizeLine := by rw [rv.length, lL, sizeLine_eq]; omega
  have J : Inv X pins σ (upd H h'.objs.size (.lst xs)) { s with heap := h'.push (seqObj "list" L1.toArray 0), toks := tk } := Inv.laidN I (fun b o e => Heap.get?_push_of_some _ (kp b o e)) hnS ⟨zx, L1, 0, rv, hoL⟩
  show wpAny _ X.A.in1 _ _ X.xe { s with heap := h'.push (seqObj "list" L1.toArray 0), toks := tk }
  generalize h'.objs.size = a at hoL hnn J ⊢
  generalize h'.push (seqObj "list" L1.toArray 0) = h3 at hoL J ⊢
  refine wpAny_bind (wpAny_holding (wpAny_call_entry_kw slot_list_sort ⟨_, hoL, rfl⟩ entry_list_sort ?body (ksk_l1 _ _)))
  case body =>
    show wpAny _ X.A.in1.in1 (Builtin.«list.sort» ⟨[.ref a], [(Str.ofString "key", .ref fl)]⟩) _ _ _
    rw [ksk_t1]
    have up : ∀ b o, H b = some o → b ≠ a := fun b o e z => by rw [z, hnn] at e; cases e
    refine lsort_key (g := fun x => g (rowOf H x)) J upd_same (fun x v G s' hx rx ext I' => ?_) fun s' G ys I' ext ord eG => ⟨_, rfl, ?_⟩
    · obtain ⟨t, b, rfl, hb, et⟩ := hxs x hx
      have sG : Same H G := fun c o e => ext c o (up c o e) (by rw [upd_ne (up c o e)]; exact e)
      have h0 := hg b hb t G (fun v H2 => v = .int (g b) ∧ Same G H2) sG (sG _ _ et) fun H2 s2 => ⟨rfl, s2⟩
      have cs := cells_of I' cp
      rw [← hcl] at cs
      refine wpAny_call (codeAny_mono (Fn.run X.A.in1.in1 X.stack s' G [v] [.ref t] _ _ E0 hr.in1.in1 I'.env0.in1.in1 (sG _ _ hf) (sG _ _ hco) cs (.cons rx .nil) h0) fun r s2 hq => ?_)
      match r, hq with
      | .error e, hq => exact False.elim hq
      | .ok .next, hq => exact False.elim hq
      | .ok .brk, hq => exact False.elim hq
      | .ok .cont, hq => exact False.elim hq
      | .ok (.ret u), hq =>
        obtain ⟨v2, H2, I2, rv2, e2, s2⟩ := I'.after hq
        subst e2
        obtain ⟨t2, rfl⟩ := rv2
        exact ⟨t2, H2, by rw [rowOf_tup et], I2, s2⟩
    · have sG : Same H G := fun c o e => ext c o (up c o e) (by rw [upd_ne (up c o e)]; exact e)
      refine wpAny_pure ⟨_, rfl, .ref a, G, I', rfl, q a ys G sG hnn eG (fun y hy => hxs y (ord.1.mem_iff.mp hy)) ?_ (List.pairwise_map.mpr ord.2)⟩
      have e := ord.1.map (rowOf H)
      rwa [erow] at e
/-- sorted(e, key = lambda ..: ..), e a dict by rows of ints -/
def tSortLm (P : Program) (w : World) (K : PySem.W.Frag) (mg : Str → Option Value) (base : Heap) (k : Nat) (cl : List (Str × Addr)) (fr : List Str) (js : List Nat) (t tk : TA) : TE := fun σ H Q => t σ H fun vs H1 => tk σ H1 fun zs H2 => rSortLm P w K mg base k cl fr (js.map (slotAt σ)) vs zs H2 Q
theorem pe_sortLm {e : Expr} {t : TA} {c cP : Addr} {p pos lp kp : Pos} {params : Arguments} {body : Expr} {scope : Scope} (fr : List Str) (js : List Nat) (T : List (Addr × Str)) (hr : Room (k + 2) X.A) (hg : Gl X "sorted") (hm : X.mg "sorted" = none) (ha : PA X [e] t)
    (TB : TabB X.base X.mg c cP) (hmT : (cP, X.env.qual ++ "<lambda>") ∈ T) (hu : ∀ p ∈ T, p.1 = cP → p.2 = X.env.qual ++ "<lambda>") (hcode : X.env.code = .ref c := by rfl) (hcalm : X.calm = true := by rfl)
    (hfree : freeB X.env.scope scope = true := by rfl) (hfr : frB fr scope = true := by rfl) (hjs : js.map (fun j => X.N[j]?) = fr.map some := by rfl) (hdef : defaultsOf params X.env = ([], []) := by rfl)
    (he : backTo pos (starEach [e] X.env) = (false, eval e X.env) :: backTo pos (starEach [] X.env) := by rfl) (hpl : (backTo pos (starEach [e] X.env)).any (·.1) = false := by rfl)
    (hall : (backToKw pos (keywordEach [⟨some (Str.ofString "key"), .Lambda params body scope lp, kp⟩] X.env)).all (·.1.isSome) = true := by rfl) (hnone : (backToKw pos (keywordEach [⟨some (Str.ofString "key"), .Lambda params body scope lp, kp⟩] X.env)).any (·.1.isNone) = false := by rfl)
    (hks : (backToKw pos (keywordEach [⟨some (Str.ofString "key"), .Lambda params body scope lp, kp⟩] X.env)).filterMap (·.1) = [Str.ofString "key"] := by rfl) :
    PE X (.Call (.Name "sorted" p) [e] [⟨some (Str.ofString "key"), .Lambda params body scope lp, kp⟩] pos) (tSortLm X.prog X.w X.K X.mg X.base k (cloFrom X.env.cells scope.names []) fr js t
      (tCons (tLm T fun c' => ⟨X.env.qual ++ "<lambda>", params, body, scope, cloFrom X.env.cells scope.names [], c'⟩) tNil)) := by
  have hk := pk_cons (kpos := kp) (nm := some (Str.ofString "key")) (pe_lm (params := params) (body := body) (pos := lp) TB hcode hmT hu (freeB_ok hfree) hdef) pk_nil
  refine ⟨fun pins s σ H Q I h => ?_⟩
  refine wpAny_Call_Name_kw (ld_blt I hg hm (by rfl) ?_ (by decide) (by decide))
  refine PyProof.Rows.callWith_kw (thn (ha.run pos pins s σ H _ I h) fun us s1 ⟨vs, H1, I1, r1, q1⟩ => thn (hk.run pos pins s1 σ H1 _ I1 q1) fun ws s2 ⟨zs, H2, I2, r2, q2⟩ => ?_) he hpl hall hnone
  rw [hks]
  exact run_sortLm (Caps.made I2.ok (freeB_ok hfree) (frB_ok hfr) hjs) hr hcalm I2 r1 r2 q2
end
end TL
/-! ### min(a list of data) whose first item is the least -/
namespace TL
open PySem PySem.Spec PyProof.Rows L2
theorem minD_first {d : PyData} : ∀ {ds : List PyData}, (∀ e ∈ ds, PySem.W.dataLt e d = false) → PySem.W.minD d ds = d
  | [], _ => rfl
  | e :: ds, h => by
    show (e :: ds).foldl _ d = d
    rw [List.foldl_cons, h e List.mem_cons_self]
    exact minD_first fun x hx => h x (List.mem_cons_of_mem _ hx)
def rMin1 (K : PySem.W.Frag) : List V → Hp → VK → Prop := fun vs H Q => ∃ (a : Addr) (y : V) (ys : List V) (d : PyData) (ds : List PyData), vs = [.ref a] ∧ SqL K H a (y :: ys) ∧ DpAll K H (y :: ys) (d :: ds) ∧ PySem.W.AlikeAll (d :: ds) ∧ PyData.depthAll (d :: ds) ≤ 5 ∧
  (∀ e ∈ ds, PySem.W.dataLt e d = false ∧ e ≠ d) ∧ Q y H
section
variable {X : Cx}
theorem call_min1 (hc : X.calm = true) (hu : X.A.units + 64 < cLine) : CallR X (.builtin "min") (rMin1 X.K) := by
  intro pins s σ H vs us Q I r h
  obtain ⟨a, y, ys, d, ds, rfl, hs, hA, al, dp, lt, q⟩ := h
  rw [Vals.ref1 r]
  obtain ⟨its, rv, hl, _⟩ := I.list hs
  obtain ⟨as, hr⟩ := Dp.readsAll I _ _ _ hA rv
  refine PySem.W.min_list_data (x := d) (xs := ds) (as := as) (I.ok.hd hc) hl.isList hr al (by omega) fun i v h' tk bs hv rd hk => ?_
  rw [minD_first fun e he => (lt e he).1] at rd
  obtain ⟨x, hx, rx⟩ := vals_at rv (v := v) (by simpa using hv)
  obtain ⟨e, he, de⟩ := DpAll.get hA hx
  obtain ⟨as2, r2⟩ := Dp.reads I e x v de rx
  have ee : e = d := ((PySem.W.reads_keeps hk r2).unique d bs rd).1
  cases i with
  | zero =>
    cases hx
    exact ⟨_, H, I.kept hk, rx, q⟩
  | succ j => exact absurd ee (lt e (List.mem_of_getElem? (show ds[j]? = some e from he))).2
theorem min1K (K : PySem.W.Frag) (hu : X.A.units + 64 < cLine) (hc : X.calm = true := by rfl) (h : X.K = K := by rfl) : CallR X (.builtin "min") (rMin1 K) := h ▸ call_min1 hc hu
end
end TL
namespace TL
open PySem PySem.Spec PyProof.Rows L2
/-! ### the law's own state: a list of forest and lamps; its list of edits -/
def StL (K : PySem.W.Frag) (H : Hp) (p : Addr) (s : BS) : Prop := ∃ x y, H p = some (.lst [x, y]) ∧ Dp K H x (forD s.m s.es) ∧ Dp K H y (intsD s.S)
def EdL (K : PySem.W.Frag) (H : Hp) (g : Addr) (eds : List Ed) : Prop := ∃ zs, H g = some (.lst zs) ∧ DpAll K H zs (eds.map Ed.d)
section
variable {K : PySem.W.Frag} {H H' : Hp} {p g b d l C dx n : Addr} {fs : List (Str × V)} {s : BS} {eds : List Ed}
theorem StL.kt (h : StL K H p s) (k : KT K H H') (e : ∀ o, H p = some o → H' p = some o) : StL K H' p s := by
  obtain ⟨x, y, h1, h2, h3⟩ := h
  exact ⟨x, y, e _ h1, Dp.kt k h2 (only_forD _ _), Dp.kt k h3 (only_intsD _)⟩
theorem StL.same (h : StL K H p s) (e : Same H H') : StL K H' p s := h.kt (Same.kt e) fun o q => e p o q
theorem StL.fm (h : StL K H p s) (hD : Deck H d l n) (f : Fm d l H H') (h1 : p ≠ d) (h2 : p ≠ l) : StL K H' p s := h.kt (f.kt hD) fun o q => f p o h1 h2 q
theorem StL.fo (h : StL K H p s) (hb : H b = some (.ins C dx fs)) (f : Fo b H H') : StL K H' p s := h.kt (f.kt hb) fun o q => f p o (fun z => by
  obtain ⟨x, y, h1, _⟩ := h
  rw [z, hb] at h1
  cases h1) q
theorem StL.put (h : StL K H p s) {xs ys : List V} (hg : H g = some (.lst xs)) (n : p ≠ g) : StL K (upd H g (.lst ys)) p s := h.kt (kt_lst hg) fun o q => by
  rw [upd_ne n]
  exact q
theorem EdL.kt (h : EdL K H g eds) (k : KT K H H') (e : ∀ o, H g = some o → H' g = some o) : EdL K H' g eds := by
  obtain ⟨zs, h1, h2⟩ := h
  exact ⟨zs, e _ h1, DpAll.kt k h2 (only_Eds _)⟩
theorem EdL.same (h : EdL K H g eds) (e : Same H H') : EdL K H' g eds := h.kt (Same.kt e) fun o q => e g o q
theorem EdL.fm (h : EdL K H g eds) (hD : Deck H d l n) (f : Fm d l H H') (h1 : g ≠ d) (h2 : g ≠ l) : EdL K H' g eds := h.kt (f.kt hD) fun o q => f g o h1 h2 q
theorem EdL.fo (h : EdL K H g eds) (hb : H b = some (.ins C dx fs)) (f : Fo b H H') : EdL K H' g eds := h.kt (f.kt hb) fun o q => f g o (fun z => by
  obtain ⟨zs, h1, _⟩ := h
  rw [z, hb] at h1
  cases h1) q
theorem EdL.len (h : EdL K H g eds) : ∃ zs, H g = some (.lst zs) ∧ zs.length = eds.length ∧ DpAll K H zs (eds.map Ed.d) := by
  obtain ⟨zs, h1, h2⟩ := h
  exact ⟨zs, h1, by rw [DpAll.length h2, List.length_map], h2⟩
theorem EdL.push (h : EdL K H g eds) {zs : List V} (hg : H g = some (.lst zs)) {v : V} {e : Ed} (hv : Dp K H v e.d) : EdL K (upd H g (.lst (zs ++ [v]))) g (eds ++ [e]) := by
  obtain ⟨zs', h1, h2⟩ := h
  rw [hg] at h1
  cases h1
  refine ⟨zs ++ [v], upd_same, ?_⟩
  have h3 := DpAll.append h2 (show DpAll K H [v] [e.d] from .cons hv .nil)
  have e2 : eds.map Ed.d ++ [e.d] = (eds ++ [e]).map Ed.d := by rw [List.map_append]; rfl
  rw [e2] at h3
  exact DpAll.kt (kt_lst hg) h3 (only_Eds _)
theorem EdL.put (h : EdL K H g eds) {xs ys : List V} (hp : H p = some (.lst xs)) (n : g ≠ p) : EdL K (upd H p (.lst ys)) g eds := h.kt (kt_lst hp) fun o q => by
  rw [upd_ne n]
  exact q
theorem Bd.putL {sts : List BS} (h : Bd K C H b sts eds) {xs ys : List V} (hg : H g = some (.lst xs)) : Bd K C (upd H g (.lst ys)) b sts eds := h.kt (kt_lst hg) fun o q => by
  obtain ⟨dx, sa, ma, h1, _⟩ := h.at_
  rw [upd_ne (fun z => by rw [z, hg] at h1; cases h1)]
  exact q
theorem Deck.putL {k : Nat} (h : Deck H d l k) {xs ys : List V} (hg : H g = some (.lst xs)) (h1 : g ≠ d) (h2 : g ≠ l) : Deck (upd H g (.lst ys)) d l k := h.put h1 h2
end
end TL
namespace TL
open PySem PySem.Spec PyProof.Rows L2 LamX NdefX
/-! ### what stays when a lambda is made, when a def ran that got it -/
section
variable {K : PySem.W.Frag} {C b d l p g : Addr} {H H' H1 Hc : Hp} {n : Nat}
theorem xnKT (e : ExtN H H') : KT K H H' := by
  intro a xs q
  rcases q with (q | ⟨o, q⟩) | q
  · exact .inl (.inl (e _ _ q fun ps z => by cases z))
  · exact .inl (.inr ⟨o, e _ _ q fun ps z => by cases z⟩)
  · exact .inr q
theorem Deck.xn (h : Deck H d l n) (e : ExtN H H') : Deck H' d l n := by
  obtain ⟨c, ns, hc, h1, h2, h3⟩ := h
  exact ⟨c, ns, hc, e _ _ h1 (fun ps z => by cases z), e _ _ h2 (fun ps z => by cases z), h3⟩
theorem Bd.xn {sts : List BS} {eds : List Ed} (h : Bd K C H b sts eds) (e : ExtN H H') : Bd K C H' b sts eds := by
  obtain ⟨dx, sa, ma, h1, _⟩ := id h.at_
  exact h.kt (xnKT e) fun o q => by
    rw [h1] at q
    cases q
    exact e _ _ h1 fun ps z => by cases z
theorem StL.xn {s : BS} (h : StL K H p s) (e : ExtN H H') : StL K H' p s := by
  obtain ⟨x, t, h1, _⟩ := id h
  exact h.kt (xnKT e) fun o q => by
    rw [h1] at q
    cases q
    exact e _ _ h1 fun ps z => by cases z
theorem EdL.xn {eds : List Ed} (h : EdL K H g eds) (e : ExtN H H') : EdL K H' g eds := by
  obtain ⟨zs, h1, _⟩ := id h
  exact h.kt (xnKT e) fun o q => by
    rw [h1] at q
    cases q
    exact e _ _ h1 fun ps z => by cases z
theorem tabs_via {T : List (Addr × Str)} (t : Tabs T H) (e : ∀ a o, H a = some o → (∃ ps, o = .tbl ps) ∨ (∃ φ, o = .ext φ) → H' a = some o) : Tabs T H' := fun p hp => by
  obtain ⟨ps, h1, h2, h3⟩ := t p hp
  refine ⟨ps, e _ _ h1 (.inl ⟨_, rfl⟩), h2, fun pos cv hc => ?_⟩
  obtain ⟨c, e1, e2⟩ := h3 pos cv hc
  exact ⟨c, e1, e _ _ e2 (.inr ⟨_, rfl⟩)⟩
theorem tabs_same {T : List (Addr × Str)} (t : Tabs T H) (s : Same H H') : Tabs T H' := tabs_via t fun a o e _ => s a o e
theorem tabs_fm {T : List (Addr × Str)} (t : Tabs T H) (hD : Deck H d l n) (f : Fm d l H H') : Tabs T H' := by
  obtain ⟨c, ns, hc, h1, h2, h3⟩ := hD
  refine tabs_via t fun a o e k => f a o (fun z => ?_) (fun z => ?_) e
  · rw [z, h1] at e
    rcases k with ⟨_, rfl⟩ | ⟨_, rfl⟩ <;> cases e
  · rw [z, h2] at e
    rcases k with ⟨_, rfl⟩ | ⟨_, rfl⟩ <;> cases e
theorem tabs_fo {T : List (Addr × Str)} {dx : Addr} {fs : List (Str × V)} (t : Tabs T H) (hb : H b = some (.ins C dx fs)) (f : Fo b H H') : Tabs T H' :=
  tabs_via t fun a o e k => f a o (fun z => by
    rw [z, hb] at e
    rcases k with ⟨_, rfl⟩ | ⟨_, rfl⟩ <;> cases e) e
theorem tabs_put {T : List (Addr × Str)} {xs : List V} {o : HO} (t : Tabs T H) (hg : H g = some (.lst xs)) : Tabs T (upd H g o) :=
  tabs_via t fun a u e k => (upd_ne fun z => by
    rw [z, hg] at e
    rcases k with ⟨_, rfl⟩ | ⟨_, rfl⟩ <;> cases e).trans e
theorem foOff {cl : List (Str × Addr)} (s : Same H Hc) (free : ∀ b ∈ cl.map (·.2), H b = none) (fo : Fo b Hc H') : Fo b H (offC cl H') := fun a o n e =>
  (offC_out fun h => by rw [free a h] at e; cases e).trans (fo a o n (s a o e))
theorem keptC {cl : List (Str × Addr)} {fr : List Str} {ws : List (Option V)} {dx : Addr} {fs : List (Str × V)} (C0 : CellsG Hc cl fr ws) (hb : Hc b = some (.ins C dx fs)) (fo : Fo b Hc H') : ∀ c ∈ cl.map (·.2), H' c = Hc c := fun c hc => by
  obtain ⟨o, v, h1, h2⟩ := C0.all c hc
  rw [h1]
  exact fo c _ (fun z => by rw [z, hb] at h1; cases h1) h1
theorem ktOff {cl : List (Str × Addr)} {fr : List Str} {ws : List (Option V)} (C0 : CellsG Hc cl fr ws) (k : ∀ c ∈ cl.map (·.2), H' c = Hc c) : (∀ a o, H' a = some o → (∀ φ, o ≠ .ext φ) → offC cl H' a = some o) := fun a o e x =>
  (offC_out (CellsG.out (fun c hc => by
    obtain ⟨o, v, h1, h2⟩ := C0.all c hc
    exact ⟨o, v, (k c hc).trans h1, h2⟩) e x)).trans e
theorem Bd.off {cl : List (Str × Addr)} {fr : List Str} {ws : List (Option V)} {sts : List BS} {eds : List Ed} (C0 : CellsG Hc cl fr ws) (k : ∀ c ∈ cl.map (·.2), H' c = Hc c) (h : Bd K C H' b sts eds) : Bd K C (offC cl H') b sts eds := by
  have up := ktOff C0 k
  obtain ⟨dx, sa, ma, h1, _⟩ := id h.at_
  refine h.kt (fun a xs q => ?_) fun o q => ?_
  · rcases q with (q | ⟨o, q⟩) | q
    · exact .inl (.inl (up _ _ q fun φ z => by cases z))
    · exact .inl (.inr ⟨o, up _ _ q fun φ z => by cases z⟩)
    · exact .inr q
  · rw [h1] at q
    cases q
    exact up _ _ h1 fun φ z => by cases z
end
theorem tabs_nil {cP : Addr} {q : Str} {H : Hp} (h : H cP = some (.tbl #[])) : Tabs (lmT cP q) H := fun p hp => by
  rw [List.mem_singleton.mp hp]
  exact TabS.nil h
end TL
namespace TL
open PySem PySem.Spec PyProof.Rows L2
section
variable {P : Program} {w : World} {K : PySem.W.Frag} {mg : Str → Option Value} {base : Heap}
/-! ### the draws -/
def spLDraws (K : PySem.W.Frag) : Sp := fun vs H Q _ => ∃ (a : Addr) (ns : List Int), vs = [.ref a] ∧
  SqL K H a (ns.map V.int) ∧ ns.length ≤ 63 ∧ ∀ H' d r c, Same H H' → Dw H' d r c 0 → Q (.ref d) H'
theorem ok_LDraws {f : Addr} {fd : FuncData} {k : Nat} (F : Fun K "_law_draws" "_law_draws" sLDraws f fd) (m_abs : mg "abs" = none) (m_int : mg "int" = none) (m_len : mg "len" = none) :
    FnOk P w K mg base CX0 (k + 1) f fd ["_law_script"] (spLDraws K) := by
  refine F.ok scLDraws (fun vs H Q E h => ?_) (fun cdv A outer s H vs Q E hr h => ?_)
  · obtain ⟨a, ns, rfl, _⟩ := h
    rfl
  · obtain ⟨a, ns, rfl, hS, hlen, q⟩ := h
    refine ⟨_, (pss_cons (ps_set (i := 1) scLDraws.nd rfl (.inl rfl) (pe_op op_cat (pe_lc (own := [("_law_cell", 2)]) (g := (gName 2)) (tt := tYes) rfl scLDraws.nd (piLK K (pe_slice (slLK K) (pv 0) po_none (po_some pe_int)))
      (blkOk_by (own := [("_law_cell", 2)]) (N := nLDraws) (sc := (defScope sLDraws)) (by decide +kernel))
      (fun _ _ _ _ _ => (pg_name (i := 2) scLDraws.nd rfl (Or.inl rfl))) (fun _ _ _ _ _ => pts_nil)
      (fun _ _ _ _ _ => (pe_callB call_abs (by rfl) m_abs (by decide +kernel) (pa_cons (pv 2) pa_nil)))) (pe_op op_rep (pe_lst (pa_cons pe_int pa_nil)) (pe_callTy call_int1 (by rfl) m_int (by decide +kernel) (pa_cons (pe_cmpR op_eq (pe_callB (lenK K) (by rfl) m_len (by decide +kernel) (pa_cons (pv 0) pa_nil)) pe_int (nomark _)) pa_nil)))))
    (pss_one (ps_ret (pe_lst (pa_cons (pv 1) (pa_cons pe_int (pa_cons (pe_lc (own := [("_law_cell", 2)]) (g := (gName 2)) (tt := tYes) rfl scLDraws.nd (piLK K (pv 1))
      (blkOk_by (own := [("_law_cell", 2)]) (N := nLDraws) (sc := (defScope sLDraws)) (by decide +kernel))
      (fun _ _ _ _ _ => (pg_name (i := 2) scLDraws.nd rfl (Or.inl rfl))) (fun _ _ _ _ _ => pts_nil)
      (fun _ _ _ _ _ => (pe_op op_mul (pv 2) (pe_callTy call_int1 (by rfl) m_int (by decide +kernel) (pa_cons (pe_cmpR op_ge (pv 2) (pe_op op_pow pe_int pe_int) (nomark _)) pa_nil))))) pa_nil))))))), ?_⟩
    refine ⟨.ref a, rfl, 63, rfl, a, ns.map V.int, rfl, hS, fun c nc => ?_⟩
    rw [cut63 hlen]
    refine ⟨c, rfl, ⟨_, SqL.of upd_same⟩, fun D nD => ?_⟩
    have s1 := same_upd (o := .lst (ns.map V.int)) nc
    have e1 := same_at (o := .lst (ns.map V.int)) nc
    refine lc_listI (K := K) (fun _ => true) (fun o => .int (if o < 0 then -o else o)) nD (SqL.of e1) (fun _ => rfl) (fun o _ H' R s2 hR => hR H' (Same.refl _)) (fun o _ _ H' R s2 hR => ⟨.int o, rfl, o, rfl, hR H' _ (Same.refl _) (.int _)⟩) (fun _ => only_int _) (by omega) (fun H2 ys s2 eD dy => ?_)
    rw [filt_true] at dy
    have ey : ys = (ns.map fun o => if o < 0 then -o else o).map V.int := DpAll.ints (by rw [List.map_map]; exact dy)
    subst ey
    have s12 := s1.trans s2
    refine ⟨by show 1 ≤ sizeLine; decide, fun z nz => ?_⟩
    have s3 := same_upd (o := .lst [V.int 0]) nz
    have e3 := same_at (o := .lst [V.int 0]) nz
    refine ⟨.ref a, rfl, a, ns.map V.int, rfl, .inl (Same.seq (s12.trans s3) hS), rfl, ?_⟩
    refine .inr ⟨_, rfl, ?_⟩
    obtain ⟨j, hj, hj1⟩ : ∃ j : Nat, (if decide (V.int ((ns.map V.int).length : Nat) = V.int 0) = true then (1 : Int) else 0) = (j : Int) ∧ ((j = 1 ∧ ns = []) ∨ (j = 0 ∧ ns ≠ [])) := by
      rw [decInt, List.length_map]
      by_cases h : ns = []
      · subst h
        exact ⟨1, rfl, .inl ⟨rfl, rfl⟩⟩
      · have : ¬ ((ns.length : Nat) : Int) = 0 := fun z => h (List.length_eq_zero_iff.mp (by omega))
        rw [decide_eq_false this]
        exact ⟨0, rfl, .inr ⟨rfl, h⟩⟩
    rw [hj]
    refine ⟨z, _, _, rfl, rfl, e3, by omega, by omega, ?_, fun p np => ?_⟩
    · show 1 * (j : Int).toNat ≤ sizeLine
      exact Nat.le_of_lt (small1000 (by omega))
    have s4 := same_upd (o := .lst (List.replicate (j : Int).toNat [V.int 0]).flatten) np
    have e4 := same_at (o := .lst (List.replicate (j : Int).toNat [V.int 0]).flatten) np
    have s24 := s3.trans s4
    obtain ⟨cs, ecs, pos, len, nn⟩ : ∃ cs : List Int, (ns.map fun o => if o < 0 then -o else o).map V.int ++ (List.replicate (j : Int).toNat [V.int 0]).flatten = cs.map V.int ∧ 0 < cs.length ∧ cs.length ≤ 63 ∧ ∀ z ∈ cs, 0 ≤ z := by
      rcases hj1 with ⟨rfl, rfl⟩ | ⟨rfl, h⟩
      · exact ⟨[0], rfl, by decide, by decide, fun z hz => by rw [List.mem_singleton.mp hz]; decide⟩
      · refine ⟨ns.map fun o => if o < 0 then -o else o, by simp, ?_, by rw [List.length_map]; exact hlen, fun z hz => ?_⟩
        · rw [List.length_map]
          exact List.length_pos_iff.mpr h
        · obtain ⟨y, _, rfl⟩ := List.mem_map.mp hz
          split <;> omega
    refine ⟨D, p, _, _, rfl, rfl, s24 _ _ eD, e4, ?_, fun l nl => ?_⟩
    · rw [← List.length_append, ecs, List.length_map]
      exact Nat.le_of_lt (small1000 (by omega))
    rw [ecs]
    have s5 := same_upd (o := .lst (cs.map V.int)) nl
    have e5 := same_at (o := .lst (cs.map V.int)) nl
    have s15 := (s12.trans s24).trans s5
    generalize upd _ l (.lst (cs.map V.int)) = H5 at s5 e5 s15 ⊢
    refine ⟨.ref l, rfl, .ref l, rfl, l, rfl, ⟨_, SqL.of e5⟩, fun R nR => ?_⟩
    refine lc_listI (K := K) (fun _ => true) (fun o => .int (o * if decide (o ≥ (10 : Int) ^ (18 : Int).toNat) = true then 1 else 0)) nR (SqL.of e5) (fun _ => rfl) (fun o _ H' R s2 hR => hR H' (Same.refl _)) (fun o _ _ H' R s2 hR => ?_) (fun _ => only_int _) (by omega) (fun H6 ys s6 eR dy => ?_)
    · refine ⟨.int o, rfl, .int o, rfl, 10, 18, rfl, rfl, ⟨by decide, by decide, by decide⟩, o, _, rfl, rfl, .inr ⟨_, rfl, o, _, rfl, rfl, .inr ?_, hR H' _ (Same.refl _) (.int _)⟩⟩
      split <;> exact ⟨by decide, by decide⟩
    rw [filt_true] at dy
    have ey : ys = (cs.map fun o => o * if decide (o ≥ (10 : Int) ^ (18 : Int).toNat) = true then 1 else 0).map V.int := DpAll.ints (by rw [List.map_map]; exact dy)
    subst ey
    refine ⟨by show 3 ≤ sizeLine; decide, fun d nd => ?_⟩
    have s7 := same_upd (o := .lst [V.ref l, V.int 0, V.ref R]) nd
    have nlR : l ≠ R := ne_of_none e5 nR
    refine q _ d R l ((s15.trans s6).trans s7) ⟨0, cs, _, Nat.le_refl _, upd_same, s7 _ _ (s6 _ _ e5), s7 _ _ eR, nlR, pos, by rw [List.length_map], len, nn, fun z hz => ?_⟩
    obtain ⟨y, hy, rfl⟩ := List.mem_map.mp hz
    have := nn y hy
    split
    · omega
    · omega
def spLNext : Sp := fun vs H Q _ => ∃ (d r c : Addr) (n : Nat) (m : Int), vs = [.ref d, .int m] ∧ 0 < m ∧ m < 1000000 ∧ Dw H d r c n ∧ n < 1000000 ∧
  ∀ H' x, 0 ≤ x → x < m → Fm d r H H' → Dw H' d r c (n + 1) → Q (.int x) H'
theorem ok_LNext {f : Addr} {fd : FuncData} {k : Nat} (F : Fun K "_law_next" "_law_next" sLNext f fd) (m_len : mg "len" = none) :
    FnOk P w K mg base CX0 (k + 1) f fd ["_law_state", "_law_many"] spLNext := by
  refine F.ok scLNext (fun vs H Q E h => ?_) (fun cdv A outer s H vs Q E hr h => ?_)
  · obtain ⟨d, r, c, n, m, rfl, _⟩ := h
    rfl
  · obtain ⟨d, r, c, n, m, rfl, m0, m1, hD, hn, q⟩ := h
    obtain ⟨k, cs, rs, hk, h1, h2, h3, ncr, pos, rl, cl, c0, r0⟩ := hD.ex
    have ndc : d ≠ c := ne_ints h1 h2
    have ndr : d ≠ r := ne_ints h1 h3
    refine ⟨_, (pss_cons (ps_asg (pv 0) (pgLK K (pgs_cons (pg_name (i := 2) scLNext.nd rfl (Or.inl rfl)) (pgs_cons (pg_name (i := 3) scLNext.nd rfl (Or.inl rfl)) (pgs_cons (pg_name (i := 4) scLNext.nd rfl (Or.inl rfl)) pgs_nil)))))
    (pss_cons (ps_set (i := 5) scLNext.nd rfl (.inl rfl) (pe_op op_mod (pv 3) (pe_callB (lenK K) (by rfl) m_len (by decide +kernel) (pa_cons (pv 2) pa_nil))))
    (pss_cons (ps_asg (pe_op op_add (pv 3) pe_int) (pg_sub (pv 0) pe_int set_list))
    (pss_cons (ps_if (pt_cmpR op_gt (pe_ix (ixLK K) (pv 4) (pv 5) (fun _ _ => rfl)) pe_int (nomark _)) (pss_cons (ps_set (i := 6) scLNext.nd rfl (.inl rfl) (pe_op op_mod (pe_ix (ixLK K) (pv 4) (pv 5) (fun _ _ => rfl)) (pv 1)))
    (pss_cons (ps_asg (pe_op op_fdiv (pe_ix (ixLK K) (pv 4) (pv 5) (fun _ _ => rfl)) (pv 1)) (pg_sub (pv 4) (pv 5) set_list))
    (pss_one (ps_ret (pv 6))))) pss_nil)
    (pss_cons (ps_set (i := 7) scLNext.nd rfl (.inl rfl) (pe_op op_mod (pe_op op_pow (pe_op op_add (pe_op op_add (pe_op op_mod (pe_ix (ixLK K) (pv 2) (pv 5) (fun _ _ => rfl)) pe_int) (pe_op op_mul pe_int (pv 3))) pe_int) pe_int) pe_int))
    (pss_cons (ps_set (i := 7) scLNext.nd rfl (.inl rfl) (pe_op op_mod (pe_op op_pow (pe_op op_add (pe_op op_add (pv 7) (pe_op op_mul (pe_op op_mul pe_int (pv 3)) (pv 3))) pe_int) pe_int) pe_int))
    (pss_one (ps_ret (pe_op op_mod (pe_op op_fdiv (pe_op op_mod (pe_op op_mul (pv 7) pe_int) pe_int) pe_int) (pv 1)))))))))), ?_⟩
    refine ⟨.ref d, rfl, d, _, rfl, SqL.of h1, rfl, _, _, rfl, _, _, rfl, _, _, rfl, rfl, ?_⟩
    -- index
    refine ⟨.int (k : Int), rfl, .ref c, rfl, c, cs.map V.int, rfl, .inl (SqL.of h2), _, _, rfl, rfl, by rw [List.length_map]; omega, ?_⟩
    obtain ⟨i0, i1⟩ := modIn (x := (k : Int)) (m := (((cs.map V.int).length : Nat) : Int)) (by rw [List.length_map]; omega)
    obtain ⟨j, hj⟩ : ∃ j : Nat, (k : Int) % (((cs.map V.int).length : Nat) : Int) = (j : Int) := ⟨((k : Int) % (((cs.map V.int).length : Nat) : Int)).toNat, by omega⟩
    dsimp only [gName]
    rw [hj] at i1 ⊢
    rw [List.length_map] at i1
    have hjc : j < cs.length := by omega
    have hjr : j < rs.length := by omega
    -- state[1]
    refine ⟨.int (k : Int), rfl, _, _, rfl, rfl, .ref d, rfl, d, _, 1, 1, rfl, rfl, h1, rfl, ?_⟩
    have e1 : (upd H d (.lst ([V.ref c, V.int (k : Int), V.ref r].set 1 (.int ((k : Int) + 1))))) d = some (.lst [V.ref c, V.int ((k + 1 : Nat) : Int), V.ref r]) := upd_same
    have e2 : (upd H d (.lst ([V.ref c, V.int (k : Int), V.ref r].set 1 (.int ((k : Int) + 1))))) c = some (.lst (cs.map V.int)) := by rw [upd_ne ndc.symm]; exact h2
    have e3 : (upd H d (.lst ([V.ref c, V.int (k : Int), V.ref r].set 1 (.int ((k : Int) + 1))))) r = some (.lst (rs.map V.int)) := by rw [upd_ne ndr.symm]; exact h3
    have f1 : Fm d r H (upd H d (.lst ([V.ref c, V.int (k : Int), V.ref r].set 1 (.int ((k : Int) + 1))))) := fun b o n1 n2 e => by rw [upd_ne n1]; exact e
    generalize upd H d (.lst ([V.ref c, V.int (k : Int), V.ref r].set 1 (.int ((k : Int) + 1)))) = H1 at e1 e2 e3 f1 ⊢
    have gr : (rs.map V.int)[j]? = some (.int rs[j]) := by rw [List.getElem?_map, List.getElem?_eq_getElem hjr]; rfl
    have gc : (cs.map V.int)[j]? = some (.int cs[j]) := by rw [List.getElem?_map, List.getElem?_eq_getElem hjc]; rfl
    have z0 : 0 ≤ rs[j] := r0 _ (List.getElem_mem hjr)
    generalize hz : rs[j] = z at gr z0
    generalize cs[j] = y at gc
    refine ⟨.ref r, rfl, .int (j : Int), rfl, r, _, _, .int z, rfl, rfl, SqL.of e3, at_of rfl gr, _, _, rfl, rfl, _, rfl, ite2 (fun hp => ?_) (fun hp => ?_)⟩
    · refine ⟨.ref r, rfl, .int (j : Int), rfl, r, _, _, .int z, rfl, rfl, SqL.of e3, at_of rfl gr, .int m, rfl, z, m, rfl, rfl, m0, ?_⟩
      refine ⟨.ref r, rfl, .int (j : Int), rfl, r, _, _, .int z, rfl, rfl, SqL.of e3, at_of rfl gr, .int m, rfl, z, m, rfl, rfl, ⟨m0, by omega⟩, .ref r, rfl, .int (j : Int), rfl, r, _, _, j, rfl, rfl, e3, ?_, ?_⟩
      · unfold ixN
        rw [if_pos (by omega), if_pos (by rw [List.length_map]; omega)]
        simp
      refine ⟨_, rfl, ?_⟩
      obtain ⟨x0, x1⟩ := modIn (x := z) m0
      refine q _ _ x0 x1 (fun b o n1 n2 e => ?_) ⟨k + 1, cs, rs.set j (z / m), by omega, ?_, ?_, ?_, ncr, pos, by rw [List.length_set]; exact rl, cl, c0, fun u hu => ?_⟩
      · rw [upd_ne n2]
        exact f1 b o n1 n2 e
      · rw [upd_ne ndr]
        exact e1
      · rw [upd_ne ncr]
        exact e2
      · rw [upd_same, List.map_set]
      · rcases List.mem_or_eq_of_mem_set hu with hu | rfl
        · exact r0 u hu
        · exact Int.ediv_nonneg z0 (by omega)
    · have b1 := modIn (x := y) (m := 2147483629) (by decide)
      refine ⟨.ref c, rfl, .int (j : Int), rfl, c, _, _, .int y, rfl, rfl, SqL.of e2, at_of rfl gc, y, 2147483629, rfl, rfl, (by show (0 : Int) < 2147483629; decide), .int (k : Int), rfl, 40031, _, rfl, rfl, .inl ⟨by decide, by decide⟩,
        _, _, rfl, rfl, _, _, rfl, rfl, _, _, rfl, rfl, ⟨by decide, by decide, ?_⟩, _, _, rfl, rfl, (by show (0 : Int) < 2147483587; decide), ?_⟩
      · omega
      dsimp only [gName]
      generalize hx1 : (y % 2147483629 + 40031 * (k : Int) + 8011) ^ (3 : Int).toNat % 2147483587 = x1
      have b2 : 0 ≤ x1 ∧ x1 < 2147483587 := by rw [← hx1]; exact modIn (by decide)
      have kk : (5021 : Int) * k * k ≤ 5021 * 1000000 * 1000000 := by
        have k0 : (0 : Int) ≤ k := by omega
        have k1 : (k : Int) ≤ 1000000 := by omega
        have a1 : (5021 : Int) * k ≤ 5021 * 1000000 := by omega
        exact Int.le_trans (Int.mul_le_mul_of_nonneg_right a1 k0) (Int.mul_le_mul_of_nonneg_left k1 (by decide))
      have kk0 : (0 : Int) ≤ 5021 * k * k := Int.mul_nonneg (by omega) (by omega)
      refine ⟨.int x1, rfl, .int (k : Int), rfl, 5021, _, rfl, rfl, .inl ⟨by decide, by decide⟩, .int (k : Int), rfl, _, _, rfl, rfl, .inl ⟨by omega, by omega⟩, _, _, rfl, rfl, _, _, rfl, rfl, _, _, rfl, rfl, ⟨by decide, by decide, by omega⟩, _, _, rfl, rfl, (by show (0 : Int) < 2147483563; decide), ?_⟩
      dsimp only [gName]
      generalize (x1 + 5021 * (k : Int) * (k : Int) + 41) ^ (3 : Int).toNat % 2147483563 = x2
      refine ⟨.int x2, rfl, _, _, rfl, rfl, .inr ⟨by decide, by decide⟩, _, _, rfl, rfl, (by show (0 : Int) < 2305843009213693951; decide), _, _, rfl, rfl, (by show (0 : Int) < 8 ∧ (8 : Int) < 1073741824; decide), .int m, rfl, _, m, rfl, rfl, m0, ?_⟩
      obtain ⟨w0, w1⟩ := modIn (x := x2 * 65537 % 2305843009213693951 / 8) m0
      exact q _ _ w0 w1 f1 ⟨k + 1, cs, rs, by omega, e1, e2, e3, ncr, pos, rl, cl, c0, r0⟩
/-! ### shuffled: a list in another order -/
def spLShuffled (K : PySem.W.Frag) : Sp := fun vs H Q _ => ∃ (d r c a : Addr) (n : Nat) (ns : List Int), vs = [.ref d, .ref a] ∧ Dw H d r c n ∧ n < 900000 ∧
  SqL K H a (ns.map V.int) ∧ ns.length ≤ 100 ∧
  ∀ (H' : Hp) (D : Addr) (ms : List Int), ms.Perm ns → Fm d r H H' → Dw H' d r c (n + ns.length) → H D = none → H' D = some (.lst (ms.map V.int)) → Q (.ref D) H'
theorem ok_LShuffled {f : Addr} {fd : FuncData} (F : Fun K "_law_shuffled" "_law_shuffled" sLShuffled f fd) (m_list : mg "list" = none) (m_len : mg "len" = none)
    (oLNext : Own P w K mg base "_law_next" 1 ["_law_state", "_law_many"] spLNext) :
    FnOk P w K mg base CX0 2 f fd ["_law_state", "_law_items"] (spLShuffled K) := by
  refine F.ok scLShuffled (fun vs H Q E h => ?_) (fun cdv A outer s H vs Q E hr h => ?_)
  · obtain ⟨d, r, c, a, n, ns, rfl, _⟩ := h
    rfl
  · obtain ⟨d, r, c, a, n, ns, rfl, hD, hn, hS, hl, q⟩ := h
    refine ⟨_, (pss_cons (ps_par (by rfl) scLShuffled.nd (i := 2) (j := 3) rfl rfl (by decide) rfl rfl (pa_cons (pe_callTy (listK K) (by rfl) m_list (by decide +kernel) (pa_cons (pv 1) pa_nil)) (pa_cons (pe_lst pa_nil) pa_nil)) (by rfl))
    (pss_cons (ps_while PassesOwn.never (pt_cmpR (neDK K hr.units) (pv 2) (pe_lst pa_nil) (nomark _)) (pss_one (ps_expr (bmK K PySem.F.plainAttrs_list PySem.F.slot_list_append PySem.F.type_list_append mt_append (pv 3) (pa_cons (bmK K PySem.F.plainAttrs_list PySem.F.slot_list_pop PySem.F.type_list_pop mt_popAt (pv 2) (pa_cons (pe_own oLNext (hr.mono (by decide)) (by rfl) (pa_cons (pv 0) (pa_cons (pe_callB (lenK K) (by rfl) m_len (by decide +kernel) (pa_cons (pv 2) pa_nil)) pa_nil))) pa_nil)) pa_nil)))))
    (pss_one (ps_ret (pv 3))))), ?_⟩
    refine ⟨.ref a, rfl, a, ns.map V.int, rfl, .inl hS, fun L nL => ?_⟩
    have s1 := same_upd (o := .lst (ns.map V.int)) nL
    refine ⟨Nat.zero_le _, fun D nD => ⟨.ref L, .ref D, rfl, ?_⟩⟩
    have nHD : H D = none := s1.free nD
    have nLD : L ≠ D := ne_of_none upd_same nD
    have offL := hD.off nL
    have offD := hD.off nHD
    have s2 := same_upd (o := .lst []) nD
    refine while_ms (fun t σ H' => ∃ (ms rs : List Int), σ = [some (.ref d), some (.ref a), some (.ref L), some (.ref D)] ∧ (ms ++ rs).Perm ns ∧ t = rs.length ∧ Fm d r H H' ∧ Dw H' d r c (n + ms.length) ∧
      H' L = some (.lst (rs.map V.int)) ∧ H' D = some (.lst (ms.map V.int))) ns.length ⟨[], ns, rfl, List.Perm.refl _, rfl, Same.fm (s1.trans s2), hD.same (s1.trans s2), s2 _ _ upd_same, upd_same⟩ ?_ ?_
    · rintro t σ H2 ⟨ms, rs, rfl, pm, rfl, f2, d2, eL, eD⟩
      have er : ms.length + rs.length = ns.length := by
        have := pm.length_eq
        rw [List.length_append] at this
        exact this
      refine ⟨.ref L, rfl, Nat.zero_le _, fun e ne => ?_⟩
      have se := same_upd (o := .lst []) ne
      refine ⟨.list (rs.map .int), .list [], .lst (SqL.of (se _ _ eL)) (DpAll.of_ints rs), .lst (SqL.of upd_same) .nil, shaped_ints rs, shaped_ints [], _, rfl, ?_⟩
      rw [eqv_nil]
      by_cases hr0 : rs = []
      · subst hr0
        rw [decide_eq_true rfl]
        refine iteF ⟨.ref D, rfl, ?_⟩
        rw [List.append_nil] at pm
        rw [pm.length_eq] at d2
        exact q _ D ms pm (f2.trans (Same.fm se)) (d2.same se) nHD (se _ _ eD)
      · rw [decide_eq_false hr0]
        have hp : 0 < rs.length := List.length_pos_iff.mpr hr0
        refine iteT ?_
        have eL2 := se _ _ eL
        have eD2 := se _ _ eD
        refine ⟨.ref D, rfl, .inl ⟨rfl, _, SqL.of eD2⟩, .ref L, rfl, .inl ⟨rfl, _, SqL.of eL2⟩, .ref d, rfl, .ref L, rfl, L, _, rfl, .inl (SqL.of eL2), d, r, c, _, _, rfl, by rw [List.length_map]; omega, by rw [List.length_map]; omega, d2.same se, by omega, fun H3 x x0 x1 f3 d3 => ?_⟩
        rw [List.length_map] at x1
        have eL3 := f3 _ _ offL.1 offL.2.1 eL2
        have eD3 := f3 _ _ offD.1 offD.2.1 eD2
        have hk : x.toNat < rs.length := by omega
        refine ⟨L, _, x, x.toNat, .int rs[x.toNat], rfl, rfl, eL3, by omega, by omega, ?_, ?_, D, ms.map V.int, _, rfl, rfl, ?_, ?_, (rs.eraseIdx x.toNat).length, ?_, ms ++ [rs[x.toNat]], rs.eraseIdx x.toNat, rfl, ?_, rfl, ?_, ?_, ?_, ?_⟩
        · unfold seqIndex?
          rw [List.length_map]
          simp
          omega
        · rw [List.getElem?_map, List.getElem?_eq_getElem hk]
          rfl
        · rw [upd_ne nLD.symm]
          exact eD3
        · rw [List.length_map]
          exact small1000 (by omega)
        · rw [List.length_eraseIdx_of_lt hk]
          omega
        · rw [List.append_assoc]
          refine List.Perm.trans ?_ pm
          exact List.Perm.append_left ms (erase_prm hk)
        · exact (((f2.trans (Same.fm se)).trans f3).put1 nL).put1 nHD
        · rw [List.length_append]
          exact (d3.put offL).put offD
        · rw [upd_ne nLD, upd_same]
          exact congrArg (fun z => some (HO.lst z)) (erase_mp rs x.toNat)
        · rw [upd_same, List.map_append]
          rfl
    · rintro σ H' Q1 Q2 hQ ⟨v, e, h0, h⟩
      refine ⟨v, e, h0, fun p np => ?_⟩
      obtain ⟨d, e', h1, h2, h3, h4, k, hk, h5⟩ := h p np
      exact ⟨d, e', h1, h2, h3, h4, k, hk, hQ _ _ h5⟩
/-! ### forest -/
theorem ord_min (a b : Int) : (if a < b then a else b) = (ordP a b).1 := by
  unfold ordP
  by_cases h : a ≤ b
  · rw [if_pos h]
    show _ = a
    split <;> omega
  · rw [if_neg h, if_neg (by omega)]
theorem ord_max (a b : Int) : (if a > b then a else b) = (ordP a b).2 := by
  unfold ordP
  by_cases h : a ≤ b
  · rw [if_pos h, if_neg (by omega)]
  · rw [if_neg h, if_pos (by omega)]
def spLForest (K : PySem.W.Frag) : Sp := fun vs H Q _ => ∃ (d r c : Addr) (n least most : Nat), vs = [.ref d, .int (least : Int), .int (most : Int)] ∧ least ≤ most ∧ most ≤ 12 ∧ Dw H d r c n ∧ n < 800000 ∧
  ∀ (H' : Hp) (x : V) (m : Nat) (es : List (Int × Int)), Fm d r H H' → Dw H' d r c (n + 60) → least ≤ m → m ≤ most → IsFor m es → Dp K H' x (forD m es) → Q x H'
theorem ok_LForest {f : Addr} {fd : FuncData} (F : Fun K "_law_forest" "_law_forest" sLForest f fd) (m_list : mg "list" = none) (m_range : mg "range" = none)
    (m_max : mg "max" = none) (m_min : mg "min" = none) (m_tuple : mg "tuple" = none) (m_sorted : mg "sorted" = none)
    (oLNext : Own P w K mg base "_law_next" 1 ["_law_state", "_law_many"] spLNext) (oLShuffled : Own P w K mg base "_law_shuffled" 2 ["_law_state", "_law_items"] (spLShuffled K)) :
    FnOk P w K mg base CX0 3 f fd ["_law_state", "_law_least", "_law_most"] (spLForest K) := by
  refine F.ok scLForest (fun vs H Q E h => ?_) (fun cdv A outer s H vs Q E hr h => ?_)
  · obtain ⟨d, r, c, n, least, most, rfl, _⟩ := h
    rfl
  · obtain ⟨d, r, c, n, least, most, rfl, hlm, hm, hD, hn, q⟩ := h
    refine ⟨_, (pss_cons (ps_set (i := 3) scLForest.nd rfl (.inl rfl) (pe_op op_add (pv 1) (pe_own oLNext (hr.mono (by decide)) (by rfl) (pa_cons (pv 0) (pa_cons (pe_op op_add (pe_op op_sub (pv 2) (pv 1)) pe_int) pa_nil)))))
    (pss_cons (ps_par (by rfl) scLForest.nd (i := 4) (j := 5) rfl rfl (by decide) rfl rfl (pa_cons (pe_own oLShuffled (hr.mono (by decide)) (by rfl) (pa_cons (pv 0) (pa_cons (pe_listRg rfl (by rfl) m_list (prg_1 (by rfl) m_range (pv 3))) pa_nil))) (pa_cons (pe_lst pa_nil) pa_nil)) (by rfl))
    (pss_cons (ps_par (by rfl) scLForest.nd (i := 6) (j := 7) rfl rfl (by decide) rfl rfl (pa_cons (pe_own oLNext (hr.mono (by decide)) (by rfl) (pa_cons (pv 0) (pa_cons pe_int pa_nil))) (pa_cons (pe_ix (ixLK K) (pe_lst (pa_cons pe_int (pa_cons pe_int (pa_cons pe_int pa_nil)))) (pe_own oLNext (hr.mono (by decide)) (by rfl) (pa_cons (pv 0) (pa_cons pe_int pa_nil))) (fun _ _ => rfl)) pa_nil)) (by rfl))
    (pss_cons (ps_for PassesOwn.never rfl (pi_range2 (by rfl) m_range (pa_cons pe_int (pa_cons (pv 3) pa_nil))) (pg_name (i := 8) scLForest.nd rfl (Or.inl rfl))
    (pss_cons (ps_set (i := 9) scLForest.nd rfl (.inl rfl) (pe_ix (ixLK K) (pv 4) (pe_ix (ixLK K) (pe_lst (pa_cons (pe_op op_sub (pv 8) pe_int) (pa_cons pe_int (pa_cons (pe_own oLNext (hr.mono (by decide)) (by rfl) (pa_cons (pv 0) (pa_cons (pv 8) pa_nil))) (pa_cons (pe_callB (call_max2 rfl) (by rfl) m_max (by decide +kernel) (pa_cons pe_int (pa_cons (pe_op op_sub (pe_op op_sub (pv 8) pe_int) (pe_own oLNext (hr.mono (by decide)) (by rfl) (pa_cons (pv 0) (pa_cons pe_int pa_nil)))) pa_nil))) pa_nil))))) (pv 6) (fun _ _ => rfl)) (fun _ _ => rfl)))
    (pss_one (ps_if (PW.pt (pw_or (pt_cmpR op_eq (pv 7) pe_int (nomark _)) (pw_or1 (pt_cmpR op_gt (pe_own oLNext (hr.mono (by decide)) (by rfl) (pa_cons (pv 0) (pa_cons (pv 7) pa_nil))) pe_int (nomark _))))) (pss_one (ps_expr (bmK K PySem.F.plainAttrs_list PySem.F.slot_list_append PySem.F.type_list_append mt_append (pv 5) (pa_cons (pe_tup (pa_cons (pe_callB (call_min2 rfl) (by rfl) m_min (by decide +kernel) (pa_cons (pv 9) (pa_cons (pe_ix (ixLK K) (pv 4) (pv 8) (fun _ _ => rfl)) pa_nil))) (pa_cons (pe_callB (call_max2 rfl) (by rfl) m_max (by decide +kernel) (pa_cons (pv 9) (pa_cons (pe_ix (ixLK K) (pv 4) (pv 8) (fun _ _ => rfl)) pa_nil))) pa_nil))) pa_nil)))) pss_nil))))
    (pss_one (ps_ret (pe_tup (pa_cons (pv 3) (pa_cons (pe_callTy (tupleK K) (by rfl) m_tuple (by decide +kernel) (pa_cons (pe_callB (sortK K hr.units) (by rfl) m_sorted (by decide +kernel) (pa_cons (pv 5) pa_nil)) pa_nil)) pa_nil))))))))), ?_⟩
    -- n
    refine ⟨.int (least : Int), rfl, .ref d, rfl, .int (most : Int), rfl, .int (least : Int), rfl, _, _, rfl, rfl, _, _, rfl, rfl, d, r, c, n, _, rfl, by omega, by omega, hD, by omega, fun H1 x x0 x1 f1 d1 => ⟨_, _, rfl, rfl, ?_⟩⟩
    obtain ⟨m, hmx⟩ : ∃ m : Nat, (least : Int) + x = (m : Int) := ⟨((least : Int) + x).toNat, by omega⟩
    dsimp only [gName]
    rw [hmx]
    have hmm : least ≤ m ∧ m ≤ most := by omega
    -- order, edges
    refine ⟨.ref d, rfl, .int (m : Int), rfl, (m : Int), rfl, RgOk.of_le (by omega) (by omega) (by omega) (by omega), fun z nz => ?_⟩
    rw [rgVrng]
    have sz := same_upd (o := .lst ((rng m).map V.int)) nz
    refine ⟨d, r, c, z, _, rng m, rfl, d1.same sz, by omega, SqL.of upd_same, by rw [rng_length]; omega, fun H2 D nm pm f2 d2 nD eD => ?_⟩
    rw [rng_length] at d2
    have f12 : Fm d r H H2 := (f1.trans (Same.fm sz)).trans f2
    have offD := (d1.same sz).off nD
    refine ⟨Nat.zero_le _, fun E nE => ⟨.ref D, .ref E, rfl, ?_⟩⟩
    have offE := d2.off nE
    have nDE : D ≠ E := ne_of_none eD nE
    have sE := same_upd (o := .lst []) nE
    have eE := same_at (o := .lst []) nE
    -- kind, lack
    refine ⟨.ref d, rfl, d, r, c, _, 4, rfl, by decide, by decide, d2.same sE, by omega, fun H3 w3 w0 w1 f3 d3 => ?_⟩
    refine ⟨by show 3 ≤ sizeLine; decide, fun p np => ?_⟩
    have sp := same_upd (o := .lst [V.int 0, V.int 0, V.int 4]) np
    have ep := same_at (o := .lst [V.int 0, V.int 0, V.int 4]) np
    have offp := d3.off np
    refine ⟨.ref d, rfl, d, r, c, _, 3, rfl, by decide, by decide, d3.same sp, by omega, fun H4 t' t0 t1 f4 d4 => ?_⟩
    obtain ⟨t, ht, hti⟩ : ∃ t : Int, atI [V.int 0, V.int 0, V.int 4] t' = some (V.int t) ∧ (t = 0 ∨ t = 4) := by
      have h3 : t' = 0 ∨ t' = 1 ∨ t' = 2 := by omega
      rcases h3 with rfl | rfl | rfl
      · exact ⟨0, rfl, .inl rfl⟩
      · exact ⟨0, rfl, .inl rfl⟩
      · exact ⟨4, rfl, .inr rfl⟩
    refine ⟨p, _, _, .int t, rfl, rfl, SqL.of (f4 _ _ offp.1 offp.2.1 ep), ht, .int w3, .int t, rfl, ?_⟩
    have f24 : Fm d r H2 H4 := ((Same.fm sE).trans f3).trans ((Same.fm sp).trans f4)
    have eD4 := f24 _ _ offD.1 offD.2.1 eD
    have eE4 := f4 _ _ offE.1 offE.2.1 (sp _ _ (f3 _ _ offE.1 offE.2.1 eE))
    have f14 := f12.trans f24
    refine ⟨.int (m : Int), rfl, 1, (m : Int), rfl, ⟨by omega, by omega, by omega, by omega⟩, for_range (lo := 1) (n := ((m : Int) - 1).toNat) (fun i σ H' => ∃ (y8 y9 : Option V) (ks : List (Nat × Nat)) (xs : List V),
      σ = [some (.ref d), some (.int (least : Int)), some (.int (most : Int)), some (.int (m : Int)), some (.ref D), some (.ref E), some (.int w3), some (.int t), y8, y9] ∧ Fm d r H2 H' ∧ Dw H' d r c (n + 20 + 3 * i) ∧
      H' D = some (.lst (nm.map V.int)) ∧ H' E = some (.lst xs) ∧ DpAll K H' xs ((ks.map (edgeOf nm)).map prD) ∧ ks.Pairwise (fun a b => a.1 < b.1) ∧ (∀ q ∈ ks, q.2 < q.1 ∧ q.1 < i + 1) ∧ ks.length ≤ i) ?_ ?_ ?_⟩
    · exact ⟨none, none, [], [], rfl, f24, d4.le (by omega), eD4, eE4, .nil, .nil, (fun _ z => nomatch z), Nat.le_refl _⟩
    · rintro i σ H5 hi ⟨y8, y9, ks, xs, rfl, f5, d5, eD5, eE5, a5, up, down, cnt⟩
      have hi' : i + 1 < m := by omega
      have lnm : nm.length = m := by rw [pm.length_eq, rng_length]
      -- on
      refine ⟨.ref D, rfl, .int (1 + (i : Int)), rfl, _, _, rfl, rfl, .ref d, rfl, .int (1 + (i : Int)), rfl, d, r, c, _, _, rfl, by omega, by omega, d5, by omega, fun H6 x x0 x1 f6 d6 => ?_⟩
      refine ⟨.int (1 + (i : Int)), rfl, _, _, rfl, rfl, .ref d, rfl, d, r, c, _, 3, rfl, by decide, by decide, d6, by omega, fun H7 y y0 y1 f7 d7 => ⟨_, _, rfl, rfl, 0, _, rfl, by show 4 ≤ sizeLine; decide, fun p6 np6 => ?_⟩⟩
      have sp6 := same_upd (o := .lst [.int (1 + (i : Int) - 1), .int 0, .int x, .int (if 1 + (i : Int) - 1 - y > 0 then 1 + (i : Int) - 1 - y else 0)]) np6
      obtain ⟨o, ho, lo⟩ : ∃ o : Nat, atI [V.int (1 + (i : Int) - 1), V.int 0, V.int x, V.int (if 1 + (i : Int) - 1 - y > 0 then 1 + (i : Int) - 1 - y else 0)] w3 = some (V.int (o : Int)) ∧ o < i + 1 := by
        have h4 : w3 = 0 ∨ w3 = 1 ∨ w3 = 2 ∨ w3 = 3 := by omega
        rcases h4 with rfl | rfl | rfl | rfl
        · exact ⟨i, by show some (V.int (1 + (i : Int) - 1)) = _; congr 2; omega, by omega⟩
        · exact ⟨0, rfl, by omega⟩
        · exact ⟨x.toNat, by show some (V.int x) = _; congr 2; omega, by omega⟩
        · refine ⟨(1 + (i : Int) - 1 - y).toNat, ?_, by omega⟩
          show some (V.int (if 1 + (i : Int) - 1 - y > 0 then 1 + (i : Int) - 1 - y else 0)) = _
          congr 2
          split <;> omega
      have go : (nm.map V.int)[o]? = some (.int (nm.getD o 0)) := by
        rw [List.getElem?_map, List.getD_eq_getElem?_getD, List.getElem?_eq_getElem (by omega)]
        rfl
      have gk : (nm.map V.int)[i + 1]? = some (.int (nm.getD (i + 1) 0)) := by
        rw [List.getElem?_map, List.getD_eq_getElem?_getD, List.getElem?_eq_getElem (by omega)]
        rfl
      have f67 := f6.trans f7
      have eD6 := sp6 _ _ (f67 _ _ offD.1 offD.2.1 eD5)
      have eE6 := sp6 _ _ (f67 _ _ offE.1 offE.2.1 eE5)
      refine ⟨.int w3, rfl, p6, _, _, _, rfl, rfl, SqL.of upd_same, ho, D, _, _, _, rfl, rfl, SqL.of eD6, at_of (j := o) rfl go, ?_⟩
      have d6' := d7.same sp6
      have f6' : Fm d r H2 _ := (f5.trans f67).trans (Same.fm sp6)
      have k6 : KT K H5 _ := (f67.ktw d5).trans (Same.kt sp6)
      have a6 := DpAll.kt k6 a5 (only_prs _)
      generalize upd H7 p6 (.lst [.int (1 + (i : Int) - 1), .int 0, .int x, .int (if 1 + (i : Int) - 1 - y > 0 then 1 + (i : Int) - 1 - y else 0)]) = H8 at eD6 eE6 d6' f6' a6 ⊢
      dsimp only [gName]
      refine ifJ (R := fun b H9 => Fm d r H8 H9 ∧ Dw H9 d r c (n + 20 + 3 * (i + 1))) (fun R hR => ?_) (fun H9 hR => ?_) (fun H9 hR => ?_)
      · refine ⟨.int t, rfl, rfl, _, rfl, ?_⟩
        rw [decInt]
        rcases hti with rfl | rfl
        · rw [decide_eq_true rfl]
          exact iteT (hR _ _ ⟨Fm.refl, d6'.le (by omega)⟩)
        · rw [decide_eq_false (by decide)]
          refine iteF ⟨.ref d, rfl, .int 4, rfl, d, r, c, _, 4, rfl, by decide, by decide, d6', by omega, fun H9 y y0 y1 f9 d9 => ⟨_, _, rfl, rfl, _, rfl, hR _ _ ⟨f9, d9.le (by omega)⟩⟩⟩
      · obtain ⟨f9, d9⟩ := hR
        have eD9 := f9 _ _ offD.1 offD.2.1 eD6
        have eE9 := f9 _ _ offE.1 offE.2.1 eE6
        have a9 := DpAll.kt (f9.ktw d6') a6 (only_prs _)
        refine ⟨.ref E, rfl, .inl ⟨rfl, _, SqL.of eE9⟩, .int (nm.getD o 0), rfl, .ref D, rfl, .int (1 + (i : Int)), rfl, D, _, _, _, rfl, rfl, SqL.of eD9, at_of (j := i + 1) (by omega) gk, _, _, rfl,
          .int (nm.getD o 0), rfl, .ref D, rfl, .int (1 + (i : Int)), rfl, D, _, _, _, rfl, rfl, SqL.of eD9, at_of (j := i + 1) (by omega) gk, _, _, rfl, by show 2 ≤ sizeLine; decide, fun p3 np3 => ?_⟩
        dsimp only
        rw [ord_min, ord_max]
        have s3 := same_upd (o := .tup [V.int (ordP (nm.getD (i + 1) 0) (nm.getD o 0)).1, V.int (ordP (nm.getD (i + 1) 0) (nm.getD o 0)).2]) np3
        have eE10 := s3 _ _ eE9
        have eD10 := s3 _ _ eD9
        have a10 := DpAll.same s3 a9
        have d10 := d9.same s3
        have f10 := (f6'.trans f9).trans (Same.fm s3)
        have hp : SqT K _ p3 [.int (edgeOf nm (i + 1, o)).1, .int (edgeOf nm (i + 1, o)).2] := SqT.of (K := K) (same_at (o := .tup [V.int (ordP (nm.getD (i + 1) 0) (nm.getD o 0)).1, V.int (ordP (nm.getD (i + 1) 0) (nm.getD o 0)).2]) np3)
        generalize upd _ p3 (.tup [V.int (ordP (nm.getD (i + 1) 0) (nm.getD o 0)).1, V.int (ordP (nm.getD (i + 1) 0) (nm.getD o 0)).2]) = H10 at eE10 eD10 a10 d10 f10 hp ⊢
        have kt : KT K H10 (upd H10 E (.lst (xs ++ [.ref p3]))) := kt_lst eE10
        refine ⟨E, xs, .ref p3, rfl, rfl, eE10, ?_, _, _, ks ++ [(i + 1, o)], xs ++ [.ref p3], rfl, ?_, d10.put offE, by rw [upd_ne nDE]; exact eD10, upd_same, ?_, ?_, ?_, ?_⟩
        · have := DpAll.length a10
          rw [List.length_map, List.length_map] at this
          exact small1000 (by omega)
        · exact f10.put1 nE
        · rw [List.map_append, List.map_append]
          exact DpAll.append (DpAll.kt kt a10 (only_prs _)) (.cons (Dp.kt kt (Dp.pr hp) (only_pr _)) .nil)
        · refine List.pairwise_append.mpr ⟨up, List.pairwise_singleton _ _, fun a ha b hb => ?_⟩
          obtain rfl := List.mem_singleton.mp hb
          have := (down a ha).2
          exact this
        · intro z hz
          rcases List.mem_append.mp hz with hz | hz
          · have := down z hz
            omega
          · obtain rfl := List.mem_singleton.mp hz
            exact ⟨lo, Nat.lt_succ_self _⟩
        · rw [List.length_append, List.length_singleton]
          omega
      · obtain ⟨f9, d9⟩ := hR
        exact ⟨_, _, ks, xs, rfl, f6'.trans f9, d9, f9 _ _ offD.1 offD.2.1 eD6, f9 _ _ offE.1 offE.2.1 eE6, DpAll.kt (f9.ktw d6') a6 (only_prs _), up, fun z hz => by have := down z hz; omega, by omega⟩
    · rintro σ H5 ⟨y8, y9, ks, xs, rfl, f5, d5, eD5, eE5, a5, up, down, cnt⟩
      have g : Grow m nm ks := ⟨pm, up, fun z hz => by have := down z hz; omega⟩
      refine ⟨.int (m : Int), rfl, .ref E, rfl, sortPairs (SqL.of eE5) a5 fun p ys np dy => ?_⟩
      have s1 := same_upd (o := .lst ys) np
      refine ⟨p, ys, rfl, .inl ⟨SqL.of upd_same, fun t nt => ?_⟩⟩
      have s2 := same_upd (o := .tup ys) nt
      refine ⟨by show 2 ≤ sizeLine; decide, fun z nz => ?_⟩
      have s3 := same_upd (o := .tup [.int (m : Int), .ref t]) nz
      have s13 := (s1.trans s2).trans s3
      refine q _ _ m _ ((f12.trans f5).trans (Same.fm s13)) ((d5.same s13).le (by omega)) hmm.1 hmm.2 g.isFor ?_
      exact .tup (SqT.of upd_same) (.cons (.int _) (.cons (Dp.same s3 (.tup (SqT.of upd_same) (DpAll.same (s1.trans s2) dy))) .nil))
end
end TL
namespace TL
open PySem PySem.Spec PyProof.Rows L2
section
variable {P : Program} {w : World} {K : PySem.W.Frag} {mg : Str → Option Value} {base : Heap}
/-! ### the program: neighbours, lamps in the way -/
def spNeighboursOf (K : PySem.W.Frag) : Sp := fun vs H Q _ => ∃ (x : V) (m : Nat) (es : List (Int × Int)) (v : Int), vs = [x, .int v] ∧ m ≤ 12 ∧ IsFor m es ∧ Dp K H x (forD m es) ∧
  ∀ (H' : Hp) (y : V), Same H H' → Dp K H' y (intsD (nearL m es v)) → Q y H'
theorem dec_int (a b : Int) : decide (V.int a = V.int b) = decide (a = b) := by
  by_cases h : a = b
  · subst h; simp
  · have : ¬ V.int a = V.int b := fun z => h (V.int.inj z)
    rw [decide_eq_false h, decide_eq_false this]
theorem ok_NeighboursOf {f : Addr} {fd : FuncData} {k : Nat} (F : Fun K "neighbours_of" "neighbours_of" sNeighboursOf f fd) (m_tuple : mg "tuple" = none) :
    FnOk P w K mg base CX0 (k + 1) f fd ["forest", "vertex"] (spNeighboursOf K) := by
  refine F.ok scNeighboursOf (fun vs H Q E h => ?_) (fun cdv A outer s H vs Q E hr h => ?_)
  · obtain ⟨x, m, es, v, rfl, _⟩ := h
    rfl
  · obtain ⟨x, m, es, v, rfl, hm, isf, hx, q⟩ := h
    obtain ⟨a, b, xs, rfl, ha, hb, hA⟩ := Dp.forI hx
    have ec := isf.count
    refine ⟨_, (pss_cons (ps_asg (pv 0) (pgTK K (pgs_cons (pg_name (i := 2) scNeighboursOf.nd rfl (Or.inl rfl)) (pgs_cons (pg_name (i := 3) scNeighboursOf.nd rfl (Or.inl rfl)) pgs_nil))))
    (pss_cons (ps_setLc (i := 4) (own := [("a", 6), ("b", 7)]) (g := (gTup K 2 (gCons (gName 6) (gCons (gName 7) gNil)))) (by rfl) scNeighboursOf.nd rfl rfl (sw_true rfl rfl rfl (by decide +kernel)) (piTK K (pv 3))
      (blkOk_by (own := [("a", 6), ("b", 7)]) (N := nNeighboursOf) (sc := (defScope sNeighboursOf)) (by decide +kernel))
      (fun _ _ _ _ _ => (pgTK K (pgs_cons (pg_name (i := 6) scNeighboursOf.nd rfl (Or.inl rfl)) (pgs_cons (pg_name (i := 7) scNeighboursOf.nd rfl (Or.inl rfl)) pgs_nil)))) (fun _ _ _ _ _ => (pts_one (pt_cmpR op_eq (pv 7) (pv 1) (nomark _))))
      (fun _ _ _ _ _ => (pv 6)))
    (pss_cons (ps_setLc (i := 5) (own := [("a", 6), ("b", 7)]) (g := (gTup K 2 (gCons (gName 6) (gCons (gName 7) gNil)))) (by rfl) scNeighboursOf.nd rfl rfl (sw_true rfl rfl rfl (by decide +kernel)) (piTK K (pv 3))
      (blkOk_by (own := [("a", 6), ("b", 7)]) (N := nNeighboursOf) (sc := (defScope sNeighboursOf)) (by decide +kernel))
      (fun _ _ _ _ _ => (pgTK K (pgs_cons (pg_name (i := 6) scNeighboursOf.nd rfl (Or.inl rfl)) (pgs_cons (pg_name (i := 7) scNeighboursOf.nd rfl (Or.inl rfl)) pgs_nil)))) (fun _ _ _ _ _ => (pts_one (pt_cmpR op_eq (pv 6) (pv 1) (nomark _))))
      (fun _ _ _ _ _ => (pv 7)))
    (pss_one (ps_ret (pe_callTy (tupleK K) (by rfl) m_tuple (by decide +kernel) (pa_cons (pe_op op_cat (pv 4) (pv 5)) pa_nil))))))), ?_⟩
    refine ⟨.ref a, rfl, a, _, rfl, ha, rfl, _, _, rfl, _, _, rfl, rfl, ?_⟩
    refine ⟨.ref b, rfl, b, rfl, ⟨_, hb⟩, fun D nD => ?_⟩
    refine lc_tupP (K := K) (fun p => decide (p.2 = v)) (fun p => .int p.1) nD hb hA (fun _ _ => rfl) (fun o _ H' R s1 hR => ?_) (fun o _ _ H' R s1 hR => ?_) (fun o => only_int _) (by omega) (fun H2 ys s2 eD dy => ?_)
    · refine ⟨.int o.2, rfl, .int v, rfl, rfl, _, rfl, ?_⟩
      rw [dec_int]
      exact hR H' (Same.refl _)
    · exact ⟨.int o.1, rfl, hR H' _ (Same.refl _) (.int _)⟩
    refine ⟨.ref b, rfl, b, rfl, ⟨_, Same.tup s2 hb⟩, fun D2 nD2 => ?_⟩
    refine lc_tupP (K := K) (fun p => decide (p.1 = v)) (fun p => .int p.2) nD2 (Same.tup s2 hb) (DpAll.same s2 hA) (fun _ _ => rfl) (fun o _ H' R s1 hR => ?_) (fun o _ _ H' R s1 hR => ?_) (fun o => only_int _) (by omega) (fun H3 zs s3 eD3 dz => ?_)
    · refine ⟨.int o.1, rfl, .int v, rfl, rfl, _, rfl, ?_⟩
      rw [dec_int]
      exact hR H' (Same.refl _)
    · exact ⟨.int o.2, rfl, hR H' _ (Same.refl _) (.int _)⟩
    have e1 : ys = ((es.filter fun p => decide (p.2 = v)).map (·.1)).map V.int := DpAll.ints (by rw [List.map_map]; exact dy)
    have e2 : zs = ((es.filter fun p => decide (p.1 = v)).map (·.2)).map V.int := DpAll.ints (by rw [List.map_map]; exact dz)
    subst e1 e2
    have l1 := List.length_filter_le (fun p => decide (p.2 = v)) es
    have l2 := List.length_filter_le (fun p => decide (p.1 = v)) es
    refine ⟨.ref D, rfl, .ref D2, rfl, D, D2, _, _, rfl, rfl, s3 _ _ eD, eD3, Nat.le_of_lt (small1000 (by rw [List.length_map, List.length_map, List.length_map, List.length_map]; omega)), fun p np => ?_⟩
    rw [← List.map_append]
    have t1 := same_upd (o := .lst ((nbL es v).map V.int)) np
    refine ⟨p, _, rfl, .inl ⟨SqL.of upd_same, fun t nt => ?_⟩⟩
    have t2 := same_upd (o := .tup ((nbL es v).map V.int)) nt
    refine q _ _ (((s2.trans s3).trans t1).trans t2) ?_
    rw [← isf.nb v]
    exact Dp.ints (SqT.of upd_same)
def spBlockingLamps (K : PySem.W.Frag) : Sp := fun vs H Q _ => ∃ (x y : V) (m : Nat) (es : List (Int × Int)) (S : List Int) (u v : Int), vs = [x, y, .int u, .int v] ∧ m ≤ 12 ∧ IsFor m es ∧ Dp K H x (forD m es) ∧ Dp K H y (intsD S) ∧
  ∀ (H' : Hp) (z : V), Same H H' → Dp K H' z (intsD (oth m es S u v)) → Q z H'
theorem ok_BlockingLamps {f : Addr} {fd : FuncData} {k : Nat} (F : Fun K "blocking_lamps" "blocking_lamps" sBlockingLamps f fd) (m_tuple : mg "tuple" = none)
    (oNeighboursOf : Own P w K mg base "neighbours_of" 1 ["forest", "vertex"] (spNeighboursOf K)) :
    FnOk P w K mg base CX0 2 f fd ["forest", "setting", "u", "v"] (spBlockingLamps K) := by
  refine F.ok scBlockingLamps (fun vs H Q E h => ?_) (fun cdv A outer s H vs Q E hr h => ?_)
  · obtain ⟨x, y, m, es, S, u, v, rfl, _⟩ := h
    rfl
  · obtain ⟨x, y, m, es, S, u, v, rfl, hm, isf, hx, hy, q⟩ := h
    obtain ⟨b, rfl, hb⟩ := Dp.intsI hy
    refine ⟨_, (pss_one (ps_ret (pe_callTy (tupleK K) (by rfl) m_tuple (by decide +kernel) (pa_cons (pe_lc (own := [("vertex", 4)]) (g := (gName 4)) rfl scBlockingLamps.nd (piTK K (pe_own oNeighboursOf (hr.mono (by decide)) (by rfl) (pa_cons (pv 0) (pa_cons (pv 3) pa_nil))))
      (blkOk_by (own := [("vertex", 4)]) (N := nBlockingLamps) (sc := (defScope sBlockingLamps)) (by decide +kernel))
      (fun _ _ _ _ _ => (pg_name (i := 4) scBlockingLamps.nd rfl (Or.inl rfl))) (fun _ _ _ _ _ => (pts_one (PW.pt (pw_and (pt_cmpR (inK K) (pv 4) (pv 1) (by rfl)) (pw_and1 (pt_cmpR op_ne (pv 4) (pv 2) (nomark _)))))))
      (fun _ _ _ _ _ => (pv 4))) pa_nil)))), ?_⟩
    refine ⟨x, rfl, .int v, rfl, x, m, es, v, rfl, hm, isf, hx, fun H1 n s1 dn => ?_⟩
    obtain ⟨a, rfl, ha⟩ := Dp.intsI dn
    refine ⟨a, rfl, ⟨_, ha⟩, fun D nD => ?_⟩
    have nl := nearL_len m es v
    refine lc_tupI (K := K) (fun o => decide (o ∈ S) && !decide (o = u)) .int nD ha (fun _ => rfl) (fun o _ H' R s2 hR => ?_) (fun o _ _ H' R s2 hR => ?_) only_int (by omega) (fun H2 ys s2 eD dy => ?_)
    · refine ⟨.int o, rfl, .ref b, rfl, b, S.map V.int, rfl, .inr (Same.tup (s1.trans s2) hb), rfl, flat_ints S, _, rfl, ?_⟩
      have hR' := hR H' (Same.refl _)
      show if (if false = true then _ else inV (V.int o) (S.map V.int)) = true then _ else _
      rw [if_neg Bool.false_ne_true, inV_ints]
      refine ite2 (fun h => ?_) (fun h => ?_)
      · refine ⟨.int o, rfl, .int u, rfl, rfl, _, rfl, ?_⟩
        rw [dec_int]
        rw [h, Bool.true_and] at hR'
        exact hR'
      · rw [Bool.not_eq_true] at h
        rw [h, Bool.false_and] at hR'
        exact hR'
    · exact ⟨.int o, rfl, hR H' _ (Same.refl _) (.int o)⟩
    rw [lst_ints dy] at eD
    refine ⟨D, _, rfl, .inl ⟨SqL.of eD, fun t nt => ?_⟩⟩
    exact q _ _ ((s1.trans s2).trans (same_upd nt)) (Dp.ints (SqT.of upd_same))
/-! ### the program: numbers, settings -/
def spIsNumber : Sp := fun vs H Q _ => ∃ i : Int, vs = [.int i] ∧ Q (.bl true) H
theorem ok_IsNumber {f : Addr} {fd : FuncData} {k : Nat} (F : Fun K "is_number" "is_number" sIsNumber f fd) (m_isinstance : mg "isinstance" = none) (m_int : mg "int" = none) (m_bool : mg "bool" = none) :
    FnOk P w K mg base CX0 (k + 1) f fd ["value"] spIsNumber := by
  refine F.ok scIsNumber (fun vs H Q E h => ?_) (fun cdv A outer s H vs Q E hr h => ?_)
  · obtain ⟨i, rfl, _⟩ := h
    rfl
  · obtain ⟨i, rfl, q⟩ := h
    refine ⟨_, (pss_one (ps_ret (pe_and (pe_callB (isiK K) (by rfl) m_isinstance (by decide +kernel) (pa_cons (pv 0) (pa_cons (pe_bltn (v := .ty "int") (by rfl) m_int (by decide +kernel) rfl) pa_nil))) (pe_one (pe_not (pe_callB (isiK K) (by rfl) m_isinstance (by decide +kernel) (pa_cons (pv 0) (pa_cons (pe_bltn (v := .ty "bool") (by rfl) m_bool (by decide +kernel) rfl) pa_nil)))))))), ?_⟩
    refine ⟨.int i, rfl, _, _, _, _, true, rfl, .ty "int", .base (.int i), kit_ty (by decide +kernel), true, rfl, iteT ?_⟩
    exact ⟨.int i, rfl, _, _, _, _, false, rfl, .ty "bool", .base (.int i), kit_ty (by decide +kernel), false, rfl, q⟩
/-! ### the program: slides -/
/-! ### a lamp is checked -/
def spCheckLamp (K : PySem.W.Frag) : Sp := fun vs H Q _ => ∃ (y : V) (S : List Int) (u : Int), vs = [y, .int u] ∧ Dp K H y (intsD S) ∧ u ∈ S ∧ Q .non H
theorem ok_CheckLamp {f : Addr} {fd : FuncData} (F : Fun K "check_lamp" "check_lamp" sCheckLamp f fd) (oIsNumber : Own P w K mg base "is_number" 1 ["value"] spIsNumber) :
    FnOk P w K mg base CX0 2 f fd ["setting", "value"] (spCheckLamp K) := by
  refine F.ok scCheckLamp (fun vs H Q E h => ?_) (fun cdv A outer s H vs Q E hr h => ?_)
  · obtain ⟨y, S, u, rfl, _⟩ := h
    rfl
  · obtain ⟨y, S, u, rfl, hy, hu, q⟩ := h
    obtain ⟨b, rfl, hb⟩ := Dp.intsI hy
    refine ⟨_, (pss_one (ps_if (PW.pt (pw_or (pt_not (pt_val (pe_own oIsNumber (hr.mono (by decide)) (by rfl) (pa_cons (pv 1) pa_nil)))) (pw_or1 (pt_cmpR (notInK K) (pv 1) (pv 0) (by rfl))))) (pss_one ps_never) pss_nil)), ?_⟩
    refine ⟨.int u, rfl, u, rfl, true, rfl, iteF ⟨.int u, rfl, .ref b, rfl, b, S.map V.int, rfl, .inr hb, rfl, flat_ints S, _, rfl, ?_⟩⟩
    show if (if true = true then !inV (V.int u) (S.map V.int) else _) = true then _ else _
    rw [if_pos rfl, inV_ints, decide_eq_true hu]
    exact iteF q
def spSlideLamp (K : PySem.W.Frag) : Sp := fun vs H Q _ => ∃ (x y : V) (m : Nat) (es : List (Int × Int)) (S : List Int) (u v : Int), vs = [x, y, .int u, .int v] ∧ m ≤ 12 ∧ IsFor m es ∧ Dp K H x (forD m es) ∧ Dp K H y (intsD S) ∧
  IsSet m es S ∧ u ∈ S ∧ v ∈ nearL m es u ∧ oth m es S u v = [] ∧ ∀ (H' : Hp) (t : Addr), Same H H' → H' t = some (.tup ((after S u v).map V.int)) → Q (.ref t) H'
theorem ok_SlideLamp {f : Addr} {fd : FuncData} (F : Fun K "slide_lamp" "slide_lamp" sSlideLamp f fd) (m_tuple : mg "tuple" = none) (m_sorted : mg "sorted" = none)
    (oIsNumber : Own P w K mg base "is_number" 1 ["value"] spIsNumber) (oCheckLamp : Own P w K mg base "check_lamp" 2 ["setting", "value"] (spCheckLamp K)) (oNeighboursOf : Own P w K mg base "neighbours_of" 1 ["forest", "vertex"] (spNeighboursOf K))
    (oBlockingLamps : Own P w K mg base "blocking_lamps" 2 ["forest", "setting", "u", "v"] (spBlockingLamps K)) :
    FnOk P w K mg base CX0 3 f fd ["forest", "setting", "u", "v"] (spSlideLamp K) := by
  refine F.ok scSlideLamp (fun vs H Q E h => ?_) (fun cdv A outer s H vs Q E hr h => ?_)
  · obtain ⟨x, y, m, es, S, u, v, rfl, _⟩ := h
    rfl
  · obtain ⟨x, y, m, es, S, u, v, rfl, hm, isf, hx, hy, iss, hu, hv, ho, q⟩ := h
    obtain ⟨b, rfl, hb⟩ := Dp.intsI hy
    have ls := iss.len
    refine ⟨_, (pss_cons (ps_expr (pe_own oCheckLamp (hr.mono (by decide)) (by rfl) (pa_cons (pv 1) (pa_cons (pv 2) pa_nil))))
    (pss_cons (ps_if (PW.pt (pw_or (pt_not (pt_val (pe_own oIsNumber (hr.mono (by decide)) (by rfl) (pa_cons (pv 3) pa_nil)))) (pw_or1 (pt_cmpR (notInK K) (pv 3) (pe_own oNeighboursOf (hr.mono (by decide)) (by rfl) (pa_cons (pv 0) (pa_cons (pv 2) pa_nil))) (by rfl))))) (pss_one ps_never) pss_nil)
    (pss_cons (ps_set (i := 4) scSlideLamp.nd rfl (.inl rfl) (pe_own oBlockingLamps (hr.mono (by decide)) (by rfl) (pa_cons (pv 0) (pa_cons (pv 1) (pa_cons (pv 2) (pa_cons (pv 3) pa_nil))))))
    (pss_cons (ps_if (truthK K (pv 4) (by intro _; rfl)) (pss_one ps_never) pss_nil)
    (pss_one (ps_ret (pe_callTy (tupleK K) (by rfl) m_tuple (by decide +kernel) (pa_cons (pe_callB (sortK K hr.units) (by rfl) m_sorted (by decide +kernel) (pa_cons (pe_lc (own := [("lamp", 5)]) (g := (gName 5)) (tt := tYes) rfl scSlideLamp.nd (piTK K (pv 1))
      (blkOk_by (own := [("lamp", 5)]) (N := nSlideLamp) (sc := (defScope sSlideLamp)) (by decide +kernel))
      (fun _ _ _ _ _ => (pg_name (i := 5) scSlideLamp.nd rfl (Or.inl rfl))) (fun _ _ _ _ _ => pts_nil)
      (fun _ _ _ _ _ => (pe_ifExp (pt_cmpR op_eq (pv 5) (pv 2) (nomark _)) (pv 3) (pv 5)))) pa_nil)) pa_nil)))))))), ?_⟩
    -- u
    refine ⟨.ref b, rfl, .int u, rfl, .ref b, S, u, rfl, hy, hu, ?_⟩
    -- v
    refine ⟨.int v, rfl, v, rfl, true, rfl, iteF ⟨.int v, rfl, x, rfl, .int u, rfl, x, m, es, u, rfl, hm, isf, hx, fun H1 n s1 dn => ?_⟩⟩
    obtain ⟨a, rfl, ha⟩ := Dp.intsI dn
    refine ⟨a, _, rfl, .inr ha, rfl, flat_ints _, _, rfl, ?_⟩
    show if (if true = true then !inV (V.int v) ((nearL m es u).map V.int) else _) = true then _ else _
    rw [if_pos rfl, inV_ints, decide_eq_true hv]
    refine iteF ?_
    -- blocking
    refine ⟨x, rfl, .ref b, rfl, .int u, rfl, .int v, rfl, x, _, m, es, S, u, v, rfl, hm, isf, Dp.same s1 hx, Dp.same s1 hy, fun H2 z s2 dz => ?_⟩
    rw [ho] at dz
    obtain ⟨c, rfl, hc⟩ := Dp.intsI dz
    refine ⟨.ref c, rfl, false, .inr (.inl ⟨_, hc, rfl⟩), iteF ?_⟩
    -- the setting
    have s12 := s1.trans s2
    refine ⟨.ref b, rfl, b, rfl, ⟨_, Same.tup s12 hb⟩, fun D nD => ?_⟩
    refine lc_tupI (K := K) (fun _ => true) (fun l => .int (if l = u then v else l)) nD (Same.tup s12 hb) (fun _ => rfl) (fun o _ H' R s3 hR => ?_) (fun o _ _ H' R s3 hR => ?_) (fun o => only_int _) (by omega) (fun H3 ys s3 eD dy => ?_)
    · exact hR H' (Same.refl _)
    · refine ⟨.int o, rfl, .int u, rfl, rfl, _, rfl, ?_⟩
      rw [dec_int]
      have h2 := hR H' (.int (if o = u then v else o)) (Same.refl _) (.int _)
      refine ite2 (fun h => ?_) (fun h => ?_)
      · rw [if_pos (of_decide_eq_true h)] at h2
        exact ⟨.int v, rfl, h2⟩
      · rw [if_neg fun z => h (decide_eq_true z)] at h2
        exact ⟨.int o, rfl, h2⟩
    have e1 : ys = (S.map fun l => if l = u then v else l).map V.int := DpAll.ints (by
      rw [List.map_map]
      have e : (S.filter fun _ => true) = S := List.filter_eq_self.mpr fun _ _ => rfl
      rw [e] at dy
      exact dy)
    subst e1
    refine sortInts (SqL.of eD) fun p np => ?_
    rw [after_eq iss.asc.nodup hu]
    have t1 := same_upd (o := .lst ((after S u v).map V.int)) np
    refine ⟨p, _, rfl, .inl ⟨SqL.of upd_same, fun t nt => ?_⟩⟩
    exact q _ _ (((s12.trans s3).trans t1).trans (same_upd nt)) upd_same
def spPossibleSlides (K : PySem.W.Frag) : Sp := fun vs H Q _ => ∃ (x y : V) (m : Nat) (es : List (Int × Int)) (S : List Int), vs = [x, y] ∧ m ≤ 12 ∧ IsFor m es ∧ Dp K H x (forD m es) ∧ Dp K H y (intsD S) ∧
  IsSet m es S ∧ ∀ (H' : Hp) (z : V), Same H H' → Dp K H' z (prsD (slidesP m es S)) → Q z H'
theorem ok_PossibleSlides {f : Addr} {fd : FuncData} (F : Fun K "possible_slides" "possible_slides" sPossibleSlides f fd) (m_tuple : mg "tuple" = none)
    (oNeighboursOf : Own P w K mg base "neighbours_of" 1 ["forest", "vertex"] (spNeighboursOf K))
    (oBlockingLamps : Own P w K mg base "blocking_lamps" 2 ["forest", "setting", "u", "v"] (spBlockingLamps K)) :
    FnOk P w K mg base CX0 3 f fd ["forest", "setting"] (spPossibleSlides K) := by
  refine F.ok scPossibleSlides (fun vs H Q E h => ?_) (fun cdv A outer s H vs Q E hr h => ?_)
  · obtain ⟨x, y, m, es, S, rfl, _⟩ := h
    rfl
  · obtain ⟨x, y, m, es, S, rfl, hm, isf, hx, hy, iss, q⟩ := h
    obtain ⟨b, rfl, hb⟩ := Dp.intsI hy
    have ls := iss.len
    refine ⟨_, (pss_cons (ps_setLc2 (i := 2) (own := [("u", 3), ("v", 4)]) (vs1 := [4]) (g := (gName 3)) (g1 := (gName 4)) (tt := tYes) (tt1 := tYes) (by rfl) scPossibleSlides.nd rfl rfl (sw_true rfl rfl rfl (by decide +kernel)) (piTK K (pv 1))
      (blkOk_by (own := [("u", 3), ("v", 4)]) (N := nPossibleSlides) (sc := (defScope sPossibleSlides)) (by decide +kernel)) (by decide)
      (fun _ _ _ _ _ => (pg_name (i := 3) scPossibleSlides.nd rfl (Or.inl rfl)))
      (fun _ _ _ _ _ => pts_nil)
      (fun _ _ _ _ _ => (piTK K (pe_own oNeighboursOf (hr.mono (by decide)) (by rfl) (pa_cons (pv 0) (pa_cons (pv 3) pa_nil)))))
      (fun _ _ _ _ _ => (pg_name (i := 4) scPossibleSlides.nd rfl (Or.inl rfl)))
      (fun _ _ _ _ _ => pts_nil)
      (fun _ _ _ _ _ => (pe_tup (pa_cons (pv 3) (pa_cons (pv 4) pa_nil)))))
    (pss_one (ps_ret (pe_callTy (tupleK K) (by rfl) m_tuple (by decide +kernel) (pa_cons (pe_lc (own := [("u", 3), ("v", 4)]) (g := (gTup K 2 (gCons (gName 3) (gCons (gName 4) gNil)))) rfl scPossibleSlides.nd (piLK K (pv 2))
      (blkOk_by (own := [("u", 3), ("v", 4)]) (N := nPossibleSlides) (sc := (defScope sPossibleSlides)) (by decide +kernel))
      (fun _ _ _ _ _ => (pgTK K (pgs_cons (pg_name (i := 3) scPossibleSlides.nd rfl (Or.inl rfl)) (pgs_cons (pg_name (i := 4) scPossibleSlides.nd rfl (Or.inl rfl)) pgs_nil)))) (fun _ _ _ _ _ => (pts_one (pt_not (truthK K (pe_own oBlockingLamps (hr.mono (by decide)) (by rfl) (pa_cons (pv 0) (pa_cons (pv 1) (pa_cons (pv 3) (pa_cons (pv 4) pa_nil))))) (by intro _; rfl)))))
      (fun _ _ _ _ _ => (pe_tup (pa_cons (pv 3) (pa_cons (pv 4) pa_nil))))) pa_nil))))), ?_⟩
    refine ⟨.ref b, rfl, b, rfl, ⟨_, hb⟩, fun D nD => ?_⟩
    refine lc2_tup (K := K) (S := S) (nearL m es) (fun u v => prD (u, v)) nD hb (fun _ => rfl) (fun _ _ => rfl) (fun u _ H' R s1 hR => ?_) (fun u _ v _ H' R s1 hR => ?_) (fun u v => only_pr _) (by omega) (fun u _ => by have := nearL_len m es u; omega) (fun H2 ys s2 eD dy => ?_)
    · refine ⟨x, rfl, .int u, rfl, x, m, es, u, rfl, hm, isf, Dp.same s1 hx, fun H2 n s2 dn => ?_⟩
      obtain ⟨a, rfl, ha⟩ := Dp.intsI dn
      exact ⟨a, rfl, ⟨_, ha⟩, hR H2 a s2 ha⟩
    · refine ⟨.int u, rfl, .int v, rfl, by show 2 ≤ sizeLine; decide, fun t nt => hR _ _ (same_upd nt) (Dp.pr (SqT.of upd_same))⟩
    have e1 : (S.flatMap fun u => (nearL m es u).map fun v => prD (u, v)) = (stepsL m es S).map prD := by
      unfold stepsL
      rw [List.map_flatMap]
      congr 1
      funext u
      rw [List.map_map]
      rfl
    rw [e1] at dy
    have sl := steps_len m es S
    have sl2 : S.length * m ≤ 12 * 12 := Nat.mul_le_mul (by omega) hm
    refine ⟨.ref D, rfl, D, rfl, ⟨_, SqL.of eD⟩, fun C nC => ?_⟩
    refine lc_listP (K := K) (fun p => decide (oth m es S p.1 p.2 = [])) prD nC (SqL.of eD) dy (fun _ _ => rfl) (fun o _ H' R s3 hR => ?_) (fun o _ _ H' R s3 hR => ?_) only_pr (by omega) (fun H3 zs s3 eC dz => ?_)
    · have s23 := s2.trans s3
      refine ⟨x, rfl, .ref b, rfl, .int o.1, rfl, .int o.2, rfl, x, _, m, es, S, o.1, o.2, rfl, hm, isf, Dp.same s23 hx, Dp.same s23 hy, fun H4 z s4 dz => ?_⟩
      obtain ⟨c, rfl, hc⟩ := Dp.intsI dz
      refine ⟨_, .inr (.inl ⟨_, hc, rfl⟩), ?_⟩
      have h2 := hR H4 s4
      cases e : oth m es S o.1 o.2 with
      | nil =>
        rw [decide_eq_true e] at h2
        exact h2
      | cons z r =>
        rw [decide_eq_false (by rw [e]; exact fun z => nomatch z)] at h2
        exact h2
    · refine ⟨.int o.1, rfl, .int o.2, rfl, by show 2 ≤ sizeLine; decide, fun t nt => hR _ _ (same_upd nt) (Dp.pr (SqT.of upd_same))⟩
    refine ⟨C, zs, rfl, .inl ⟨SqL.of eC, fun t nt => ?_⟩⟩
    have st := same_upd (o := .tup zs) nt
    exact q _ _ ((s2.trans s3).trans st) (.tup (SqT.of upd_same) (DpAll.same st dz))
/-! ### rows of ints -/
theorem lay_intsD (ns : List Int) : (intsD ns).canLay0 = true := by
  simp only [intsD, PyData.canLay0, lay_ints]
theorem shaped_intT (ns : List Int) : SeqAt.shaped (intsD ns) = true := by
  unfold SeqAt.shaped
  simp only [intsD, PyData.canLay0, PyData.depth, lay_ints, dep_ints]
  decide
theorem eqv_ints : ∀ a b : List Int, PyData.eqvAll (a.map .int) (b.map .int) = decide (a = b)
  | [], [] => by simp [PyData.eqvAll]
  | [], b :: bs => by simp [PyData.eqvAll]
  | a :: as, [] => by simp [PyData.eqvAll]
  | a :: as, b :: bs => by
    have ih := eqv_ints as bs
    rw [List.map_cons, List.map_cons]
    simp only [PyData.eqvAll, PyData.eqv, ih]
    by_cases h1 : a = b
    · by_cases h2 : as = bs
      · subst h1 h2; simp
      · simp [h1, h2]
    · simp [h1]
theorem lay_rowsS : ∀ L : List (List Int), PyData.canLayAll0 (L.map intsD) = true
  | [] => by simp [PyData.canLayAll0]
  | r :: L => by
    have ih := lay_rowsS L
    rw [List.map_cons]
    simp only [PyData.canLayAll0, lay_intsD, ih, Bool.and_self]
theorem dep_rows : ∀ L : List (List Int), PyData.depthAll (L.map intsD) ≤ 3
  | [] => by simp [PyData.depthAll]
  | r :: L => by
    have ih := dep_rows L
    rw [List.map_cons]
    simp only [PyData.depthAll, intsD, PyData.depth, dep_ints]
    omega
theorem shaped_rows (L : List (List Int)) : SeqAt.shaped (.list (L.map intsD)) = true := by
  have h := dep_rows L
  unfold SeqAt.shaped
  simp only [PyData.canLay0, PyData.depth, lay_rowsS]
  simp
  omega
theorem only_rows : ∀ L : List (List Int), onlyAll (L.map intsD) = true
  | [] => rfl
  | r :: L => by
    rw [List.map_cons]
    unfold onlyAll
    rw [only_intsD, only_rows L]
    rfl
theorem eqv_rows_nil (L : List (List Int)) : PyData.eqv (.list (L.map intsD)) (.list []) = decide (L = []) := by
  cases L with
  | nil => simp [PyData.eqv, PyData.eqvAll]
  | cons n r => simp [PyData.eqv, PyData.eqvAll]
theorem any_rows (L : List (List Int)) (a : List Int) : (L.map intsD).any (fun z => PyData.eqv z (intsD a)) = decide (a ∈ L) := by
  rw [Bool.eq_iff_iff, List.any_map, List.any_eq_true, decide_eq_true_iff]
  constructor
  · rintro ⟨r, hr, e⟩
    have e : PyData.eqv (intsD r) (intsD a) = true := e
    simp only [intsD, PyData.eqv, eqv_ints, decide_eq_true_eq] at e
    exact e ▸ hr
  · intro h
    refine ⟨a, h, ?_⟩
    show PyData.eqv (intsD a) (intsD a) = true
    simp only [intsD, PyData.eqv, eqv_ints, decide_true]
theorem DpAll.snocI {H : Hp} {d : PyData} : ∀ {ds : List PyData} {vs : List V}, DpAll K H vs (ds ++ [d]) → ∃ us u, vs = us ++ [u] ∧ DpAll K H us ds ∧ Dp K H u d
  | [], _, .cons h .nil => ⟨[], _, rfl, .nil, h⟩
  | _ :: ds, _, .cons h a => by
    obtain ⟨us, u, rfl, h1, h2⟩ := DpAll.snocI a
    exact ⟨_ :: us, u, rfl, .cons h h1, h2⟩
/-! ### the search -/
structure Sr (m : Nat) (es : List (Int × Int)) (S : List Int) (L M : List (List Int)) (ok : List Int → Int → Int → Prop) : Prop where
  nd : L.Nodup
  has : S ∈ L
  rch : ∀ r ∈ L, Rch m es S r
  sub : ∀ r ∈ M, r ∈ L
  cl : ∀ r ∈ L, r ∉ M → ∀ u v, (u, v) ∈ slidesP m es r → ok r u v → after r u v ∈ L
  le : M.length ≤ L.length
theorem Sr.start (m : Nat) (es : List (Int × Int)) (S : List Int) (ok : List Int → Int → Int → Prop) : Sr m es S [S] [S] ok :=
  ⟨List.pairwise_singleton _ _, List.mem_singleton.mpr rfl, (fun r h => by rw [List.mem_singleton.mp h]; exact .refl), (fun _ h => h), (fun r h n => absurd h n), Nat.le_refl _⟩
theorem Sr.add {m : Nat} {es : List (Int × Int)} {S r : List Int} {L M : List (List Int)} {ok : List Int → Int → Int → Prop} (h : Sr m es S L M ok) (n : r ∉ L) (rr : Rch m es S r) : Sr m es S (L ++ [r]) (M ++ [r]) ok where
  nd := List.nodup_append.mpr ⟨h.nd, List.pairwise_singleton _ _, fun a ha b hb e => n (by rw [List.mem_singleton.mp hb] at e; exact e ▸ ha)⟩
  has := List.mem_append_left _ h.has
  rch := fun z hz => by
    rcases List.mem_append.mp hz with hz | hz
    · exact h.rch z hz
    · rw [List.mem_singleton.mp hz]; exact rr
  sub := fun z hz => by
    rcases List.mem_append.mp hz with hz | hz
    · exact List.mem_append_left _ (h.sub z hz)
    · exact List.mem_append_right _ hz
  cl := fun z hz nz u v p o => by
    rcases List.mem_append.mp hz with hz | hz
    · exact List.mem_append_left _ (h.cl z hz (fun w => nz (List.mem_append_left _ w)) u v p o)
    · exact absurd (List.mem_append_right _ hz) nz
  le := by
    rw [List.length_append, List.length_append]
    exact Nat.add_le_add_right h.le _
theorem Sr.more {m : Nat} {es : List (Int × Int)} {S : List Int} {L M : List (List Int)} {ok ok' : List Int → Int → Int → Prop} (h : Sr m es S L M ok) (n : ∀ z u v, (u, v) ∈ slidesP m es z → ok' z u v → ok z u v ∨ after z u v ∈ L) : Sr m es S L M ok' :=
  ⟨h.nd, h.has, h.rch, h.sub, (fun z hz nz u v p o => (n z u v p o).elim (h.cl z hz nz u v p) id), h.le⟩
theorem Sr.all {m : Nat} {es : List (Int × Int)} {S : List Int} {L : List (List Int)} (h : Sr m es S L [] (fun _ _ _ => True)) (r : List Int) : r ∈ L ↔ Rch m es S r := by
  refine ⟨h.rch r, fun k => ?_⟩
  induction k with
  | refl => exact h.has
  | step _ p ih => exact h.cl _ ih (fun z => nomatch z) _ _ p trivial
theorem Sr.few {m : Nat} {es : List (Int × Int)} {S : List Int} {L M : List (List Int)} {ok : List Int → Int → Int → Prop} (f : IsFor m es) (iss : IsSet m es S) (hm : m ≤ 8) (h : Sr m es S L M ok) : L.length ≤ 256 := by
  have h1 := sets_few h.nd fun r hr => ((h.rch r hr).both f iss).1
  have h2 : 2 ^ m ≤ 2 ^ 8 := Nat.pow_le_pow_right (by decide) hm
  have h3 : 2 ^ 8 = 256 := rfl
  omega
/-! ### settings as tracked tuples -/
theorem small5000 {n : Nat} (h : n ≤ 5000) : n < sizeLine := Nat.lt_of_le_of_lt h (by decide)
def TT (H H' : Hp) : Prop := ∀ b xs, H b = some (.tup xs) → H' b = some (.tup xs)
theorem Same.tt {H H' : Hp} (s : Same H H') : TT H H' := fun b xs e => s _ _ e
theorem TT.trans {H H' H'' : Hp} (a : TT H H') (b : TT H' H'') : TT H H'' := fun c xs e => b _ _ (a _ _ e)
theorem tt_lst {H : Hp} {a : Addr} {xs ys : List V} (h : H a = some (.lst xs)) : TT H (upd H a (.lst ys)) := fun b zs e => by
  rw [upd_ne fun z => by rw [z, h] at e; cases e]
  exact e
theorem tt_dT {H : Hp} {a : Addr} {xs ys : List (List Key × V)} (h : H a = some (.dT xs)) : TT H (upd H a (.dT ys)) := fun b zs e => by
  rw [upd_ne fun z => by rw [z, h] at e; cases e]
  exact e
theorem kt_dT {H : Hp} {a : Addr} {xs ys : List (List Key × V)} (h : H a = some (.dT xs)) : KT K H (upd H a (.dT ys)) := by
  intro b zs qh
  rcases qh with (qh | ⟨o, qh⟩) | qh
  · refine .inl (.inl ?_)
    rw [upd_ne fun y => by rw [y, h] at qh; cases qh]
    exact qh
  · refine .inl (.inr ⟨o, ?_⟩)
    rw [upd_ne fun y => by rw [y, h] at qh; cases qh]
    exact qh
  · exact .inr qh
inductive TrA (H : Hp) : List V → List (List Int) → Prop
  | nil : TrA H [] []
  | cons {b : Addr} {r : List Int} {ys : List V} {M : List (List Int)} : H b = some (.tup (r.map V.int)) → TrA H ys M → TrA H (.ref b :: ys) (r :: M)
theorem TrA.tt {H H' : Hp} (k : TT H H') : ∀ {ys : List V} {M : List (List Int)}, TrA H ys M → TrA H' ys M
  | _, _, .nil => .nil
  | _, _, .cons h t => .cons (k _ _ h) (t.tt k)
theorem TrA.snoc {H : Hp} {b : Addr} {r : List Int} (h : H b = some (.tup (r.map V.int))) : ∀ {ys : List V} {M : List (List Int)}, TrA H ys M → TrA H (ys ++ [.ref b]) (M ++ [r])
  | _, _, .nil => .cons h .nil
  | _, _, .cons g t => .cons g (t.snoc h)
theorem TrA.length {H : Hp} : ∀ {ys : List V} {M : List (List Int)}, TrA H ys M → ys.length = M.length
  | _, _, .nil => rfl
  | _, _, .cons _ t => congrArg (· + 1) t.length
theorem TrA.all {H : Hp} : ∀ {ys : List V} {M : List (List Int)}, TrA H ys M → DpAll K H ys (M.map intsD)
  | _, _, .nil => .nil
  | _, _, .cons h t => .cons (Dp.ints (SqT.of h)) t.all
theorem TrA.get {H : Hp} : ∀ {ys : List V} {M : List (List Int)} {i : Nat} {y : V}, TrA H ys M → ys[i]? = some y → ∃ b r, y = .ref b ∧ M[i]? = some r ∧ H b = some (.tup (r.map V.int))
  | _, _, 0, _, .cons h t, e => by
    rw [List.getElem?_cons_zero] at e
    cases e
    exact ⟨_, _, rfl, rfl, h⟩
  | _, _, i + 1, _, .cons h t, e => by
    rw [List.getElem?_cons_succ] at e
    obtain ⟨b, r, e1, e2, e3⟩ := t.get e
    exact ⟨b, r, e1, by rw [List.getElem?_cons_succ]; exact e2, e3⟩
  | _, _, _, _, .nil, e => by simp at e
theorem dgetT {H : Hp} {G b : Addr} {kvs : List (List Key × V)} {r : List Int} (eG : H G = some (.dT kvs)) (eb : H b = some (.tup (r.map V.int))) : DGet H G (.ref b) (valV kvs (kI r)) := DGet.t eG (by rw [kI_kV]; exact eb)
theorem dputT {H : Hp} {G b : Addr} {kvs : List (List Key × V)} {r : List Int} {v : V} (eG : H G = some (.dT kvs)) (eb : H b = some (.tup (r.map V.int))) (hl : kvs.length < sizeLine) : DPut H G (.ref b) v (upd H G (.dT (putK kvs (kI r) v))) := DPut.t eG (by rw [kI_kV]; exact eb) hl
theorem Sr.few12 {m : Nat} {es : List (Int × Int)} {S : List Int} {L M : List (List Int)} {ok : List Int → Int → Int → Prop} (f : IsFor m es) (iss : IsSet m es S) (hm : m ≤ 12) (h : Sr m es S L M ok) : L.length ≤ 4096 := by
  have h1 := sets_few h.nd fun r hr => ((h.rch r hr).both f iss).1
  have h2 : 2 ^ m ≤ 2 ^ 12 := Nat.pow_le_pow_right (by decide) hm
  have h3 : 2 ^ 12 = 4096 := rfl
  omega
end
end TL
namespace TL
open PySem PySem.Spec PyProof.Rows L2
section
variable {P : Program} {w : World} {K : PySem.W.Frag} {mg : Str → Option Value} {base : Heap}
/-! ### a dict of rows and numbers -/
def KN (kvs : List (List Key × V)) (P : List (List Int × Nat)) : Prop := kvs = P.map fun p => (kI p.1, V.int (p.2 : Int))
theorem KN.kd {kvs : List (List Key × V)} {P : List (List Int × Nat)} (h : KN kvs P) : KD kvs (P.map Prod.fst) := by
  rw [show kvs = _ from h]
  refine ⟨by rw [List.map_map, List.map_map]; rfl, fun kv hkv => ?_⟩
  obtain ⟨p, _, rfl⟩ := List.mem_map.mp hkv
  exact ⟨_, rfl⟩
theorem KN.val {kvs : List (List Key × V)} {P : List (List Int × Nat)} (h : KN kvs P) {r : List Int} (m : r ∈ P.map Prod.fst) : ∃ n, (r, n) ∈ P ∧ valV kvs (kI r) = some (.int (n : Int)) := by
  rw [show kvs = _ from h]
  clear h
  induction P with
  | nil => exact nomatch m
  | cons p P ih =>
    rw [List.map_cons]
    by_cases e : p.1 = r
    · subst e
      exact ⟨p.2, List.mem_cons_self, by rw [valV_pos rfl]⟩
    · have e' : ¬ kI p.1 = kI r := fun z => e (kI_inj z)
      rw [List.map_cons] at m
      obtain ⟨n, h1, h2⟩ := ih ((List.mem_cons.mp m).resolve_left fun z => e z.symm)
      exact ⟨n, List.mem_cons_of_mem _ h1, by rw [valV_neg e']; exact h2⟩
theorem KN.put {kvs : List (List Key × V)} {P : List (List Int × Nat)} (h : KN kvs P) {r : List Int} (n : r ∉ P.map Prod.fst) {i : Int} {k : Nat} (hi : i = (k : Int)) : KN (putK kvs (kI r) (.int i)) (P ++ [(r, k)]) := by
  have e : valV kvs (kI r) = none := by
    rcases h.kd.val r with ⟨m, _⟩ | ⟨_, e⟩
    · exact absurd m n
    · exact e
  rw [putK_new _ e, hi]
  unfold KN at h ⊢
  rw [List.map_append, ← h]
  rfl
theorem KN.one (r : List Int) : KN [(kI r, .int 0)] [(r, 0)] := rfl
/-! ### the program: distances, the class -/
def spDistancesFrom (K : PySem.W.Frag) : Sp := fun vs H Q _ => ∃ (x : V) (t : Addr) (m : Nat) (es : List (Int × Int)) (S : List Int), vs = [x, .ref t] ∧ m ≤ 12 ∧ IsFor m es ∧ Dp K H x (forD m es) ∧ H t = some (.tup (S.map V.int)) ∧ IsSet m es S ∧
  ∀ (H' : Hp) (G : Addr) (kvs : List (List Key × V)) (PP : List (List Int × Nat)), Same H H' → H' G = some (.dT kvs) → KN kvs PP → (PP.map Prod.fst).Nodup → (∀ r, r ∈ PP.map Prod.fst ↔ Rch m es S r) → (∀ p ∈ PP, Dst m es S p.2 p.1) → (PP.map Prod.fst).length ≤ 4096 → Q (.ref G) H'
theorem ok_DistancesFrom {f : Addr} {fd : FuncData} (F : Fun K "distances_from" "distances_from" sDistancesFrom f fd)
    (oPossibleSlides : Own P w K mg base "possible_slides" 3 ["forest", "setting"] (spPossibleSlides K)) (oSlideLamp : Own P w K mg base "slide_lamp" 3 ["forest", "setting", "u", "v"] (spSlideLamp K)) :
    FnOk P w K mg base CX0 4 f fd ["forest", "setting"] (spDistancesFrom K) := by
  refine F.ok scDistancesFrom (fun vs H Q E h => ?_) (fun cdv A outer s H vs Q E hr h => ?_)
  · obtain ⟨x, t, m, es, S, rfl, _⟩ := h
    rfl
  · obtain ⟨x, t, m, es, S, rfl, hm, isf, hx, ht, iss, q⟩ := h
    refine ⟨_, (pss_cons (ps_set (i := 2) scDistancesFrom.nd rfl (.inl rfl) (pe_disp1T (hu_of hr) (pv 1) pe_int))
    (pss_cons (ps_set (i := 3) scDistancesFrom.nd rfl (.inl rfl) (pe_lst (pa_cons (pv 1) pa_nil)))
    (pss_cons (ps_while PassesOwn.never (truthK K (pv 3) (by intro _; rfl)) (pss_cons (ps_set (i := 4) scDistancesFrom.nd rfl (.inl rfl) (bmK K PySem.F.plainAttrs_list PySem.F.slot_list_pop PySem.F.type_list_pop mt_popAt (pv 3) (pa_cons pe_int pa_nil)))
    (pss_one (ps_for PassesOwn.never rfl (piTK K (pe_own oPossibleSlides (hr.mono (by decide)) (by rfl) (pa_cons (pv 0) (pa_cons (pv 4) pa_nil)))) (pgTK K (pgs_cons (pg_name (i := 5) scDistancesFrom.nd rfl (Or.inl rfl)) (pgs_cons (pg_name (i := 6) scDistancesFrom.nd rfl (Or.inl rfl)) pgs_nil)))
    (pss_cons (ps_set (i := 7) scDistancesFrom.nd rfl (.inl rfl) (pe_own oSlideLamp (hr.mono (by decide)) (by rfl) (pa_cons (pv 0) (pa_cons (pv 4) (pa_cons (pv 5) (pa_cons (pv 6) pa_nil))))))
    (pss_one (ps_if (pt_cmp (pc_dnotin (hu_of hr) (pv 7) (pv 2))) (pss_cons (ps_dput (hu_of hr) (pv 2) (pv 7) (pe_op op_add (pe_dget (hu_of hr) (pv 2) (pv 4) (fun _ _ => rfl)) pe_int) rfl)
    (pss_one (ps_expr (bmK K PySem.F.plainAttrs_list PySem.F.slot_list_append PySem.F.type_list_append mt_append (pv 3) (pa_cons (pv 7) pa_nil))))) pss_nil)))))))
    (pss_one (ps_ret (pv 2)))))), ?_⟩
    refine fun G nG => ?_
    have ntG : t ≠ G := ne_of_none ht nG
    refine ⟨.ref t, rfl, t, kI S, .int 0, rfl, upd_same, ?_, ?_⟩
    · rw [upd_ne ntG, kI_kV]
      exact ht
    have s0 : Same H (upd (upd H G (.dT [])) G (.dT [(kI S, .int 0)])) := fun h o eh => by
      rw [upd_ne (ne_of_none eh nG), upd_ne (ne_of_none eh nG)]
      exact eh
    have eG0 : (upd (upd H G (.dT [])) G (.dT [(kI S, .int 0)])) G = some (.dT [(kI S, .int 0)]) := upd_same
    generalize upd (upd H G (.dT [])) G (.dT [(kI S, .int 0)]) = H0 at s0 eG0 ⊢
    refine ⟨.ref t, rfl, by show 1 ≤ sizeLine; decide, fun W nW => ?_⟩
    have sW := same_upd (o := .lst [V.ref t]) nW
    have eW0 := same_at (o := .lst [V.ref t]) nW
    have nGW : G ≠ W := ne_of_none eG0 nW
    have nHW : H W = none := s0.free nW
    have tr0 : TrA (upd H0 W (.lst [V.ref t])) [V.ref t] [S] := .cons (sW _ _ (s0 _ _ ht)) .nil
    refine while_ms (fun n σ H' => ∃ (y4 y5 y6 y7 : Option V) (kvs : List (List Key × V)) (ys : List V) (PP : List (List Int × Nat)) (M AA BB : List (List Int)) (dd : Nat), σ = [some x, some (.ref t), some (.ref G), some (.ref W), y4, y5, y6, y7] ∧ Same H H' ∧ H' G = some (.dT kvs) ∧ KN kvs PP ∧ H' W = some (.lst ys) ∧ TrA H' ys M ∧ Sr m es S (PP.map Prod.fst) M (fun _ _ _ => True) ∧ M = AA ++ BB ∧ Bf m es S PP AA BB dd ∧ n = 2 * (4096 - (PP.map Prod.fst).length) + M.length) _
      ⟨_, _, _, _, _, _, [(S, 0)], [S], [S], [], 0, rfl, s0.trans sW, sW _ _ eG0, KN.one S, eW0, tr0, Sr.start m es S _, rfl, Bf.start m es S, rfl⟩ ?_ ?_
    · rintro n σ H1 ⟨y4, y5, y6, y7, kvs, ys, PP, M, AA, BB, dd, rfl, s1, eG, kd, eW, tr, sr, hM, bf, rfl⟩
      refine ⟨.ref W, rfl, _, .inl ⟨_, SqL.of eW, rfl⟩, ?_⟩
      cases tr with
      | nil => exact iteF ⟨.ref G, rfl, q H1 G kvs PP s1 eG kd sr.nd sr.all bf.dst (sr.few12 isf iss hm)⟩
      | @cons rb r ys0 M0 hrb tr0 =>
        refine iteT ⟨.ref W, rfl, .inl ⟨rfl, _, SqL.of eW⟩, W, _, 0, 0, .ref rb, rfl, rfl, eW, by decide, by decide, by simp [seqIndex?], rfl, ?_⟩
        obtain ⟨A', B', d', hM', bf'⟩ : ∃ A' B' d', M0 = A' ++ B' ∧ Bf m es S PP (r :: A') B' d' := by
          cases AA with
          | nil =>
            have e : BB = r :: M0 := hM.symm
            subst e
            exact ⟨M0, [], dd + 1, (List.append_nil _).symm, bf.shift fun z hz nz u v p => sr.cl z hz nz u v p trivial⟩
          | cons a A0 =>
            rw [List.cons_append] at hM
            injection hM with e1 e2
            subst e1
            exact ⟨A0, BB, dd, e2, bf⟩
        subst hM'
        have hdr : Dst m es S d' r := bf'.lo r List.mem_cons_self
        have rL : r ∈ PP.map Prod.fst := sr.sub r List.mem_cons_self
        have rr := sr.rch r rL
        have isr := (rr.both isf iss).1
        have lr := isr.len
        have e0 : List.eraseIdx (V.ref rb :: ys0) 0 = ys0 := rfl
        rw [e0]
        have s2 : Same H (upd H1 W (.lst ys0)) := fun h o eh => by
          rw [upd_ne (ne_of_none eh nHW)]
          exact s1 _ _ eh
        have eG2 : (upd H1 W (.lst ys0)) G = some (.dT kvs) := by rw [upd_ne nGW]; exact eG
        have eW2 : (upd H1 W (.lst ys0)) W = some (.lst ys0) := upd_same
        have hrb2 := tt_lst (ys := ys0) eW _ _ hrb
        have tr2 := tr0.tt (tt_lst (ys := ys0) eW)
        generalize upd H1 W (.lst ys0) = H2 at s2 eG2 eW2 hrb2 tr2 ⊢
        have sr0 : Sr m es S (PP.map Prod.fst) (A' ++ B') (fun z u v => z = r → (u, v) ∈ (slidesP m es r).take 0) := ⟨sr.nd, sr.has, sr.rch, fun z hz => sr.sub z (List.mem_cons_of_mem _ hz), (fun z hz nz u v p o => sr.cl z hz (fun w => by
          rcases List.mem_cons.mp w with w | w
          · exact nomatch o w
          · exact nz w) u v p trivial), by
          have := sr.le
          rw [List.length_cons] at this
          omega⟩
        refine ⟨x, rfl, .ref rb, rfl, x, .ref rb, m, es, r, rfl, hm, isf, Dp.same s2 hx, Dp.ints (SqT.of hrb2), isr, fun H3 z s3 dz => ?_⟩
        obtain ⟨pa, xs, rfl, hpa, dA⟩ := Dp.tupI dz
        have xl : xs.length = (slidesP m es r).length := by rw [DpAll.length dA, List.length_map]
        refine ⟨pa, rfl, ⟨_, hpa⟩, for_tup (K := K) (a := pa) (xs := xs) (fun j σ H' => ∃ (y5 y6 y7 : Option V) (kvs : List (List Key × V)) (ys : List V) (PP' : List (List Int × Nat)) (B'' : List (List Int)), σ = [some x, some (.ref t), some (.ref G), some (.ref W), some (.ref rb), y5, y6, y7] ∧ Same H H' ∧ H' rb = some (.tup (r.map V.int)) ∧ KT K H3 H' ∧ H' G = some (.dT kvs) ∧ KN kvs PP' ∧ H' W = some (.lst ys) ∧ TrA H' ys (A' ++ B'') ∧
          Sr m es S (PP'.map Prod.fst) (A' ++ B'') (fun z u v => z = r → (u, v) ∈ (slidesP m es r).take j) ∧ Bf m es S PP' A' B'' d' ∧ 2 * (4096 - (PP'.map Prod.fst).length) + (A' ++ B'').length ≤ 2 * (4096 - (PP.map Prod.fst).length) + (A' ++ B').length ∧ r ∈ PP'.map Prod.fst) ?_ ?_ ?_ ?_⟩
        · exact ⟨_, _, _, kvs, ys0, PP, B', rfl, s2.trans s3, s3 _ _ hrb2, Same.kt (Same.refl _), s3 _ _ eG2, kd, s3 _ _ eW2, tr2.tt (Same.tt s3), sr0, bf'.pop, Nat.le_refl _, rL⟩
        · rintro j σ H' _ ⟨y5, y6, y7, kvs, ys, PP', B'', rfl, _, _, kt, _⟩
          exact kt _ _ hpa
        · rintro j y σ H4 hy ⟨y5, y6, y7, kvs, ys, PP', B'', rfl, s4, hrb4, kt4, eG4, kd4, eW4, tr4, sr4, bf4, ms4, rL4⟩
          obtain ⟨dd, hd, dp⟩ := DpAll.get dA hy
          rw [List.getElem?_map] at hd
          obtain ⟨⟨u, v⟩, hp, rfl⟩ := Option.map_eq_some_iff.mp hd
          obtain ⟨pp, rfl, hpp⟩ := Dp.prI dp
          have sl := List.mem_of_getElem? hp
          obtain ⟨mu, mv, ho⟩ := mem_slidesP.mp sl
          have tk : (slidesP m es r).take (j + 1) = (slidesP m es r).take j ++ [(u, v)] := by rw [List.take_add_one, hp]; rfl
          refine ⟨pp, _, rfl, kt4 _ _ hpp, rfl, _, _, rfl, _, _, rfl, rfl, ?_⟩
          refine ⟨x, rfl, .ref rb, rfl, .int u, rfl, .int v, rfl, x, .ref rb, m, es, r, u, v, rfl, hm, isf, Dp.same s4 hx, Dp.ints (SqT.of hrb4), isr, mu, mv, ho, fun H5 t5 s5 e5 => ?_⟩
          have eG5 := s5 _ _ eG4
          have eW5 := s5 _ _ eW4
          have hrb5 := s5 _ _ hrb4
          have tr5 := tr4.tt (Same.tt s5)
          have kt5 := kt4.trans (Same.kt s5)
          have s05 := s4.trans s5
          have nxt : ∀ {L' M' : List (List Int)}, Sr m es S L' M' (fun z a b => z = r → (a, b) ∈ (slidesP m es r).take j) → after r u v ∈ L' → Sr m es S L' M' (fun z a b => z = r → (a, b) ∈ (slidesP m es r).take (j + 1)) := fun h n => h.more fun z a b p ok => by
            by_cases e : z = r
            · subst e
              have w := ok rfl
              rw [tk] at w
              rcases List.mem_append.mp w with w | w
              · exact .inl fun _ => w
              · cases List.mem_singleton.mp w
                exact .inr n
            · exact .inl fun w => absurd w e
          refine ⟨.ref t5, rfl, .ref G, rfl, G, _, rfl, dgetT eG5 e5, _, rfl, ?_⟩
          rcases kd4.kd.val (after r u v) with ⟨hin, i, hi⟩ | ⟨hin, hi⟩
          · rw [hi]
            exact iteF ⟨_, _, _, kvs, ys, PP', B'', rfl, s05, hrb5, kt5, eG5, kd4, eW5, tr5, nxt sr4 hin, bf4, ms4, rL4⟩
          · rw [hi]
            have lL := sr4.few12 isf iss hm
            have sr9 := sr4.add hin (Rch.step rr sl)
            have lL9 := sr9.few12 isf iss hm
            rw [List.length_append, List.length_singleton] at lL9
            have ml := sr4.le
            have yl := tr5.length
            rw [List.length_append] at yl
            obtain ⟨i, hi1, hi2⟩ := kd4.val rL4
            obtain rfl : i = d' := (bf4.dst _ hi1).uniq hdr
            rw [List.append_assoc] at sr9
            rw [List.length_append] at ml ms4
            refine iteT ⟨.ref G, rfl, .ref rb, rfl, G, .int (i : Int), rfl, by rw [← hi2]; exact dgetT eG5 hrb5, _, _, rfl, rfl, .ref G, rfl, .ref t5, rfl, G, _, rfl, dputT eG5 e5 (by rw [kd4.kd.len]; exact small5000 (by omega)), ?_⟩
            have kt6 : KT K H5 (upd H5 G (.dT (putK kvs (kI (after r u v)) (.int ((i : Int) + 1))))) := kt_dT eG5
            have tt6 : TT H5 (upd H5 G (.dT (putK kvs (kI (after r u v)) (.int ((i : Int) + 1))))) := tt_dT eG5
            have eG6 : (upd H5 G (.dT (putK kvs (kI (after r u v)) (.int ((i : Int) + 1))))) G = some (.dT (putK kvs (kI (after r u v)) (.int ((i : Int) + 1)))) := upd_same
            have eW6 : (upd H5 G (.dT (putK kvs (kI (after r u v)) (.int ((i : Int) + 1))))) W = some (.lst ys) := by rw [upd_ne nGW.symm]; exact eW5
            have s6 : Same H (upd H5 G (.dT (putK kvs (kI (after r u v)) (.int ((i : Int) + 1))))) := fun h o eh => by
              rw [upd_ne (ne_of_none eh nG)]
              exact s05 _ _ eh
            generalize upd H5 G (.dT (putK kvs (kI (after r u v)) (.int ((i : Int) + 1)))) = H6 at kt6 tt6 eG6 eW6 s6 ⊢
            refine ⟨.ref W, rfl, .inl ⟨rfl, _, SqL.of eW6⟩, .ref t5, rfl, W, _, .ref t5, rfl, rfl, eW6, small5000 (by omega), ?_⟩
            have tt7 : TT H6 (upd H6 W (.lst (ys ++ [V.ref t5]))) := tt_lst eW6
            have tt57 := tt6.trans tt7
            refine ⟨_, _, _, _, _, PP' ++ [(after r u v, i + 1)], B'' ++ [after r u v], rfl, fun h o eh => ?_, tt57 _ _ hrb5, (kt5.trans kt6).trans (kt_lst eW6), by rw [upd_ne nGW]; exact eG6, kd4.put hin (by omega), upd_same, by rw [← List.append_assoc]; exact (tr5.tt tt57).snoc (tt57 _ _ e5), by rw [List.map_append]; exact nxt sr9 (List.mem_append_right _ (List.mem_singleton.mpr rfl)), bf4.new hdr sl hin, ?_, by rw [List.map_append]; exact List.mem_append_left _ rL4⟩
            · rw [upd_ne (ne_of_none eh nHW)]
              exact s6 _ _ eh
            · rw [List.map_append, List.length_append, List.length_append, List.length_append, List.length_append]
              show 2 * (4096 - ((PP'.map Prod.fst).length + 1)) + (A'.length + (B''.length + 1)) ≤ _
              rw [List.length_append] at ms4
              omega
        · rintro σ H4 ⟨y5, y6, y7, kvs, ys, PP', B'', rfl, s4, hrb4, kt4, eG4, kd4, eW4, tr4, sr4, bf4, ms4, _⟩
          rw [xl, List.take_length] at sr4
          refine ⟨_, ?_, _, _, _, _, kvs, ys, PP', _, A', B'', d', rfl, s4, eG4, kd4, eW4, tr4, sr4.more fun z a b p _ => .inl fun e => by rw [← e]; exact p, rfl, bf4, rfl⟩
          rw [List.length_cons]
          omega
    · rintro σ H' Q1 Q2 hQ ⟨v, e, k, tr, h⟩
      exact ⟨v, e, k, tr, hQ _ _ h⟩
theorem Rch.len {m : Nat} {es : List (Int × Int)} {S T : List Int} (f : IsFor m es) (iss : IsSet m es S) (h : Rch m es S T) : T.length = S.length := by
  induction h with
  | refl => rfl
  | @step T u v h p ih =>
    have iT := (h.both f iss).1
    have mu := (mem_slidesP.mp p).1
    rw [← ih]
    unfold after
    rw [srtI_length, List.length_append, List.length_singleton]
    have nd := iT.asc.nodup
    have : (T.filter fun l => !decide (l = u)) = T.erase u := by
      rw [nd.erase_eq_filter]
      refine List.filter_congr fun l _ => ?_
      by_cases e : l = u <;> simp [e]
    rw [this, List.length_erase_of_mem mu]
    have := List.length_pos_of_mem mu
    omega
theorem rows_ok {m : Nat} {es : List (Int × Int)} {S : List Int} {L : List (List Int)} (f : IsFor m es) (iss : IsSet m es S) (nd : L.Nodup) (h : ∀ r, r ∈ L ↔ Rch m es S r) : (∀ b ∈ L, b ≠ []) ∨ L.length ≤ 1 := by
  cases S with
  | nil =>
    right
    match L, nd, h with
    | [], _, _ => exact Nat.zero_le _
    | [_], _, _ => exact Nat.le_refl _
    | a :: b :: L, nd, h =>
      have e1 := Rch.len f iss ((h a).mp List.mem_cons_self)
      have e2 := Rch.len f iss ((h b).mp (List.mem_cons_of_mem _ List.mem_cons_self))
      have : a = b := by rw [List.length_eq_zero_iff.mp e1, List.length_eq_zero_iff.mp e2]
      exact absurd (by rw [this]; exact List.mem_cons_self) (List.nodup_cons.mp nd).1
  | cons s S =>
    left
    intro b hb e
    have := Rch.len f iss ((h b).mp hb)
    rw [e] at this
    cases this
end
end TL
namespace TL
open PySem PySem.Spec PyProof.Rows L2
section
variable {P : Program} {w : World} {K : PySem.W.Frag} {mg : Str → Option Value} {base : Heap}
/-! ### neighbours by the law -/
def spLNear (K : PySem.W.Frag) : Sp := fun vs H Q _ => ∃ (x : V) (m : Nat) (es : List (Int × Int)) (v : Int), vs = [x, .int v] ∧ m ≤ 13 ∧ IsFor m es ∧ Dp K H x (forD m es) ∧
  ∀ (H' : Hp) (D : Addr), Same H H' → H D = none → H' D = some (.lst ((nearL m es v).map V.int)) → Q (.ref D) H'
theorem near_eq {m : Nat} {es : List (Int × Int)} (f : IsFor m es) (v : Int) : (es.filter fun p => decide (v = p.1) || decide (v = p.2)).map (fun p => p.1 + p.2 - v) = nearL m es v := by
  refine asc_ext ?_ (nearL_asc m es v) fun o => ?_
  · refine List.pairwise_map.mpr ((List.Pairwise.and_mem.mp (f.asc.filter _)).imp ?_)
    rintro p q ⟨hp, hq, h⟩
    obtain ⟨p1, p2⟩ := List.mem_filter.mp hp
    obtain ⟨q1, q2⟩ := List.mem_filter.mp hq
    have rp := f.rng p p1
    have rq := f.rng q q1
    rw [Bool.or_eq_true, decide_eq_true_eq, decide_eq_true_eq] at p2 q2
    rcases h with h | h <;> omega
  · rw [List.mem_map, mem_nearL, f.mem_ord]
    constructor
    · rintro ⟨p, hp, rfl⟩
      obtain ⟨p1, p2⟩ := List.mem_filter.mp hp
      have rp := f.rng p p1
      rw [Bool.or_eq_true, decide_eq_true_eq, decide_eq_true_eq] at p2
      rcases p2 with rfl | rfl
      · refine ⟨by omega, .inr ?_⟩
        rw [show p.1 + p.2 - p.1 = p.2 by omega]
        exact p1
      · refine ⟨by omega, .inl ?_⟩
        rw [show p.1 + p.2 - p.2 = p.1 by omega]
        exact p1
    · rintro ⟨_, h | h⟩
      · exact ⟨(o, v), List.mem_filter.mpr ⟨h, by simp⟩, by show o + v - v = o; omega⟩
      · exact ⟨(v, o), List.mem_filter.mpr ⟨h, by simp⟩, by show v + o - v = o; omega⟩
theorem inV_two (v a b : Int) : inV (.int v) [V.int a, V.int b] = (decide (v = a) || decide (v = b)) := by
  have := inV_ints v [a, b]
  rw [show [V.int a, V.int b] = [a, b].map V.int from rfl, this]
  by_cases h1 : v = a
  · simp [h1]
  · by_cases h2 : v = b <;> simp [h1, h2]
theorem ok_LNear {f : Addr} {fd : FuncData} {k : Nat} (F : Fun K "_law_near" "_law_near" sLNear f fd) :
    FnOk P w K mg base CX0 (k + 1) f fd ["_law_forest_here", "_law_vertex"] (spLNear K) := by
  refine F.ok scLNear (fun vs H Q E h => ?_) (fun cdv A outer s H vs Q E hr h => ?_)
  · obtain ⟨x, m, es, v, rfl, _⟩ := h
    rfl
  · obtain ⟨x, m, es, v, rfl, hm, isf, hx, q⟩ := h
    obtain ⟨a, b, xs, rfl, ha, hb, hA⟩ := Dp.forI hx
    have ec := isf.count
    refine ⟨_, (pss_one (ps_ret (pe_lc (own := [("_law_a", 2), ("_law_b", 3)]) (g := (gTup K 2 (gCons (gName 2) (gCons (gName 3) gNil)))) rfl scLNear.nd (piTK K (pe_ix (ixTK K) (pv 0) pe_int (fun _ _ => rfl)))
      (blkOk_by (own := [("_law_a", 2), ("_law_b", 3)]) (N := nLNear) (sc := (defScope sLNear)) (by decide +kernel))
      (fun _ _ _ _ _ => (pgTK K (pgs_cons (pg_name (i := 2) scLNear.nd rfl (Or.inl rfl)) (pgs_cons (pg_name (i := 3) scLNear.nd rfl (Or.inl rfl)) pgs_nil)))) (fun _ _ _ _ _ => (pts_one (pt_cmpR (inK K) (pv 1) (pe_tup (pa_cons (pv 2) (pa_cons (pv 3) pa_nil))) (by rfl))))
      (fun _ _ _ _ _ => (pe_op op_sub (pe_op op_add (pv 2) (pv 3)) (pv 1)))))), ?_⟩
    refine ⟨.ref a, rfl, a, _, 1, .ref b, rfl, rfl, ha, atI_nat (j := 1) rfl, b, rfl, ⟨_, hb⟩, fun D nD => ?_⟩
    refine lc_tupP (K := K) (fun p => decide (v = p.1) || decide (v = p.2)) (fun p => .int (p.1 + p.2 - v)) nD hb hA (fun _ _ => rfl) (fun o _ H' R s1 hR => ?_) (fun o _ _ H' R s1 hR => ?_) (fun o => only_int _) (by omega) (fun H2 ys s2 eD dy => ?_)
    · refine ⟨.int v, rfl, .int o.1, rfl, .int o.2, rfl, by show 2 ≤ sizeLine; decide, fun t nt => ⟨t, _, rfl, .inr (SqT.of upd_same), rfl, flat_ints [o.1, o.2], _, rfl, ?_⟩⟩
      show R (if false = true then _ else inV (V.int v) [V.int o.1, V.int o.2]) _
      rw [if_neg Bool.false_ne_true, inV_two]
      exact hR _ (same_upd nt)
    · exact ⟨.int o.1, rfl, .int o.2, rfl, _, _, rfl, rfl, .int v, rfl, _, _, rfl, rfl, hR H' _ (Same.refl _) (.int _)⟩
    have e1 : ys = (nearL m es v).map V.int := by
      rw [← near_eq isf v]
      exact DpAll.ints (by rw [List.map_map]; exact dy)
    subst e1
    exact q _ D s2 nD eD
/-! ### setting -/
theorem set_grow {m : Nat} {es : List (Int × Int)} (f : IsFor m es) {S : List Int} {v : Int} (hS : ∀ u ∈ S, ∀ z ∈ S, ordP u z ∉ es) (hr : ∀ u ∈ S, 0 ≤ u ∧ u < m)
    (hv : (nearL m es v).filter (fun o => decide (o ∈ S)) = []) : ∀ u ∈ S ++ [v], ∀ z ∈ S ++ [v], ordP u z ∉ es := by
  have key : ∀ u ∈ S, ordP u v ∉ es := fun u hu h => by
    have : u ∈ (nearL m es v).filter (fun o => decide (o ∈ S)) := List.mem_filter.mpr ⟨mem_nearL.mpr ⟨hr u hu, h⟩, decide_eq_true hu⟩
    rw [hv] at this
    cases this
  intro u hu z hz
  rcases List.mem_append.mp hu with h1 | h1
  · rcases List.mem_append.mp hz with h2 | h2
    · exact hS u h1 z h2
    · rw [List.mem_singleton.mp h2]
      exact key u h1
  · rw [List.mem_singleton.mp h1]
    rcases List.mem_append.mp hz with h2 | h2
    · rw [ordP_comm]
      exact key z h2
    · rw [List.mem_singleton.mp h2]
      intro h
      have := f.rng _ h
      unfold ordP at this
      rw [if_pos (Int.le_refl _)] at this
      simp only at this
      omega
def spLSetting (K : PySem.W.Frag) : Sp := fun vs H Q _ => ∃ (d r c : Addr) (n : Nat) (x : V) (m : Nat) (es : List (Int × Int)), vs = [.ref d, x] ∧ Dw H d r c n ∧ n < 800000 ∧ m ≤ 12 ∧ IsFor m es ∧ Dp K H x (forD m es) ∧
  ∀ (H' : Hp) (t : Addr) (S : List Int), Fm d r H H' → Dw H' d r c (n + 30) → IsSet m es S → H t = none → H' t = some (.tup (S.map V.int)) → Q (.ref t) H'
theorem ok_LSetting {f : Addr} {fd : FuncData} (F : Fun K "_law_setting" "_law_setting" sLSetting f fd) (m_list : mg "list" = none) (m_range : mg "range" = none) (m_tuple : mg "tuple" = none) (m_sorted : mg "sorted" = none) (m_len : mg "len" = none)
    (oLNext : Own P w K mg base "_law_next" 1 ["_law_state", "_law_many"] spLNext) (oLShuffled : Own P w K mg base "_law_shuffled" 2 ["_law_state", "_law_items"] (spLShuffled K))
    (oLNear : Own P w K mg base "_law_near" 1 ["_law_forest_here", "_law_vertex"] (spLNear K)) :
    FnOk P w K mg base CX0 3 f fd ["_law_state", "_law_forest_here"] (spLSetting K) := by
  refine F.ok scLSetting (fun vs H Q E h => ?_) (fun cdv A outer s H vs Q E hr h => ?_)
  · obtain ⟨d, r, c, n, x, m, es, rfl, _⟩ := h
    rfl
  · obtain ⟨d, r, c, n, x, m, es, rfl, hD, hn, hm, isf, hx, q⟩ := h
    refine ⟨_, (pss_cons (ps_asg (pe_tup (pa_cons (pe_ix (ixLK K) (pe_lst (pa_cons pe_int (pa_cons pe_int (pa_cons pe_int pa_nil)))) (pe_own oLNext (hr.mono (by decide)) (by rfl) (pa_cons (pv 0) (pa_cons pe_int pa_nil))) (fun _ _ => rfl)) (pa_cons (pe_lst pa_nil) pa_nil))) (pgTK K (pgs_cons (pg_name (i := 2) scLSetting.nd rfl (Or.inl rfl)) (pgs_cons (pg_name (i := 3) scLSetting.nd rfl (Or.inr rfl)) pgs_nil))))
    (pss_cons (ps_for PassesOwn.never rfl (piLK K (pe_own oLShuffled (hr.mono (by decide)) (by rfl) (pa_cons (pv 0) (pa_cons (pe_listRg rfl (by rfl) m_list (prg_1 (by rfl) m_range (pe_ix (ixTK K) (pv 1) pe_int (fun _ _ => rfl)))) pa_nil)))) (pg_name (i := 4) scLSetting.nd rfl (Or.inl rfl))
    (pss_cons (ps_set (i := 5) scLSetting.nd rfl (.inl rfl) (pe_own oLNear (hr.mono (by decide)) (by rfl) (pa_cons (pv 1) (pa_cons (pv 4) pa_nil))))
    (pss_one (ps_if (PW.pt (pw_and (pt_cmpR op_lt (pe_callB (lenK K) (by rfl) m_len (by decide +kernel) (pa_cons (pv 3) pa_nil)) (pv 2) (nomark _)) (pw_and1 (pt_cmpR (eqDK K hr.units) (pe_lc (own := [("_law_lamp", 6)]) (g := (gName 6)) rfl scLSetting.nd (piLK K (pv 5))
      (blkOk_by (own := [("_law_lamp", 6)]) (N := nLSetting) (sc := (defScope sLSetting)) (by decide +kernel))
      (fun _ _ _ _ _ => (pg_name (i := 6) scLSetting.nd rfl (Or.inl rfl))) (fun _ _ _ _ _ => (pts_one (pt_cmpR (inK K) (pv 6) (pv 3) (by rfl))))
      (fun _ _ _ _ _ => (pv 6))) (pe_lst pa_nil) (nomark _))))) (pss_one (ps_expr (bmK K PySem.F.plainAttrs_list PySem.F.slot_list_append PySem.F.type_list_append mt_append (pv 3) (pa_cons (pv 4) pa_nil)))) pss_nil))))
    (pss_one (ps_ret (pe_callTy (tupleK K) (by rfl) m_tuple (by decide +kernel) (pa_cons (pe_callB (sortK K hr.units) (by rfl) m_sorted (by decide +kernel) (pa_cons (pv 3) pa_nil)) pa_nil)))))), ?_⟩
    -- limit, found
    refine ⟨by show 3 ≤ sizeLine; decide, fun p1 n1 => ?_⟩
    have sp1 := same_upd (o := .lst [V.int 2, V.int 4, V.int 12]) n1
    have ep1 := same_at (o := .lst [V.int 2, V.int 4, V.int 12]) n1
    have offp := hD.off n1
    refine ⟨.ref d, rfl, d, r, c, _, 3, rfl, by decide, by decide, hD.same sp1, by omega, fun H1 y y0 y1 f1 d1 => ?_⟩
    have ep2 := f1 _ _ offp.1 offp.2.1 ep1
    obtain ⟨lim, glim⟩ : ∃ lim : Int, [V.int 2, V.int 4, V.int 12][y.toNat]? = some (.int lim) := by
      have : y.toNat = 0 ∨ y.toNat = 1 ∨ y.toNat = 2 := by omega
      rcases this with e | e | e <;> rw [e] <;> exact ⟨_, rfl⟩
    refine ⟨p1, _, _, _, rfl, rfl, SqL.of ep2, at_of (j := y.toNat) (by omega) glim, Nat.zero_le _, fun L nL => ?_⟩
    have s1 := same_upd (o := .lst []) nL
    have eL1 := same_at (o := .lst []) nL
    have offL := d1.off nL
    refine ⟨by show 2 ≤ sizeLine; decide, fun t nt => ⟨t, _, rfl, SqT.of upd_same, rfl, .int lim, [.ref L], rfl, .ref L, [], rfl, rfl, ?_⟩⟩
    have st := same_upd (o := .tup [.int lim, .ref L]) nt
    have f2 : Fm d r H (upd (upd H1 L (.lst [])) t (.tup [.int lim, .ref L])) := (((Same.fm sp1).trans f1).trans (Same.fm s1)).trans (Same.fm st)
    have eL2 := st _ _ eL1
    have d2 := (d1.same s1).same st
    have nHL : H L = none := by
      cases e : H L with
      | none => rfl
      | some o =>
        have := f1 _ _ offL.1 offL.2.1 (sp1 _ _ e)
        rw [nL] at this
        cases this
    generalize upd (upd H1 L (.lst [])) t (.tup [.int lim, .ref L]) = H2 at f2 eL2 d2 ⊢
    have hx2 := Dp.kt (f2.ktw hD) hx (only_forD _ _)
    obtain ⟨a, b, xs, rfl, ha, hb, hA⟩ := Dp.forI hx2
    -- the vertices
    refine ⟨.ref d, rfl, .ref a, rfl, a, _, 0, .int (m : Int), rfl, rfl, ha, atI_nat (j := 0) rfl, (m : Int), rfl, RgOk.of_le (by omega) (by omega) (by omega) (by omega), fun z nz => ?_⟩
    rw [rgVrng]
    have sz := same_upd (o := .lst ((rng m).map V.int)) nz
    refine ⟨d, r, c, z, _, rng m, rfl, d2.same sz, by omega, SqL.of upd_same, by rw [rng_length]; omega, fun H3 D nm pm f3 d3 nD eD => ?_⟩
    rw [rng_length] at d3
    have offD := (d2.same sz).off nD
    have f3' : Fm d r H H3 := (f2.trans (Same.fm sz)).trans f3
    have eL3 := f3 _ _ offL.1 offL.2.1 (sz _ _ eL2)
    have nLD : L ≠ D := ne_of_none (sz _ _ eL2) nD
    have lnm : nm.length = m := by rw [pm.length_eq, rng_length]
    refine ⟨D, rfl, ⟨_, SqL.of eD⟩, for_list (K := K) (a := D) (xs := nm.map V.int) (fun i σ H' => ∃ (y4 y5 : Option V) (S : List Int), σ = [some (.ref d), some (.ref a), some (.int lim), some (.ref L), y4, y5, none] ∧
      Fm d r H H' ∧ Dw H' d r c (n + 14) ∧ H' D = some (.lst (nm.map V.int)) ∧ H' L = some (.lst (S.map V.int)) ∧ S.Sublist (nm.take i) ∧ (∀ u ∈ S, ∀ z ∈ S, ordP u z ∉ es)) ?_ ?_ ?_ ?_⟩
    · exact ⟨none, none, [], rfl, f3', d3.le (by omega), eD, eL3, List.nil_sublist _, (fun _ z => nomatch z)⟩
    · rintro i σ H' _ ⟨y4, y5, S, rfl, _, _, e, _⟩
      exact SqL.of e
    · rintro i v σ H4 hv ⟨y4, y5, S, rfl, f4, d4, eD4, eL4, sub, free⟩
      rw [List.getElem?_map] at hv
      obtain ⟨v, hv', rfl⟩ := Option.map_eq_some_iff.mp hv
      obtain ⟨hi, _⟩ := List.getElem?_eq_some_iff.mp hv'
      have inS : ∀ u ∈ S, 0 ≤ u ∧ u < m := fun u hu => mem_rng.mp (pm.mem_iff.mp (List.mem_of_mem_take (sub.subset hu)))
      have lS : S.length ≤ i := by
        have := sub.length_le
        rw [List.length_take] at this
        omega
      have hx4 := Dp.kt (f4.ktw hD) hx (only_forD _ _)
      refine ⟨.ref a, rfl, .int v, rfl, .ref a, m, es, v, rfl, by omega, isf, hx4, fun H5 N s5 nN eN => ?_⟩
      dsimp only [gName]
      refine ifJ (R := fun b H8 => Same H5 H8 ∧ (b = true → (nearL m es v).filter (fun o => decide (o ∈ S)) = [])) (fun R hR => ?_) (fun H8 hR => ?_) (fun H8 hR => ?_)
      · refine ⟨.ref L, rfl, L, _, rfl, .inl (SqL.of (s5 _ _ eL4)), .int lim, rfl, _, _, rfl, rfl, _, rfl, ite2 (fun h0 => ?_) (fun h0 => ?_)⟩
        · refine ⟨.ref N, rfl, N, rfl, ⟨_, SqL.of eN⟩, fun C nC => ?_⟩
          have nl12 := nearL_len m es v
          refine lc_listI (K := K) (fun o => decide (o ∈ S)) .int nC (SqL.of eN) (fun _ => rfl) (fun o _ H' R' s1 hR' => ?_) (fun o _ _ H' R' s1 hR' => ?_) only_int (by omega) (fun H6 ys s6 eC dy => ?_)
          · refine ⟨.int o, rfl, .ref L, rfl, L, S.map V.int, rfl, .inl (SqL.of (s1 _ _ (s5 _ _ eL4))), rfl, flat_ints S, _, rfl, ?_⟩
            have h2 := hR' H' (Same.refl _)
            rw [← inV_ints] at h2
            exact h2
          · exact ⟨.int o, rfl, hR' H' _ (Same.refl _) (.int o)⟩
          · rw [lst_ints dy] at eC
            refine ⟨Nat.zero_le _, fun B nB => ?_⟩
            have s7 := same_upd (o := .lst []) nB
            refine ⟨_, .list [], .lst (SqL.of (s7 _ _ eC)) (DpAll.of_ints _), .lst (SqL.of upd_same) .nil, shaped_ints _, shaped_ints [], _, rfl, ?_⟩
            rw [eqv_nil]
            exact hR _ _ ⟨s6.trans s7, fun hc => of_decide_eq_true hc⟩
        · exact hR _ _ ⟨Same.refl _, fun z => nomatch z⟩
      · obtain ⟨s8, nb⟩ := hR
        have s48 := s5.trans s8
        have f8 := f4.trans (Same.fm s48)
        have d8 := d4.same s48
        have eL8 := s48 _ _ eL4
        refine ⟨.ref L, rfl, .inl ⟨rfl, _, SqL.of eL8⟩, .int v, rfl, L, _, _, rfl, rfl, eL8, ?_, _, _, S ++ [v], rfl, f8.put1 nHL, d8.put offL, by rw [upd_ne nLD.symm]; exact s48 _ _ eD4, ?_, ?_, set_grow isf free inS (nb rfl)⟩
        · rw [List.length_map]
          exact small1000 (by omega)
        · rw [upd_same, List.map_append]
          rfl
        · rw [List.take_add_one, hv']
          exact sub.append (List.Sublist.refl _)
      · obtain ⟨s8, nb⟩ := hR
        have s48 := s5.trans s8
        refine ⟨_, _, S, rfl, f4.trans (Same.fm s48), d4.same s48, s48 _ _ eD4, s48 _ _ eL4, ?_, free⟩
        rw [List.take_add_one, hv']
        exact sub.trans (List.sublist_append_left _ _)
    · rintro σ H4 ⟨y4, y5, S, rfl, f4, d4, eD4, eL4, sub, free⟩
      refine ⟨.ref L, rfl, sortInts (SqL.of eL4) fun p np => ?_⟩
      have t1 := same_upd (o := .lst ((srtI S).map V.int)) np
      refine ⟨p, _, rfl, .inl ⟨SqL.of upd_same, fun t nt => ?_⟩⟩
      have t2 := same_upd (o := .tup ((srtI S).map V.int)) nt
      have t12 := t1.trans t2
      have sub' : S.Sublist nm := sub.trans (List.take_sublist _ _)
      have nd : S.Nodup := sub'.nodup (pm.nodup_iff.mpr (rng_asc m).nodup)
      have offt := (d4.same t1).off nt
      have nHt : H t = none := by
        cases e : H t with
        | none => rfl
        | some o =>
          have := t1 _ _ (f4 _ _ offt.1 offt.2.1 e)
          rw [nt] at this
          cases this
      exact q _ _ (srtI S) (f4.trans (Same.fm t12)) ((d4.same t12).le (by omega)) ⟨srtI_asc nd, fun v hv => mem_rng.mp (pm.mem_iff.mp (sub'.subset (mem_srtI.mp hv))), fun u hu z hz => free u (mem_srtI.mp hu) z (mem_srtI.mp hz)⟩ nHt upd_same
theorem eqv_lists (a b : List Int) : PyData.eqv (.list (a.map .int)) (.list (b.map .int)) = decide (a = b) := by
  have key : ∀ a b : List Int, PyData.eqvAll (a.map .int) (b.map .int) = decide (a = b) := by
    intro a
    induction a with
    | nil => intro b; cases b <;> simp [PyData.eqvAll]
    | cons x a ih =>
      intro b
      cases b with
      | nil => simp [PyData.eqvAll]
      | cons y b =>
        rw [List.map_cons, List.map_cons]
        simp only [PyData.eqvAll, PyData.eqv, ih]
        by_cases h1 : x = y
        · by_cases h2 : a = b
          · subst h1 h2; simp
          · simp [h1, h2]
        · simp [h1]
  simp only [PyData.eqv, key]
/-! ### the law's own slides -/
theorem only_one {F : List Int} {u : Int} (nd : F.Nodup) (h : u ∈ F) : F.filter (fun o => !decide (o = u)) = [] ↔ F = [u] := by
  constructor
  · intro e
    have all : ∀ x ∈ F, x = u := fun x hx => by
      by_cases z : x = u
      · exact z
      · have : x ∈ F.filter fun o => !decide (o = u) := List.mem_filter.mpr ⟨hx, by rw [decide_eq_false z]; rfl⟩
        rw [e] at this
        exact nomatch this
    match F, nd, h, all with
    | [x], _, _, all => rw [all x List.mem_cons_self]
    | x :: y :: F, nd, _, all =>
      have h1 := all x List.mem_cons_self
      have h2 := all y (List.mem_cons_of_mem _ List.mem_cons_self)
      exact absurd (by rw [h1, ← h2]; exact List.mem_cons_self) (List.nodup_cons.mp nd).1
  · intro e
    rw [e]
    simp
theorem oth_one {m : Nat} {es : List (Int × Int)} {S : List Int} {u v : Int} (iss : IsSet m es S) (hu : u ∈ S) (hv : v ∈ nearL m es u) : oth m es S u v = [] ↔ (nearL m es v).filter (fun o => decide (o ∈ S)) = [u] := by
  have nd : ((nearL m es v).filter fun o => decide (o ∈ S)).Nodup := (nearL_asc m es v).nodup.filter _
  have mu : u ∈ (nearL m es v).filter fun o => decide (o ∈ S) := List.mem_filter.mpr ⟨mem_nearL.mpr ⟨iss.rng u hu, by rw [ordP_comm]; exact (mem_nearL.mp hv).2⟩, decide_eq_true hu⟩
  rw [← only_one nd mu]
  unfold oth
  rw [List.filter_filter]
  have e : (fun o => decide (o ∈ S) && !decide (o = u)) = fun a => !decide (a = u) && decide (a ∈ S) := by
    funext o
    rw [Bool.and_comm]
  rw [e]
def spLSlides (K : PySem.W.Frag) : Sp := fun vs H Q _ => ∃ (x y : V) (m : Nat) (es : List (Int × Int)) (S : List Int), vs = [x, y] ∧ m ≤ 12 ∧ IsFor m es ∧ Dp K H x (forD m es) ∧ Dp K H y (intsD S) ∧ IsSet m es S ∧
  ∀ (H' : Hp) (D : Addr) (xs : List V), Same H H' → H D = none → H' D = some (.lst xs) → DpAll K H' xs ((slidesP m es S).map prD) → Q (.ref D) H'
theorem ok_LSlides {f : Addr} {fd : FuncData} (F : Fun K "_law_slides" "_law_slides" sLSlides f fd) (m_sorted : mg "sorted" = none) (oLNear : Own P w K mg base "_law_near" 1 ["_law_forest_here", "_law_vertex"] (spLNear K)) :
    FnOk P w K mg base CX0 2 f fd ["_law_forest_here", "_law_setting_here"] (spLSlides K) := by
  refine F.ok scLSlides (fun vs H Q E h => ?_) (fun cdv A outer s H vs Q E hr h => ?_)
  · obtain ⟨x, y, m, es, S, rfl, _⟩ := h
    rfl
  · obtain ⟨x, y, m, es, S, rfl, hm, isf, hx, hy, iss, q⟩ := h
    obtain ⟨c, rfl, hc⟩ := Dp.intsI hy
    have lS := iss.len
    refine ⟨_, (pss_cons (ps_set (i := 2) scLSlides.nd rfl (.inl rfl) (pe_lst pa_nil))
    (pss_cons (ps_for PassesOwn.never rfl (piTK K (pv 1)) (pg_name (i := 3) scLSlides.nd rfl (Or.inl rfl))
    (pss_one (ps_for PassesOwn.never rfl (piLK K (pe_callB (sortK K hr.units) (by rfl) m_sorted (by decide +kernel) (pa_cons (pe_own oLNear (hr.mono (by decide)) (by rfl) (pa_cons (pv 0) (pa_cons (pv 3) pa_nil))) pa_nil))) (pg_name (i := 4) scLSlides.nd rfl (Or.inl rfl))
    (pss_one (ps_if (pt_cmpR (eqDK K hr.units) (pe_lc (own := [("_law_lamp", 5)]) (g := (gName 5)) rfl scLSlides.nd (piLK K (pe_own oLNear (hr.mono (by decide)) (by rfl) (pa_cons (pv 0) (pa_cons (pv 4) pa_nil))))
      (blkOk_by (own := [("_law_lamp", 5)]) (N := nLSlides) (sc := (defScope sLSlides)) (by decide +kernel))
      (fun _ _ _ _ _ => (pg_name (i := 5) scLSlides.nd rfl (Or.inl rfl))) (fun _ _ _ _ _ => (pts_one (pt_cmpR (inK K) (pv 5) (pv 1) (by rfl))))
      (fun _ _ _ _ _ => (pv 5))) (pe_lst (pa_cons (pv 3) pa_nil)) (nomark _)) (pss_one (ps_expr (bmK K PySem.F.plainAttrs_list PySem.F.slot_list_append PySem.F.type_list_append mt_append (pv 2) (pa_cons (pe_tup (pa_cons (pv 3) (pa_cons (pv 4) pa_nil))) pa_nil)))) pss_nil)))))
    (pss_one (ps_ret (pv 2))))), ?_⟩
    refine ⟨Nat.zero_le _, fun D nD => ?_⟩
    have sD := same_upd (o := .lst []) nD
    have eD := same_at (o := .lst []) nD
    refine ⟨.ref c, rfl, c, rfl, ⟨_, Same.tup sD hc⟩, for_tup (K := K) (a := c) (xs := S.map V.int) (fun i σ H' => ∃ (y3 y4 : Option V) (xs : List V), σ = [some x, some (.ref c), some (.ref D), y3, y4, none] ∧ Same H H' ∧ H' D = some (.lst xs) ∧ DpAll K H' xs ((slidesT m es S (S.take i)).map prD) ∧ xs.length ≤ 12 * i) ?_ ?_ ?_ ?_⟩
    · exact ⟨_, _, [], rfl, sD, eD, .nil, Nat.zero_le _⟩
    · rintro i σ H' _ ⟨y3, y4, xs, rfl, s1, _⟩
      exact Same.tup s1 hc
    · rintro i z σ H1 hz ⟨y3, y4, xs, rfl, s1, eD1, dx, lx⟩
      rw [List.getElem?_map] at hz
      obtain ⟨u, hu, rfl⟩ := Option.map_eq_some_iff.mp hz
      have mu := List.mem_of_getElem? hu
      have iS : i < S.length := (List.getElem?_eq_some_iff.mp hu).1
      have tk : slidesT m es S (S.take (i + 1)) = slidesT m es S (S.take i) ++ ((nearL m es u).filter fun v => decide (oth m es S u v = [])).map fun v => (u, v) := by
        unfold slidesT
        rw [List.take_add_one, hu, Option.toList_some, List.flatMap_append, List.flatMap_singleton]
      refine ⟨x, rfl, .int u, rfl, x, m, es, u, rfl, by omega, isf, Dp.same s1 hx, fun H2 N s2 nN eN => ?_⟩
      refine sortInts (SqL.of eN) fun p np => ?_
      rw [srtI_of_asc (nearL_asc m es u)]
      have sp := same_upd (o := .lst ((nearL m es u).map V.int)) np
      have ep := same_at (o := .lst ((nearL m es u).map V.int)) np
      have nDp : D ≠ p := ne_of_none (s2 _ _ eD1) np
      have nl := nearL_len m es u
      have s03 := (s1.trans s2).trans sp
      have nHp : H p = none := (s1.trans s2).free np
      have eD3 := sp _ _ (s2 _ _ eD1)
      have dx3 := DpAll.same (s2.trans sp) dx
      generalize upd H2 p (.lst ((nearL m es u).map V.int)) = H3 at sp ep s03 eD3 dx3 ⊢
      refine ⟨p, rfl, ⟨_, SqL.of ep⟩, for_list (K := K) (a := p) (xs := (nearL m es u).map V.int) (fun k σ H' => ∃ (y4 : Option V) (xs : List V), σ = [some x, some (.ref c), some (.ref D), some (.int u), y4, none] ∧ Same H H' ∧ H' p = some (.lst ((nearL m es u).map V.int)) ∧ H' D = some (.lst xs) ∧
        DpAll K H' xs ((slidesT m es S (S.take i) ++ (((nearL m es u).take k).filter fun v => decide (oth m es S u v = [])).map fun v => (u, v)).map prD) ∧ xs.length ≤ 12 * i + k) ?_ ?_ ?_ ?_⟩
      · refine ⟨_, xs, rfl, s03, ep, eD3, ?_, lx⟩
        rw [List.take_zero, List.filter_nil, List.map_nil, List.append_nil]
        exact dx3
      · rintro k σ H' _ ⟨y4, xs, rfl, _, h, _⟩
        exact SqL.of h
      · rintro k z σ H4 hz ⟨y4, xs, rfl, s4, ep4, eD4, dx4, lx4⟩
        rw [List.getElem?_map] at hz
        obtain ⟨v, hv, rfl⟩ := Option.map_eq_some_iff.mp hz
        have mv := List.mem_of_getElem? hv
        have kl : k < (nearL m es u).length := (List.getElem?_eq_some_iff.mp hv).1
        have tk2 : (nearL m es u).take (k + 1) = (nearL m es u).take k ++ [v] := by rw [List.take_add_one, hv]; rfl
        refine ⟨x, rfl, .int v, rfl, x, m, es, v, rfl, by omega, isf, Dp.same s4 hx, fun H5 N2 s5 nN2 eN2 => ⟨N2, rfl, ⟨_, SqL.of eN2⟩, fun C nC => ?_⟩⟩
        have nl2 := nearL_len m es v
        refine lc_listI (K := K) (fun o => decide (o ∈ S)) .int nC (SqL.of eN2) (fun _ => rfl) (fun o _ H' R' s1' hR' => ?_) (fun o _ _ H' R' s1' hR' => ⟨.int o, rfl, hR' H' _ (Same.refl _) (.int o)⟩) only_int (by omega) (fun H6 ys s6 eC dy => ?_)
        · refine ⟨.int o, rfl, .ref c, rfl, c, S.map V.int, rfl, .inr (Same.tup ((s4.trans s5).trans s1') hc), rfl, flat_ints S, _, rfl, ?_⟩
          have h2 := hR' H' (Same.refl _)
          rw [← inV_ints] at h2
          exact h2
        rw [lst_ints dy] at eC
        refine ⟨.int u, rfl, by show 1 ≤ sizeLine; decide, fun B nB => ?_⟩
        have s7 := same_upd (o := .lst [V.int u]) nB
        have s47 := (s5.trans s6).trans s7
        have s07 := s4.trans s47
        have ep7 := s47 _ _ ep4
        have eD7 := s47 _ _ eD4
        have dx7 := DpAll.same s47 dx4
        refine ⟨.list (((nearL m es v).filter fun o => decide (o ∈ S)).map .int), .list ([u].map .int), .lst (SqL.of (s7 _ _ eC)) (DpAll.of_ints _), .lst (SqL.of upd_same) (DpAll.of_ints [u]), shaped_ints _, shaped_ints [u], _, rfl, ?_⟩
        rw [eqv_lists]
        generalize upd H6 B (.lst [V.int u]) = H7 at s07 ep7 eD7 dx7 ⊢
        have iff := oth_one iss mu mv
        by_cases ho : oth m es S u v = []
        · rw [decide_eq_true (iff.mp ho)]
          refine iteT ⟨.ref D, rfl, .inl ⟨rfl, _, SqL.of eD7⟩, .int u, rfl, .int v, rfl, by show 2 ≤ sizeLine; decide, fun t nt => ?_⟩
          have st := same_upd (o := .tup [V.int u, V.int v]) nt
          have et := same_at (o := .tup [V.int u, V.int v]) nt
          have eD8 := st _ _ eD7
          generalize upd H7 t (.tup [V.int u, V.int v]) = H8 at st et eD8 ⊢
          have kt : KT K H8 (upd H8 D (.lst (xs ++ [V.ref t]))) := kt_lst eD8
          refine ⟨D, _, .ref t, rfl, rfl, eD8, small1000 (by omega), _, xs ++ [V.ref t], rfl, fun h o eh => ?_, by rw [upd_ne nDp.symm]; exact st _ _ ep7, upd_same, ?_, by rw [List.length_append, List.length_singleton]; omega⟩
          · rw [upd_ne (ne_of_none eh nD)]
            exact st _ _ (s07 _ _ eh)
          · have e : slidesT m es S (S.take i) ++ (((nearL m es u).take k ++ [v]).filter fun v => decide (oth m es S u v = [])).map (fun v => (u, v)) = (slidesT m es S (S.take i) ++ (((nearL m es u).take k).filter fun v => decide (oth m es S u v = [])).map fun v => (u, v)) ++ [(u, v)] := by
              rw [List.filter_append, List.filter_cons_of_pos (by rw [decide_eq_true ho]), List.filter_nil, List.map_append, ← List.append_assoc]
              rfl
            rw [tk2, e, List.map_append]
            exact DpAll.append (DpAll.kt kt (DpAll.same st dx7) (only_prs _)) (.cons (Dp.pr (kt _ _ (SqT.of et))) .nil)
        · rw [decide_eq_false fun z => ho (iff.mpr z)]
          refine iteF ⟨_, xs, rfl, s07, ep7, eD7, ?_, by omega⟩
          rw [tk2, List.filter_append, List.filter_cons_of_neg (by rw [decide_eq_false ho]; decide), List.filter_nil, List.append_nil]
          exact dx7
      · rintro σ H4 ⟨y4, xs, rfl, s4, ep4, eD4, dx4, lx4⟩
        rw [List.length_map, List.take_length, ← tk] at dx4
        rw [List.length_map] at lx4
        exact ⟨_, _, xs, rfl, s4, eD4, dx4, by omega⟩
    · rintro σ H1 ⟨y3, y4, xs, rfl, s1, eD1, dx, lx⟩
      rw [List.length_map, List.take_length, ← slides_eq] at dx
      exact ⟨.ref D, rfl, q _ D xs s1 nD eD1 dx⟩
def spLMoved (K : PySem.W.Frag) : Sp := fun vs H Q _ => ∃ (y : V) (S : List Int) (u v : Int), vs = [y, .int u, .int v] ∧ Dp K H y (intsD S) ∧ S.length ≤ 12 ∧ ∀ (H' : Hp) (t : Addr), Same H H' → H' t = some (.tup ((after S u v).map V.int)) → Q (.ref t) H'
theorem ok_LMoved {f : Addr} {fd : FuncData} {k : Nat} (F : Fun K "_law_moved" "_law_moved" sLMoved f fd) (m_tuple : mg "tuple" = none) (m_sorted : mg "sorted" = none) :
    FnOk P w K mg base CX0 (k + 1) f fd ["_law_setting_here", "_law_u", "_law_v"] (spLMoved K) := by
  refine F.ok scLMoved (fun vs H Q E h => ?_) (fun cdv A outer s H vs Q E hr h => ?_)
  · obtain ⟨y, S, u, v, rfl, _⟩ := h
    rfl
  · obtain ⟨y, S, u, v, rfl, hy, ls, q⟩ := h
    obtain ⟨b, rfl, hb⟩ := Dp.intsI hy
    refine ⟨_, (pss_one (ps_ret (pe_callTy (tupleK K) (by rfl) m_tuple (by decide +kernel) (pa_cons (pe_callB (sortK K hr.units) (by rfl) m_sorted (by decide +kernel) (pa_cons (pe_op op_cat (pe_lc (own := [("_law_lamp", 3)]) (g := (gName 3)) rfl scLMoved.nd (piTK K (pv 0))
      (blkOk_by (own := [("_law_lamp", 3)]) (N := nLMoved) (sc := (defScope sLMoved)) (by decide +kernel))
      (fun _ _ _ _ _ => (pg_name (i := 3) scLMoved.nd rfl (Or.inl rfl))) (fun _ _ _ _ _ => (pts_one (pt_cmpR op_ne (pv 3) (pv 1) (nomark _))))
      (fun _ _ _ _ _ => (pv 3))) (pe_lst (pa_cons (pv 2) pa_nil))) pa_nil)) pa_nil)))), ?_⟩
    refine ⟨.ref b, rfl, b, rfl, ⟨_, hb⟩, fun D nD => ?_⟩
    refine lc_tupI (K := K) (fun l => !decide (l = u)) .int nD hb (fun _ => rfl) (fun o _ H' R s3 hR => ?_) (fun o _ _ H' R s3 hR => ?_) only_int (by omega) (fun H3 ys s3 eD dy => ?_)
    · refine ⟨.int o, rfl, .int u, rfl, rfl, _, rfl, ?_⟩
      rw [dec_int]
      exact hR H' (Same.refl _)
    · exact ⟨.int o, rfl, hR H' _ (Same.refl _) (.int o)⟩
    rw [lst_ints dy] at eD
    refine ⟨.int v, rfl, by show 1 ≤ sizeLine; decide, fun B nB => ?_⟩
    have s4 := same_upd (o := .lst [V.int v]) nB
    have lf := List.length_filter_le (fun l => !decide (l = u)) S
    refine ⟨D, B, _, _, rfl, rfl, s4 _ _ eD, upd_same, Nat.le_of_lt (small1000 (by rw [List.length_map, List.length_singleton]; omega)), fun p np => ?_⟩
    have s5 := same_upd (o := .lst ((S.filter fun l => !decide (l = u)).map V.int ++ [V.int v])) np
    refine sortInts (ns := (S.filter fun l => !decide (l = u)) ++ [v]) (SqL.of (by rw [upd_same, List.map_append]; rfl)) fun p2 np2 => ?_
    have s6 := same_upd (o := .lst ((after S u v).map V.int)) np2
    refine ⟨p2, _, rfl, .inl ⟨SqL.of upd_same, fun t nt => ?_⟩⟩
    exact q _ _ ((((s3.trans s4).trans s5).trans s6).trans (same_upd nt)) upd_same
end
end TL
namespace TL
open PySem PySem.Spec PyProof.Rows L2
section
variable {P : Program} {w : World} {K : PySem.W.Frag} {mg : Str → Option Value} {base : Heap}
/-! ### what the law reaches -/
def spLReached (K : PySem.W.Frag) : Sp := fun vs H Q _ => ∃ (x : V) (t : Addr) (m : Nat) (es : List (Int × Int)) (S : List Int), vs = [x, .ref t] ∧ m ≤ 12 ∧ IsFor m es ∧ Dp K H x (forD m es) ∧ H t = some (.tup (S.map V.int)) ∧ IsSet m es S ∧
  ∀ (H' : Hp) (G : Addr) (kvs : List (List Key × V)) (PP : List (List Int × Nat)), Same H H' → H' G = some (.dT kvs) → KN kvs PP → (PP.map Prod.fst).Nodup → (∀ r, r ∈ PP.map Prod.fst ↔ Rch m es S r) → (∀ p ∈ PP, Dst m es S p.2 p.1) → (PP.map Prod.fst).length ≤ 4096 → Q (.ref G) H'
theorem ok_LReached {f : Addr} {fd : FuncData} (F : Fun K "_law_reached" "_law_reached" sLReached f fd)
    (oLSlides : Own P w K mg base "_law_slides" 2 ["_law_forest_here", "_law_setting_here"] (spLSlides K)) (oLMoved : Own P w K mg base "_law_moved" 1 ["_law_setting_here", "_law_u", "_law_v"] (spLMoved K)) :
    FnOk P w K mg base CX0 3 f fd ["_law_forest_here", "_law_setting_here"] (spLReached K) := by
  refine F.ok scLReached (fun vs H Q E h => ?_) (fun cdv A outer s H vs Q E hr h => ?_)
  · obtain ⟨x, t, m, es, S, rfl, _⟩ := h
    rfl
  · obtain ⟨x, t, m, es, S, rfl, hm, isf, hx, ht, iss, q⟩ := h
    refine ⟨_, (pss_cons (ps_par (by rfl) scLReached.nd (i := 2) (j := 3) rfl rfl (by decide) rfl rfl (pa_cons (pe_disp1T (hu_of hr) (pv 1) pe_int) (pa_cons (pe_lst (pa_cons (pv 1) pa_nil)) pa_nil)) (by rfl))
    (pss_cons (ps_while PassesOwn.never (pt_cmpR (neDK K hr.units) (pv 3) (pe_lst pa_nil) (nomark _)) (pss_cons (ps_set (i := 4) scLReached.nd rfl (.inl rfl) (pe_lst pa_nil))
    (pss_cons (ps_for PassesOwn.never rfl (piLK K (pv 3)) (pg_name (i := 5) scLReached.nd rfl (Or.inl rfl))
    (pss_one (ps_for PassesOwn.never rfl (piLK K (pe_own oLSlides (hr.mono (by decide)) (by rfl) (pa_cons (pv 0) (pa_cons (pv 5) pa_nil)))) (pgTK K (pgs_cons (pg_name (i := 6) scLReached.nd rfl (Or.inl rfl)) (pgs_cons (pg_name (i := 7) scLReached.nd rfl (Or.inl rfl)) pgs_nil)))
    (pss_cons (ps_set (i := 8) scLReached.nd rfl (.inl rfl) (pe_own oLMoved (hr.mono (by decide)) (by rfl) (pa_cons (pv 5) (pa_cons (pv 6) (pa_cons (pv 7) pa_nil)))))
    (pss_one (ps_if (pt_cmp (pc_dnotin (hu_of hr) (pv 8) (pv 2))) (pss_cons (ps_dput (hu_of hr) (pv 2) (pv 8) (pe_op op_add (pe_dget (hu_of hr) (pv 2) (pv 5) (fun _ _ => rfl)) pe_int) rfl)
    (pss_one (ps_expr (bmK K PySem.F.plainAttrs_list PySem.F.slot_list_append PySem.F.type_list_append mt_append (pv 4) (pa_cons (pv 8) pa_nil))))) pss_nil))))))
    (pss_one (ps_set (i := 3) scLReached.nd rfl (.inl rfl) (pv 4))))))
    (pss_one (ps_ret (pv 2))))), ?_⟩
    refine fun G nG => ?_
    have ntG : t ≠ G := ne_of_none ht nG
    refine ⟨.ref t, rfl, t, kI S, .int 0, rfl, upd_same, ?_, ?_⟩
    · rw [upd_ne ntG, kI_kV]
      exact ht
    have s0 : Same H (upd (upd H G (.dT [])) G (.dT [(kI S, .int 0)])) := fun h o eh => by
      rw [upd_ne (ne_of_none eh nG), upd_ne (ne_of_none eh nG)]
      exact eh
    have eG0 : (upd (upd H G (.dT [])) G (.dT [(kI S, .int 0)])) G = some (.dT [(kI S, .int 0)]) := upd_same
    generalize upd (upd H G (.dT [])) G (.dT [(kI S, .int 0)]) = H0 at s0 eG0 ⊢
    refine ⟨.ref t, rfl, by show 1 ≤ sizeLine; decide, fun W nW => ⟨.ref G, .ref W, rfl, ?_⟩⟩
    have sW := same_upd (o := .lst [V.ref t]) nW
    have eW0 := same_at (o := .lst [V.ref t]) nW
    have tr0 : TrA (upd H0 W (.lst [V.ref t])) [V.ref t] [S] := .cons (sW _ _ (s0 _ _ ht)) .nil
    refine while_ms (fun n σ H' => ∃ (y4 y5 y6 y7 y8 : Option V) (W : Addr) (kvs : List (List Key × V)) (ys : List V) (PP : List (List Int × Nat)) (M : List (List Int)) (dd : Nat), σ = [some x, some (.ref t), some (.ref G), some (.ref W), y4, y5, y6, y7, y8] ∧ Same H H' ∧ H' G = some (.dT kvs) ∧ KN kvs PP ∧ H' W = some (.lst ys) ∧ TrA H' ys M ∧ Sr m es S (PP.map Prod.fst) M (fun _ _ _ => True) ∧ Bf m es S PP M [] dd ∧ n = 2 * (4096 - (PP.map Prod.fst).length) + M.length) _
      ⟨_, _, _, _, _, W, _, _, [(S, 0)], [S], 0, rfl, s0.trans sW, sW _ _ eG0, KN.one S, eW0, tr0, Sr.start m es S _, Bf.start m es S, rfl⟩ ?_ ?_
    · rintro n σ H1 ⟨y4, y5, y6, y7, y8, W, kvs, ys, PP, M, dd, rfl, s1, eG, kd, eW, tr, sr, bf, rfl⟩
      refine ⟨.ref W, rfl, Nat.zero_le _, fun Z nZ => ?_⟩
      have sZ := same_upd (o := .lst []) nZ
      have eZ := same_at (o := .lst []) nZ
      generalize upd H1 Z (.lst []) = H2 at sZ eZ ⊢
      replace s1 := s1.trans sZ
      replace eG := sZ _ _ eG
      replace eW := sZ _ _ eW
      replace tr := tr.tt (Same.tt sZ)
      refine ⟨.list (M.map intsD), .list [], .lst (SqL.of eW) tr.all, .lst (SqL.of eZ) .nil, shaped_rows _, shaped_rows [], _, rfl, ?_⟩
      rw [eqv_rows_nil]
      have lL0 := sr.few12 isf iss hm
      have lM0 := sr.le
      have yl0 := tr.length
      by_cases hz : M = []
      · rw [decide_eq_true hz]
        subst hz
        exact iteF ⟨.ref G, rfl, q H2 G kvs PP s1 eG kd sr.nd sr.all bf.dst lL0⟩
      · rw [decide_eq_false hz]
        have hpos : 0 < M.length := List.length_pos_iff.mpr hz
        refine iteT ⟨Nat.zero_le _, fun B nB => ?_⟩
        have sB := same_upd (o := .lst []) nB
        have eB := same_at (o := .lst []) nB
        have nGB : G ≠ B := ne_of_none eG nB
        have nWB : W ≠ B := ne_of_none eW nB
        have nHB : H B = none := s1.free nB
        have nGW : G ≠ W := fun z => by rw [z, eW] at eG; cases eG
        refine ⟨.ref W, rfl, W, rfl, ⟨_, SqL.of (sB _ _ eW)⟩, for_list (K := K) (a := W) (xs := ys) (fun i σ H' => ∃ (y5 y6 y7 y8 : Option V) (kvs : List (List Key × V)) (zs : List V) (PP' : List (List Int × Nat)) (Z' : List (List Int)), σ = [some x, some (.ref t), some (.ref G), some (.ref W), some (.ref B), y5, y6, y7, y8] ∧ Same H H' ∧ H' G = some (.dT kvs) ∧ KN kvs PP' ∧ H' W = some (.lst ys) ∧ TrA H' ys M ∧ H' B = some (.lst zs) ∧ TrA H' zs Z' ∧
          Sr m es S (PP'.map Prod.fst) (M.drop i ++ Z') (fun _ _ _ => True) ∧ Bf m es S PP' (M.drop i) Z' dd ∧ 2 * (4096 - (PP'.map Prod.fst).length) + Z'.length ≤ 2 * (4096 - (PP.map Prod.fst).length)) ?_ ?_ ?_ ?_⟩
        · exact ⟨_, _, _, _, kvs, [], PP, [], rfl, s1.trans sB, sB _ _ eG, kd, sB _ _ eW, tr.tt (Same.tt sB), eB, .nil, by rw [List.drop_zero, List.append_nil]; exact sr, by rw [List.drop_zero]; exact bf, Nat.le_refl _⟩
        · rintro i σ H' _ ⟨y5, y6, y7, y8, kvs, zs, PP', Z', rfl, _, _, _, h, _⟩
          exact SqL.of h
        · rintro i y σ H3 hy ⟨y5, y6, y7, y8, kvs, zs, PP', Z', rfl, s3, eG3, kd3, eW3, trW3, eB3, tr3, sr3, bf3, ms3⟩
          obtain ⟨rb, r, rfl, hr', hrb⟩ := trW3.get hy
          have iM : i < M.length := (List.getElem?_eq_some_iff.mp hr').1
          have dr : M.drop i = r :: M.drop (i + 1) := by
            rw [List.drop_eq_getElem_cons iM]
            rw [List.getElem?_eq_getElem iM] at hr'
            rw [Option.some.inj hr']
          rw [dr] at sr3 bf3
          have hdr : Dst m es S dd r := bf3.lo r List.mem_cons_self
          have rL : r ∈ PP'.map Prod.fst := sr3.sub r List.mem_cons_self
          have rr := sr3.rch r rL
          have isr := (rr.both isf iss).1
          have lr := isr.len
          have sr0 : Sr m es S (PP'.map Prod.fst) (M.drop (i + 1) ++ Z') (fun z u v => z = r → (u, v) ∈ (slidesP m es r).take 0) := ⟨sr3.nd, sr3.has, sr3.rch, fun z hz => sr3.sub z (List.mem_cons_of_mem _ hz), (fun z hz nz u v p o => sr3.cl z hz (fun w => by
            rcases List.mem_cons.mp w with w | w
            · exact nomatch o w
            · exact nz w) u v p trivial), by
            have := sr3.le
            rw [List.cons_append, List.length_cons] at this
            omega⟩
          refine ⟨x, rfl, .ref rb, rfl, x, .ref rb, m, es, r, rfl, hm, isf, Dp.same s3 hx, Dp.ints (SqT.of hrb), isr, fun H4 P4 ps s4 nP4 eP4 dA => ?_⟩
          have nGP : G ≠ P4 := ne_of_none eG3 nP4
          have nBP : B ≠ P4 := ne_of_none eB3 nP4
          have pl : ps.length = (slidesP m es r).length := by rw [DpAll.length dA, List.length_map]
          refine ⟨P4, rfl, ⟨_, SqL.of eP4⟩, for_list (K := K) (a := P4) (xs := ps) (fun j σ H' => ∃ (y6 y7 y8 : Option V) (kvs : List (List Key × V)) (zs : List V) (PP' : List (List Int × Nat)) (Z' : List (List Int)), σ = [some x, some (.ref t), some (.ref G), some (.ref W), some (.ref B), some (.ref rb), y6, y7, y8] ∧ Same H H' ∧ H' rb = some (.tup (r.map V.int)) ∧ KT K H4 H' ∧ H' P4 = some (.lst ps) ∧ H' G = some (.dT kvs) ∧ KN kvs PP' ∧ H' W = some (.lst ys) ∧ TrA H' ys M ∧ H' B = some (.lst zs) ∧ TrA H' zs Z' ∧
            Sr m es S (PP'.map Prod.fst) (M.drop (i + 1) ++ Z') (fun z u v => z = r → (u, v) ∈ (slidesP m es r).take j) ∧ Bf m es S PP' (M.drop (i + 1)) Z' dd ∧ 2 * (4096 - (PP'.map Prod.fst).length) + Z'.length ≤ 2 * (4096 - (PP.map Prod.fst).length) ∧ r ∈ PP'.map Prod.fst) ?_ ?_ ?_ ?_⟩
          · exact ⟨_, _, _, kvs, zs, PP', Z', rfl, s3.trans s4, s4 _ _ hrb, Same.kt (Same.refl _), eP4, s4 _ _ eG3, kd3, s4 _ _ eW3, trW3.tt (Same.tt s4), s4 _ _ eB3, tr3.tt (Same.tt s4), sr0, bf3.pop, ms3, rL⟩
          · rintro j σ H' _ ⟨y6, y7, y8, kvs, zs, PP', Z', rfl, _, _, _, h, _⟩
            exact SqL.of h
          · rintro j y σ H5 hy ⟨y6, y7, y8, kvs, zs, PP', Z', rfl, s5, hrb5, kt5, eP5, eG5, kd5, eW5, trW5, eB5, tr5, sr5, bf5, ms5, rL5⟩
            obtain ⟨dd, hd, dp⟩ := DpAll.get dA hy
            rw [List.getElem?_map] at hd
            obtain ⟨⟨u, v⟩, hp, rfl⟩ := Option.map_eq_some_iff.mp hd
            obtain ⟨pp, rfl, hpp⟩ := Dp.prI dp
            have sl := List.mem_of_getElem? hp
            have tk : (slidesP m es r).take (j + 1) = (slidesP m es r).take j ++ [(u, v)] := by rw [List.take_add_one, hp]; rfl
            refine ⟨pp, _, rfl, kt5 _ _ hpp, rfl, _, _, rfl, _, _, rfl, rfl, ?_⟩
            refine ⟨.ref rb, rfl, .int u, rfl, .int v, rfl, .ref rb, r, u, v, rfl, Dp.ints (SqT.of hrb5), by omega, fun H6 t6 s6 e6 => ?_⟩
            have eG6 := s6 _ _ eG5
            have eW6 := s6 _ _ eW5
            have eB6 := s6 _ _ eB5
            have eP6 := s6 _ _ eP5
            have hrb6 := s6 _ _ hrb5
            have trW6 := trW5.tt (Same.tt s6)
            have tr6 := tr5.tt (Same.tt s6)
            have kt6 := kt5.trans (Same.kt s6)
            have s06 := s5.trans s6
            have nxt : ∀ {L' M' : List (List Int)}, Sr m es S L' M' (fun z a b => z = r → (a, b) ∈ (slidesP m es r).take j) → after r u v ∈ L' → Sr m es S L' M' (fun z a b => z = r → (a, b) ∈ (slidesP m es r).take (j + 1)) := fun h n => h.more fun z a b p ok => by
              by_cases e : z = r
              · subst e
                have w := ok rfl
                rw [tk] at w
                rcases List.mem_append.mp w with w | w
                · exact .inl fun _ => w
                · cases List.mem_singleton.mp w
                  exact .inr n
              · exact .inl fun w => absurd w e
            refine ⟨.ref t6, rfl, .ref G, rfl, G, _, rfl, dgetT eG6 e6, _, rfl, ?_⟩
            rcases kd5.kd.val (after r u v) with ⟨hin, i', hi'⟩ | ⟨hin, hi'⟩
            · rw [hi']
              exact iteF ⟨_, _, _, kvs, zs, PP', Z', rfl, s06, hrb6, kt6, eP6, eG6, kd5, eW6, trW6, eB6, tr6, nxt sr5 hin, bf5, ms5, rL5⟩
            · rw [hi']
              have lL := sr5.few12 isf iss hm
              have sr9 := sr5.add hin (Rch.step rr sl)
              rw [List.append_assoc] at sr9
              have lL9 := sr9.few12 isf iss hm
              rw [List.length_append, List.length_singleton] at lL9
              have ml := sr5.le
              rw [List.length_append] at ml
              have zl := tr6.length
              obtain ⟨i2, hi1, hi2⟩ := kd5.val rL5
              obtain rfl : i2 = dd := (bf5.dst _ hi1).uniq hdr
              refine iteT ⟨.ref G, rfl, .ref rb, rfl, G, .int (i2 : Int), rfl, by rw [← hi2]; exact dgetT eG6 hrb6, _, _, rfl, rfl, .ref G, rfl, .ref t6, rfl, G, _, rfl, dputT eG6 e6 (by rw [kd5.kd.len]; exact small5000 (by omega)), ?_⟩
              have kt7 : KT K H6 (upd H6 G (.dT (putK kvs (kI (after r u v)) (.int ((i2 : Int) + 1))))) := kt_dT eG6
              have tt7 : TT H6 (upd H6 G (.dT (putK kvs (kI (after r u v)) (.int ((i2 : Int) + 1))))) := tt_dT eG6
              have eG7 : (upd H6 G (.dT (putK kvs (kI (after r u v)) (.int ((i2 : Int) + 1))))) G = some (.dT (putK kvs (kI (after r u v)) (.int ((i2 : Int) + 1)))) := upd_same
              have eW7 : (upd H6 G (.dT (putK kvs (kI (after r u v)) (.int ((i2 : Int) + 1))))) W = some (.lst ys) := by rw [upd_ne nGW.symm]; exact eW6
              have eB7 : (upd H6 G (.dT (putK kvs (kI (after r u v)) (.int ((i2 : Int) + 1))))) B = some (.lst zs) := by rw [upd_ne nGB.symm]; exact eB6
              have eP7 : (upd H6 G (.dT (putK kvs (kI (after r u v)) (.int ((i2 : Int) + 1))))) P4 = some (.lst ps) := by rw [upd_ne nGP.symm]; exact eP6
              have s7 : Same H (upd H6 G (.dT (putK kvs (kI (after r u v)) (.int ((i2 : Int) + 1))))) := fun h o eh => by
                rw [upd_ne (ne_of_none eh nG)]
                exact s06 _ _ eh
              generalize upd H6 G (.dT (putK kvs (kI (after r u v)) (.int ((i2 : Int) + 1)))) = H7 at kt7 tt7 eG7 eW7 eB7 eP7 s7 ⊢
              refine ⟨.ref B, rfl, .inl ⟨rfl, _, SqL.of eB7⟩, .ref t6, rfl, B, _, .ref t6, rfl, rfl, eB7, small5000 (by omega), ?_⟩
              have tt8 : TT H7 (upd H7 B (.lst (zs ++ [V.ref t6]))) := tt_lst eB7
              have tt68 := tt7.trans tt8
              refine ⟨_, _, _, _, _, PP' ++ [(after r u v, i2 + 1)], Z' ++ [after r u v], rfl, fun h o eh => ?_, tt68 _ _ hrb6, (kt6.trans kt7).trans (kt_lst eB7), by rw [upd_ne nBP.symm]; exact eP7, by rw [upd_ne nGB]; exact eG7, kd5.put hin (by omega), by rw [upd_ne nWB]; exact eW7, trW6.tt tt68, upd_same, (tr6.tt tt68).snoc (tt68 _ _ e6), by rw [List.map_append]; exact nxt sr9 (List.mem_append_right _ (List.mem_singleton.mpr rfl)), bf5.new hdr sl hin, ?_, by rw [List.map_append]; exact List.mem_append_left _ rL5⟩
              · rw [upd_ne (ne_of_none eh nHB)]
                exact s7 _ _ eh
              · rw [List.map_append, List.length_append, List.length_append]
                show 2 * (4096 - ((PP'.map Prod.fst).length + 1)) + (Z'.length + 1) ≤ _
                omega
          · rintro σ H5 ⟨y6, y7, y8, kvs, zs, PP', Z', rfl, s5, hrb5, kt5, eP5, eG5, kd5, eW5, trW5, eB5, tr5, sr5, bf5, ms5, rL5⟩
            rw [pl, List.take_length] at sr5
            exact ⟨_, _, _, _, kvs, zs, PP', Z', rfl, s5, eG5, kd5, eW5, trW5, eB5, tr5, sr5.more fun z a b p _ => .inl fun e => by rw [← e]; exact p, bf5, ms5⟩
        · rintro σ H3 ⟨y5, y6, y7, y8, kvs, zs, PP', Z', rfl, s3, eG3, kd3, eW3, trW3, eB3, tr3, sr3, bf3, ms3⟩
          rw [yl0, List.drop_length, List.nil_append] at sr3
          rw [yl0, List.drop_length] at bf3
          exact ⟨.ref B, rfl, _, by omega, _, _, _, _, _, B, kvs, zs, PP', Z', dd + 1, rfl, s3, eG3, kd3, eB3, tr3, sr3, bf3.shift fun z hz nz u v p => sr3.cl z hz nz u v p trivial, rfl⟩
    · rintro σ H' Q1 Q2 hQ ⟨y, e, h0, h1⟩
      exact ⟨y, e, h0, fun Z nZ => by
        obtain ⟨d1, d2, e1, e2, e3, e4, b, eb, k⟩ := h1 Z nZ
        exact ⟨d1, d2, e1, e2, e3, e4, b, eb, hQ _ _ k⟩⟩
def spLOne : Sp := fun vs H Q _ => ∃ (d r c a : Addr) (n : Nat) (ys : List V), vs = [.ref d, .ref a] ∧ Dw H d r c n ∧ n < 900000 ∧ H a = some (.lst ys) ∧ (a ≠ d ∧ a ≠ r ∧ a ≠ c) ∧ 0 < ys.length ∧ ys.length ≤ 5000 ∧
  ∀ (H' : Hp) (y : V), Fm d r H H' → Dw H' d r c (n + 1) → y ∈ ys → Q y H'
theorem ok_LOne {f : Addr} {fd : FuncData} (F : Fun K "_law_one" "_law_one" sLOne f fd) (m_len : mg "len" = none) (oLNext : Own P w K mg base "_law_next" 1 ["_law_state", "_law_many"] spLNext) :
    FnOk P w K mg base CX0 2 f fd ["_law_state", "_law_items"] spLOne := by
  refine F.ok scLOne (fun vs H Q E h => ?_) (fun cdv A outer s H vs Q E hr h => ?_)
  · obtain ⟨d, r, c, a, n, ys, rfl, _⟩ := h
    rfl
  · obtain ⟨d, r, c, a, n, ys, rfl, hD, hn, ha, off, l0, l5, q⟩ := h
    refine ⟨_, (pss_one (ps_ret (pe_ix (ixLK K) (pv 1) (pe_own oLNext (hr.mono (by decide)) (by rfl) (pa_cons (pv 0) (pa_cons (pe_callB (lenK K) (by rfl) m_len (by decide +kernel) (pa_cons (pv 1) pa_nil)) pa_nil))) (fun _ _ => rfl)))), ?_⟩
    refine ⟨.ref a, rfl, .ref d, rfl, .ref a, rfl, a, ys, rfl, .inl (SqL.of ha), d, r, c, n, _, rfl, by omega, by omega, hD, by omega, fun H1 x x0 x1 f1 d1 => ?_⟩
    have hx : x.toNat < ys.length := by omega
    exact ⟨a, _, _, ys[x.toNat], rfl, rfl, SqL.of (f1 _ _ off.1 off.2.1 ha), at_of (j := x.toNat) (by omega) (List.getElem?_eq_getElem hx), q _ _ f1 d1 (List.getElem_mem hx)⟩
end
end TL
namespace TL
open PySem PySem.Spec PyProof.Rows L2
section
variable {P : Program} {w : World} {K : PySem.W.Frag} {mg : Str → Option Value} {base : Heap}
/-! ### distances, backward -/
section
variable {m : Nat} {es : List (Int × Int)} {S T : List Int}
theorem Rn.set {k : Nat} (f : IsFor m es) (sS : IsSet m es S) (h : Rn m es S k T) : IsSet m es T := (h.rch.both f sS).1
theorem Rn.head {u v : Int} : ∀ {k : Nat} {T : List Int}, (u, v) ∈ slidesP m es S → Rn m es (after S u v) k T → Rn m es S (k + 1) T := by
  intro k T p h
  induction h with
  | zero => exact .step .zero p
  | step _ q ih => exact .step ih q
theorem Rn.back {k : Nat} (f : IsFor m es) (sS : IsSet m es S) (h : Rn m es S k T) : Rn m es T k S := by
  induction h with
  | zero => exact .zero
  | @step k T u v h p ih =>
    have sT := h.set f sS
    have q := slide_back f sT p
    refine Rn.head q ?_
    rw [after_back f sT p]
    exact ih
theorem Dst.back {k : Nat} (f : IsFor m es) (sS : IsSet m es S) (h : Dst m es S k T) : Dst m es T k S :=
  ⟨h.1.back f sS, fun j hj => h.2 j (hj.back f (h.1.set f sS))⟩
/-- the first slide to a smaller distance -/
def ClsP (m : Nat) (es : List (Int × Int)) (T S : List Int) (k : Nat) (u v : Int) : Prop := Dst m es T k (after S u v) ∧ ∃ A B, slidesP m es S = A ++ (u, v) :: B ∧ ∀ q ∈ A, ∀ j, Dst m es T j (after S q.1 q.2) → k < j
theorem Dst.drop {j k : Nat} {u v : Int} (f : IsFor m es) (sS : IsSet m es S) (p : (u, v) ∈ slidesP m es S) (h : Dst m es T k S) (g : Dst m es T j (after S u v)) : k ≤ j + 1 := by
  have q := slide_back f sS p
  have := Rn.step g.1 q
  rw [after_back f sS p] at this
  exact h.2 _ this
theorem Dst.down {k : Nat} (f : IsFor m es) (sT : IsSet m es T) (h : Dst m es T (k + 1) S) : ∃ u v, (u, v) ∈ slidesP m es S ∧ Dst m es T k (after S u v) := by
  obtain ⟨S', u, v, h1, h2, rfl⟩ := h.prev
  have s' := h1.1.set f sT
  refine ⟨v, u, slide_back f s' h2, ?_⟩
  rw [after_back f s' h2]
  exact h1
end
/-! ### the program: the smallest shortest plan -/
theorem KN.get {kvs : List (List Key × V)} {PP : List (List Int × Nat)} {m : Nat} {es : List (Int × Int)} {T r : List Int} (h : KN kvs PP) (rc : ∀ r, r ∈ PP.map Prod.fst ↔ Rch m es T r) (ds : ∀ p ∈ PP, Dst m es T p.2 p.1) {n : Nat} (hd : Dst m es T n r) : valV kvs (kI r) = some (.int (n : Int)) := by
  obtain ⟨j, h1, h2⟩ := h.val ((rc r).mpr hd.1.rch)
  have e : j = n := (ds _ h1).uniq hd
  rw [h2, e]
theorem KN.got {kvs : List (List Key × V)} {PP : List (List Int × Nat)} {m : Nat} {es : List (Int × Int)} {S : List Int} (h : KN kvs PP) (rc : ∀ r, r ∈ PP.map Prod.fst ↔ Rch m es S r) (ds : ∀ p ∈ PP, Dst m es S p.2 p.1) (T : List Int) :
    (∃ n, Dst m es S n T ∧ valV kvs (kI T) = some (.int (n : Int))) ∨ ((∀ n, ¬ Dst m es S n T) ∧ valV kvs (kI T) = none) := by
  rcases h.kd.val T with ⟨mt, _⟩ | ⟨nt, e⟩
  · obtain ⟨n, h1, h2⟩ := h.val mt
    exact .inl ⟨n, ds _ h1, h2⟩
  · exact .inr ⟨fun n hn => nt ((rc T).mpr hn.1.rch), e⟩
def spCloserSlide (K : PySem.W.Frag) : Sp := fun vs H Q _ => ∃ (x : V) (t G : Addr) (m : Nat) (es : List (Int × Int)) (S T : List Int) (kvs : List (List Key × V)) (PP : List (List Int × Nat)) (k : Nat), vs = [x, .ref t, .ref G] ∧ m ≤ 12 ∧ IsFor m es ∧ Dp K H x (forD m es) ∧ H t = some (.tup (S.map V.int)) ∧ IsSet m es S ∧ IsSet m es T ∧
  H G = some (.dT kvs) ∧ KN kvs PP ∧ (∀ r, r ∈ PP.map Prod.fst ↔ Rch m es T r) ∧ (∀ p ∈ PP, Dst m es T p.2 p.1) ∧ Dst m es T (k + 1) S ∧
  ∀ (H' : Hp) (p : Addr) (u v : Int), Same H H' → ClsP m es T S k u v → H' p = some (.tup [.int u, .int v]) → Q (.ref p) H'
theorem ok_CloserSlide {f : Addr} {fd : FuncData} (F : Fun K "closer_slide" "closer_slide" sCloserSlide f fd)
    (oPossibleSlides : Own P w K mg base "possible_slides" 3 ["forest", "setting"] (spPossibleSlides K)) (oSlideLamp : Own P w K mg base "slide_lamp" 3 ["forest", "setting", "u", "v"] (spSlideLamp K)) :
    FnOk P w K mg base CX0 4 f fd ["forest", "setting", "distances"] (spCloserSlide K) := by
  refine F.ok scCloserSlide (fun vs H Q E h => ?_) (fun cdv A outer s H vs Q E hr h => ?_)
  · obtain ⟨x, t, G, m, es, S, T, kvs, PP, k, rfl, _⟩ := h
    rfl
  · obtain ⟨x, t, G, m, es, S, T, kvs, PP, k, rfl, hm, f, hx, ht, sS, sT, eG, kn, rc, ds, hk, q⟩ := h
    refine ⟨_, (pss_cons (ps_for PassesOwn.never rfl (piTK K (pe_own oPossibleSlides (hr.mono (by decide)) (by rfl) (pa_cons (pv 0) (pa_cons (pv 1) pa_nil)))) (pgTK K (pgs_cons (pg_name (i := 3) scCloserSlide.nd rfl (Or.inl rfl)) (pgs_cons (pg_name (i := 4) scCloserSlide.nd rfl (Or.inl rfl)) pgs_nil)))
    (pss_one (ps_if (pt_cmpR op_lt (pe_dget (hu_of hr) (pv 2) (pe_own oSlideLamp (hr.mono (by decide)) (by rfl) (pa_cons (pv 0) (pa_cons (pv 1) (pa_cons (pv 3) (pa_cons (pv 4) pa_nil))))) (fun _ _ => rfl)) (pe_dget (hu_of hr) (pv 2) (pv 1) (fun _ _ => rfl)) (nomark _)) (pss_one (ps_ret (pe_tup (pa_cons (pv 3) (pa_cons (pv 4) pa_nil))))) pss_nil)))
    (pss_one (ps_ret pe_non))), ?_⟩
    refine ⟨x, rfl, .ref t, rfl, x, .ref t, m, es, S, rfl, hm, f, hx, Dp.ints (SqT.of ht), sS, fun H1 pz s1 dp => ?_⟩
    obtain ⟨pa, xs, rfl, hpa, hpA⟩ := Dp.tupI dp
    have lx : xs.length = (slidesP m es S).length := by rw [DpAll.length hpA, List.length_map]
    refine ⟨pa, rfl, ⟨_, hpa⟩, for_tup (K := K) (a := pa) (xs := xs) (fun i σ H' => ∃ (y3 y4 : Option V), σ = [some x, some (.ref t), some (.ref G), y3, y4] ∧ Same H1 H' ∧ ∀ q ∈ (slidesP m es S).take i, ∀ j, Dst m es T j (after S q.1 q.2) → k < j) ?_ ?_ ?_ ?_⟩
    · exact ⟨_, _, rfl, Same.refl _, fun q hq => nomatch hq⟩
    · rintro i σ H' _ ⟨y3, y4, rfl, s2, _⟩
      exact Same.tup s2 hpa
    · rintro i w σ H2 hw ⟨y3, y4, rfl, s2, no⟩
      obtain ⟨dd, hd, dw⟩ := DpAll.get hpA hw
      rw [List.getElem?_map] at hd
      obtain ⟨⟨u, v⟩, huv, rfl⟩ := Option.map_eq_some_iff.mp hd
      have muv := List.mem_of_getElem? huv
      obtain ⟨p1, p2, p3⟩ := mem_slidesP.mp muv
      obtain ⟨wa, rfl, hwa⟩ := Dp.prI (Dp.same s2 dw)
      refine ⟨wa, _, rfl, hwa, rfl, _, _, rfl, _, _, rfl, rfl, ?_⟩
      have s12 := s1.trans s2
      have h1 : Rch m es T (after S u v) := .step hk.1.rch muv
      obtain ⟨n, hn⟩ := Rch.rn h1
      obtain ⟨j, hj⟩ := Dst.least hn
      have dj := Dst.drop f sS muv hk hj
      refine ⟨.ref G, rfl, x, rfl, .ref t, rfl, .int u, rfl, .int v, rfl, x, .ref t, m, es, S, u, v, rfl, hm, f, Dp.same s12 hx, Dp.ints (SqT.of (s12 _ _ ht)), sS, p1, p2, p3, fun H3 t3 s3 et3 => ?_⟩
      have s13 := s12.trans s3
      refine ⟨G, .int (j : Int), rfl, by rw [← kn.get rc ds hj]; exact dgetT (s13 _ _ eG) et3, .ref G, rfl, .ref t, rfl, G, .int ((k + 1 : Nat) : Int), rfl, by rw [← kn.get rc ds hk]; exact dgetT (s13 _ _ eG) (s13 _ _ ht), _, _, rfl, rfl, _, rfl, ?_⟩
      by_cases c : j ≤ k
      · obtain rfl : j = k := by omega
        rw [decide_eq_true (show (j : Int) < ((j + 1 : Nat) : Int) by omega)]
        refine iteT ⟨.int u, rfl, .int v, rfl, by show 2 ≤ sizeLine; decide, fun p np => ?_⟩
        obtain ⟨hi, ei⟩ := List.getElem?_eq_some_iff.mp huv
        refine q _ p u v (s13.trans (same_upd np)) ⟨hj, (slidesP m es S).take i, (slidesP m es S).drop (i + 1), ?_, no⟩ upd_same
        have := List.take_append_drop i (slidesP m es S)
        rw [List.drop_eq_getElem_cons hi, ei] at this
        exact this.symm
      · rw [decide_eq_false (show ¬ (j : Int) < ((k + 1 : Nat) : Int) by omega)]
        refine iteF ⟨_, _, rfl, s2.trans s3, fun q hq => ?_⟩
        rw [List.take_add_one, huv] at hq
        rcases List.mem_append.mp hq with hq | hq
        · exact no q hq
        · cases List.mem_singleton.mp hq
          intro j' hj'
          have := hj'.uniq hj
          omega
    · rintro σ H2 ⟨y3, y4, rfl, s2, no⟩
      rw [lx, List.take_length] at no
      obtain ⟨u, v, p, hd⟩ := hk.down f sT
      exact absurd (no _ p _ hd) (Nat.lt_irrefl _)
/-- the plan found by the first slide to a smaller distance, again and again -/
inductive ShP (m : Nat) (es : List (Int × Int)) (T : List Int) : List Int → List (Int × Int) → Prop
  | nil : ShP m es T T []
  | cons {S : List Int} {k : Nat} {u v : Int} {ps : List (Int × Int)} : Dst m es T (k + 1) S → ClsP m es T S k u v → ShP m es T (after S u v) ps → ShP m es T S ((u, v) :: ps)
theorem ClsP.mem {m : Nat} {es : List (Int × Int)} {S T : List Int} {k : Nat} {u v : Int} (h : ClsP m es T S k u v) : (u, v) ∈ slidesP m es S := by
  obtain ⟨_, A, B, e, _⟩ := h
  rw [e]
  exact List.mem_append_right _ List.mem_cons_self
theorem ShP.walk {m : Nat} {es : List (Int × Int)} {T : List Int} : ∀ {ps : List (Int × Int)} {S : List Int}, ShP m es T S ps → TL.walk m es S ps = some T ∧ Dst m es T ps.length S
  | [], _, .nil => ⟨rfl, .zero⟩
  | (u, v) :: ps, S, .cons hk hc h => by
    obtain ⟨h1, h2⟩ := ShP.walk h
    have e := hc.1.uniq h2
    subst e
    refine ⟨?_, hk⟩
    rw [walk_push hc.mem]
    exact h1
theorem eqv_intsD (a b : List Int) : PyData.eqv (intsD a) (intsD b) = decide (a = b) := by
  simp only [intsD, PyData.eqv, eqv_ints]
def spShortestPlan (K : PySem.W.Frag) : Sp := fun vs H Q _ => ∃ (x : V) (t t2 : Addr) (m : Nat) (es : List (Int × Int)) (S T : List Int), vs = [x, .ref t, .ref t2] ∧ m ≤ 12 ∧ IsFor m es ∧ Dp K H x (forD m es) ∧ H t = some (.tup (S.map V.int)) ∧ H t2 = some (.tup (T.map V.int)) ∧ IsSet m es S ∧ IsSet m es T ∧
  ∀ (H' : Hp) (r : V), Same H H' → ((¬ Rch m es S T ∧ r = .non) ∨ (Rch m es S T ∧ ∃ (b : Addr) (xs : List V) (ps : List (Int × Int)), ShP m es T S ps ∧ r = .ref b ∧ H' b = some (.tup xs) ∧ DpAll K H' xs (ps.map prD) ∧ ps.length ≤ 4096)) → Q r H'
theorem ok_ShortestPlan {f : Addr} {fd : FuncData} (F : Fun K "shortest_plan" "shortest_plan" sShortestPlan f fd) (m_tuple : mg "tuple" = none)
    (oDistancesFrom : Own P w K mg base "distances_from" 4 ["forest", "setting"] (spDistancesFrom K)) (oCloserSlide : Own P w K mg base "closer_slide" 4 ["forest", "setting", "distances"] (spCloserSlide K)) (oSlideLamp : Own P w K mg base "slide_lamp" 3 ["forest", "setting", "u", "v"] (spSlideLamp K)) :
    FnOk P w K mg base CX0 5 f fd ["forest", "first", "second"] (spShortestPlan K) := by
  refine F.ok scShortestPlan (fun vs H Q E h => ?_) (fun cdv A outer s H vs Q E hr h => ?_)
  · obtain ⟨x, t, t2, m, es, S, T, rfl, _⟩ := h
    rfl
  · obtain ⟨x, t, t2, m, es, S, T, rfl, hm, f, hx, ht, ht2, sS, sT, q⟩ := h
    refine ⟨_, (pss_cons (ps_set (i := 3) scShortestPlan.nd rfl (.inl rfl) (pe_own oDistancesFrom (hr.mono (by decide)) (by rfl) (pa_cons (pv 0) (pa_cons (pv 2) pa_nil))))
    (pss_cons (ps_if (pt_cmp (pc_dnotin (hu_of hr) (pv 1) (pv 3))) (pss_one (ps_ret pe_non)) pss_nil)
    (pss_cons (ps_set (i := 4) scShortestPlan.nd rfl (.inl rfl) (pe_lst pa_nil))
    (pss_cons (ps_set (i := 5) scShortestPlan.nd rfl (.inl rfl) (pv 1))
    (pss_cons (ps_while PassesOwn.never (pt_cmpR (neDK K hr.units) (pv 5) (pv 2) (nomark _)) (pss_cons (ps_asg (pe_own oCloserSlide (hr.mono (by decide)) (by rfl) (pa_cons (pv 0) (pa_cons (pv 5) (pa_cons (pv 3) pa_nil)))) (pgTK K (pgs_cons (pg_name (i := 6) scShortestPlan.nd rfl (Or.inl rfl)) (pgs_cons (pg_name (i := 7) scShortestPlan.nd rfl (Or.inl rfl)) pgs_nil))))
    (pss_cons (ps_expr (bmK K PySem.F.plainAttrs_list PySem.F.slot_list_append PySem.F.type_list_append mt_append (pv 4) (pa_cons (pe_tup (pa_cons (pv 6) (pa_cons (pv 7) pa_nil))) pa_nil)))
    (pss_one (ps_set (i := 5) scShortestPlan.nd rfl (.inl rfl) (pe_own oSlideLamp (hr.mono (by decide)) (by rfl) (pa_cons (pv 0) (pa_cons (pv 5) (pa_cons (pv 6) (pa_cons (pv 7) pa_nil))))))))))
    (pss_one (ps_ret (pe_callTy (tupleK K) (by rfl) m_tuple (by decide +kernel) (pa_cons (pv 4) pa_nil))))))))), ?_⟩
    refine ⟨x, rfl, .ref t2, rfl, x, t2, m, es, T, rfl, hm, f, hx, ht2, sT, fun H1 G kvs PP s1 eG kn nd rc ds l4 => ?_⟩
    refine ⟨.ref t, rfl, .ref G, rfl, G, _, rfl, dgetT eG (s1 _ _ ht), _, rfl, ?_⟩
    rcases kn.got rc ds S with ⟨n, hn, e⟩ | ⟨hn, e⟩
    rotate_left
    · rw [e]
      refine iteT (q _ _ s1 (.inl ⟨fun r => ?_, rfl⟩))
      obtain ⟨k, hk⟩ := Rch.rn (r.both f sS).2
      obtain ⟨j, hj⟩ := Dst.least hk
      exact hn j hj
    rw [e]
    refine iteF ?_
    have few := hn.few (fun r hr => (rc r).mpr hr) l4
    refine ⟨Nat.zero_le _, fun L nL => ?_⟩
    have sL := same_upd (o := .lst []) nL
    have eL := same_at (o := .lst []) nL
    have nHL : H L = none := s1.free nL
    have eG2 := sL _ _ eG
    have s2 := s1.trans sL
    generalize upd H1 L _ = H2 at eL eG2 s2 ⊢
    refine ⟨.ref t, rfl, ?_⟩
    refine while_ms (fun k σ H' => ∃ (tl : Addr) (y6 y7 : Option V) (ys : List V) (A : List (Int × Int)) (S' : List Int), σ = [some x, some (.ref t), some (.ref t2), some (.ref G), some (.ref L), some (.ref tl), y6, y7] ∧ Same H H' ∧ H' G = some (.dT kvs) ∧ H' L = some (.lst ys) ∧ DpAll K H' ys (A.map prD) ∧ H' tl = some (.tup (S'.map V.int)) ∧ IsSet m es S' ∧ Dst m es T k S' ∧ ys.length + k = n ∧ ∀ ps, ShP m es T S' ps → ShP m es T S (A ++ ps)) n
      ⟨t, _, _, [], [], S, rfl, s2, eG2, eL, .nil, s2 _ _ ht, sS, hn, Nat.zero_add _, fun ps h => h⟩ ?_ ?_
    · rintro k σ H3 ⟨tl, y6, y7, ys, A, S', rfl, s3, eG3, eL3, dA3, etl, sS', hk, lk, sh⟩
      refine ⟨.ref tl, rfl, .ref t2, rfl, intsD S', intsD T, Dp.ints (SqT.of etl), Dp.ints (SqT.of (s3 _ _ ht2)), shaped_intT _, shaped_intT _, _, rfl, ?_⟩
      rw [eqv_intsD]
      cases k with
      | zero =>
        have e0 := hk.zeroI
        subst e0
        rw [decide_eq_true rfl]
        refine iteF ?_
        refine ⟨.ref L, rfl, L, ys, rfl, .inl ⟨SqL.of eL3, fun z nz => ?_⟩⟩
        have sz := same_upd (o := .tup ys) nz
        have sh0 := sh [] .nil
        rw [List.append_nil] at sh0
        have ly : ys.length = A.length := by rw [DpAll.length dA3, List.length_map]
        exact q _ _ (s3.trans sz) (.inr ⟨(hn.1.rch.both f sT).2, z, ys, A, sh0, rfl, upd_same, DpAll.same sz dA3, by omega⟩)
      | succ k =>
        have ne : S' ≠ T := fun e0 => by
          subst e0
          have := hk.uniq .zero
          omega
        rw [decide_eq_false ne]
        refine iteT ?_
        refine ⟨x, rfl, .ref tl, rfl, .ref G, rfl, x, tl, G, m, es, S', T, kvs, PP, k, rfl, hm, f, Dp.same s3 hx, etl, sS', sT, eG3, kn, rc, ds, hk, fun H4 p u v s4 hc ep => ?_⟩
        refine ⟨p, _, rfl, SqT.of ep, rfl, _, _, rfl, _, _, rfl, rfl, ?_⟩
        refine ⟨.ref L, rfl, .inl ⟨rfl, _, SqL.of (s4 _ _ eL3)⟩, .int u, rfl, .int v, rfl, by show 2 ≤ sizeLine; decide, fun p2 np2 => ?_⟩
        have sp := same_upd (o := .tup [V.int u, V.int v]) np2
        have ep2 := same_at (o := .tup [V.int u, V.int v]) np2
        have s35 := s4.trans sp
        have eL5 := s35 _ _ eL3
        have eG5 := s35 _ _ eG3
        have etl5 := s35 _ _ etl
        have dA5 := DpAll.same s35 dA3
        have s05 := s3.trans s35
        generalize upd H4 p2 _ = H5 at ep2 eL5 eG5 etl5 dA5 s05 ⊢
        have kt : KT K H5 (upd H5 L (.lst (ys ++ [V.ref p2]))) := kt_lst eL5
        refine ⟨L, ys, .ref p2, rfl, rfl, eL5, small5000 (by omega), ?_⟩
        have s06 : Same H (upd H5 L (.lst (ys ++ [V.ref p2]))) := fun h o eh => by
          rw [upd_ne (ne_of_none eh nHL)]
          exact s05 _ _ eh
        have eG6 : (upd H5 L (.lst (ys ++ [V.ref p2]))) G = some (.dT kvs) := by
          rw [upd_ne fun z => by rw [z, eL5] at eG5; cases eG5]
          exact eG5
        have etl6 : (upd H5 L (.lst (ys ++ [V.ref p2]))) tl = some (.tup (S'.map V.int)) := by
          rw [upd_ne fun z => by rw [z, eL5] at etl5; cases etl5]
          exact etl5
        have eL6 : (upd H5 L (.lst (ys ++ [V.ref p2]))) L = some (.lst (ys ++ [V.ref p2])) := upd_same
        have dA6 : DpAll K (upd H5 L (.lst (ys ++ [V.ref p2]))) (ys ++ [V.ref p2]) ((A ++ [(u, v)]).map prD) := by
          rw [List.map_append]
          exact DpAll.append (DpAll.kt kt dA5 (only_prs _)) (.cons (Dp.kt kt (Dp.pr (SqT.of ep2)) (only_pr _)) .nil)
        generalize upd H5 L _ = H6 at s06 eG6 etl6 eL6 dA6 ⊢
        have muv := hc.mem
        obtain ⟨p1, p2', p3⟩ := mem_slidesP.mp muv
        refine ⟨x, rfl, .ref tl, rfl, .int u, rfl, .int v, rfl, x, .ref tl, m, es, S', u, v, rfl, hm, f, Dp.same s06 hx, Dp.ints (SqT.of etl6), sS', p1, p2', p3, fun H7 t7 s7 et7 => ?_⟩
        refine ⟨k, Nat.lt_succ_self k, t7, _, _, ys ++ [V.ref p2], A ++ [(u, v)], after S' u v, rfl, s06.trans s7, s7 _ _ eG6, s7 _ _ eL6, DpAll.same s7 dA6, et7, IsSet.slide f sS' muv, hc.1, by rw [List.length_append, List.length_singleton]; omega, fun ps h => ?_⟩
        rw [List.append_assoc]
        exact sh _ (.cons hk hc h)
    · rintro σ H' Q1 Q2 hQ ⟨v1, e1, v2, e2, dd, ee, g1, g2, g3, g4, b, hb, q1⟩
      exact ⟨v1, e1, v2, e2, dd, ee, g1, g2, g3, g4, b, hb, hQ _ _ q1⟩
end
end TL

namespace TL
open PySem PySem.Spec PyProof.Rows L2
section
variable {P : Program} {w : World} {K : PySem.W.Frag} {mg : Str → Option Value} {base : Heap}
/-! ### the smallest shortest plan is one -/
theorem ClsP.uniq {m : Nat} {es : List (Int × Int)} {S T : List Int} {k u v u2 v2 : _} (h : ClsP m es T S k u v) (h2 : ClsP m es T S k u2 v2) : u = u2 ∧ v = v2 := by
  obtain ⟨d1, A, B, e1, n1⟩ := h
  obtain ⟨d2, A2, B2, e2, n2⟩ := h2
  rw [e1] at e2
  rcases Nat.lt_trichotomy A.length A2.length with z | z | z
  · have m : (u, v) ∈ A2 := by
      have q : (A ++ (u, v) :: B)[A.length]? = some (u, v) := by rw [List.getElem?_append_right (Nat.le_refl _), Nat.sub_self]; rfl
      rw [e2, List.getElem?_append_left z] at q
      exact List.mem_of_getElem? q
    exact absurd (n2 _ m _ d1) (Nat.lt_irrefl _)
  · obtain ⟨rfl, e3⟩ := List.append_inj e2 z
    cases e3
    exact ⟨rfl, rfl⟩
  · have m : (u2, v2) ∈ A := by
      have q : (A2 ++ (u2, v2) :: B2)[A2.length]? = some (u2, v2) := by rw [List.getElem?_append_right (Nat.le_refl _), Nat.sub_self]; rfl
      rw [← e2, List.getElem?_append_left z] at q
      exact List.mem_of_getElem? q
    exact absurd (n1 _ m _ d2) (Nat.lt_irrefl _)
theorem ShP.uniq {m : Nat} {es : List (Int × Int)} {T S : List Int} {ps qs : List (Int × Int)} (h : ShP m es T S ps) (h2 : ShP m es T S qs) : ps = qs := by
  induction h generalizing qs with
  | nil =>
    cases h2 with
    | nil => rfl
    | cons hk _ _ => exact absurd (hk.uniq .zero) (by omega)
  | cons hk hc h ih =>
    cases h2 with
    | nil => exact absurd (hk.uniq .zero) (by omega)
    | cons hk2 hc2 h2 =>
      have e := hk.uniq hk2
      obtain rfl := Nat.succ.inj e
      obtain ⟨rfl, rfl⟩ := hc.uniq hc2
      rw [ih h2]
/-! ### plans compared -/
abbrev plD (ps : List (Int × Int)) : PyData := .tuple (ps.map prD)
theorem plD_toD (ps : List (Int × Int)) : plD ps = PySem.W.Datum.toD (PySem.W.Tup.mk ps) := rfl
theorem plD_lt {u v : Int} {ps qs : List (Int × Int)} {p : Int × Int} (h : LtP (u, v) p) : PySem.W.dataLt (plD (p :: qs)) (plD ((u, v) :: ps)) = false ∧ plD (p :: qs) ≠ plD ((u, v) :: ps) := by
  have h : u < p.1 ∨ (u = p.1 ∧ v < p.2) := h
  have ne : p ≠ (u, v) := fun z => by rw [z] at h; rcases h with h | h <;> omega
  refine ⟨?_, fun z => ?_⟩
  · rw [plD_toD, plD_toD, PySem.W.DatumOrd.lt_eq]
    show (if p = (u, v) then _ else if p.1 = u then decide (p.2 < v) else decide (p.1 < u)) = false
    rw [if_neg ne]
    by_cases e : p.1 = u
    · rw [if_pos e]
      exact decide_eq_false (by rcases h with h | h <;> omega)
    · rw [if_neg e]
      exact decide_eq_false (by rcases h with h | h <;> omega)
  · have z := PyData.tuple.inj z
    rw [List.map_cons, List.map_cons] at z
    have z := PyData.tuple.inj (List.cons.inj z).1
    have a := PyData.int.inj (List.cons.inj z).1
    have b := PyData.int.inj (List.cons.inj (List.cons.inj z).2).1
    exact ne (Prod.ext a b)
theorem alike_plans (FL : List (List (Int × Int))) : PySem.W.AlikeAll (FL.map plD) := by
  have e : FL.map plD = (FL.map PySem.W.Tup.mk).map PySem.W.Datum.toD := by rw [List.map_map]; rfl
  rw [e]
  exact PySem.W.alikeAll_datum _
theorem dep_prs : ∀ ps : List (Int × Int), PyData.depthAll (ps.map prD) ≤ 1
  | [] => by simp [PyData.depthAll]
  | p :: ps => by
    have := dep_prs ps
    simp only [List.map_cons, PyData.depthAll, prD, PyData.depth]
    omega
theorem dep_plans : ∀ FL : List (List (Int × Int)), PyData.depthAll (FL.map plD) ≤ 2
  | [] => by simp [PyData.depthAll]
  | l :: FL => by
    have h1 := dep_plans FL
    have h2 := dep_prs l
    simp only [List.map_cons, PyData.depthAll, PyData.depth]
    omega
/-! ### the plans that are kept -/
def Rests (K : PySem.W.Frag) (H : Hp) (kvs : List (List Key × V)) (m : Nat) (es : List (Int × Int)) (T : List Int) (done : List (List Int)) : Prop :=
  kvs.map (·.1) = done.map kI ∧ ∀ r ∈ done, ∃ (b : Addr) (ps : List (Int × Int)), valV kvs (kI r) = some (.ref b) ∧ ShP m es T r ps ∧ Dp K H (.ref b) (plD ps)
theorem only_pl (ps : List (Int × Int)) : only (plD ps) = true := only_tup (only_prs ps)
theorem Rests.kt {H H' : Hp} {kvs : List (List Key × V)} {m : Nat} {es : List (Int × Int)} {T : List Int} {done : List (List Int)} (k : KT K H H') (h : Rests K H kvs m es T done) : Rests K H' kvs m es T done :=
  ⟨h.1, fun r hr => let ⟨b, ps, h1, h2, h3⟩ := h.2 r hr; ⟨b, ps, h1, h2, Dp.kt k h3 (only_pl ps)⟩⟩
theorem Rests.len {H : Hp} {kvs : List (List Key × V)} {m : Nat} {es : List (Int × Int)} {T : List Int} {done : List (List Int)} (h : Rests K H kvs m es T done) : kvs.length = done.length := by
  have := congrArg List.length h.1
  rwa [List.length_map, List.length_map] at this
theorem valV_off {kvs : List (List Key × V)} : ∀ {done : List (List Int)} {r : List Int}, kvs.map (·.1) = done.map kI → r ∉ done → valV kvs (kI r) = none := by
  induction kvs with
  | nil => exact fun _ _ => rfl
  | cons p kvs ih =>
    intro done r h n
    cases done with
    | nil => cases h
    | cons d done =>
      rw [List.map_cons, List.map_cons] at h
      injection h with e1 e2
      rw [valV_neg fun z => n (by rw [kI_inj (e1.symm.trans z)]; exact List.mem_cons_self)]
      exact ih e2 fun z => n (List.mem_cons_of_mem _ z)
theorem valV_app {kvs : List (List Key × V)} {k : List Key} {v : V} {l : List (List Key × V)} : valV kvs k = some v → valV (kvs ++ l) k = some v := by
  induction kvs with
  | nil => exact fun h => nomatch h
  | cons p kvs ih =>
    intro h
    by_cases e : p.1 = k
    · rw [valV_pos e] at h
      rw [List.cons_append, valV_pos e, h]
    · rw [valV_neg e] at h
      rw [List.cons_append, valV_neg e]
      exact ih h
theorem valV_end {kvs : List (List Key × V)} {k : List Key} {v : V} : valV kvs k = none → valV (kvs ++ [(k, v)]) k = some v := by
  induction kvs with
  | nil => exact fun _ => valV_pos rfl
  | cons p kvs ih =>
    intro h
    by_cases e : p.1 = k
    · rw [valV_pos e] at h
      cases h
    · rw [valV_neg e] at h
      rw [List.cons_append, valV_neg e]
      exact ih h
theorem Rests.put {H : Hp} {kvs : List (List Key × V)} {m : Nat} {es : List (Int × Int)} {T : List Int} {done : List (List Int)} {r : List Int} {b : Addr} {ps : List (Int × Int)} (h : Rests K H kvs m es T done) (n : r ∉ done) (sh : ShP m es T r ps) (dp : Dp K H (.ref b) (plD ps)) :
    Rests K H (putK kvs (kI r) (.ref b)) m es T (done ++ [r]) := by
  have e := valV_off h.1 n
  rw [putK_new _ e]
  refine ⟨by rw [List.map_append, List.map_append, h.1]; rfl, fun z hz => ?_⟩
  rcases List.mem_append.mp hz with hz | hz
  · obtain ⟨b2, p2, h1, h2, h3⟩ := h.2 z hz
    exact ⟨b2, p2, valV_app h1, h2, h3⟩
  · rw [List.mem_singleton.mp hz]
    exact ⟨b, ps, valV_end e, sh, dp⟩
/-! ### the plans found from a setting -/
def Fnd (m : Nat) (es : List (Int × Int)) (T r : List Int) (k j : Nat) (FL : List (List (Int × Int))) : Prop :=
  (FL = [] ∧ ∀ q ∈ (slidesP m es r).take j, ∀ n, Dst m es T n (after r q.1 q.2) → k < n) ∨
  ∃ (u v : Int) (ps : List (Int × Int)) (rest : List (List (Int × Int))) (A B : List (Int × Int)), FL = ((u, v) :: ps) :: rest ∧ (slidesP m es r).take j = A ++ (u, v) :: B ∧ Dst m es T k (after r u v) ∧ (∀ q ∈ A, ∀ n, Dst m es T n (after r q.1 q.2) → k < n) ∧ ShP m es T (after r u v) ps ∧
    ∀ l ∈ rest, ∃ p qs, l = p :: qs ∧ p ∈ B
theorem Fnd.skip {m : Nat} {es : List (Int × Int)} {T r : List Int} {k j n : Nat} {FL : List (List (Int × Int))} {u v : Int} (h : Fnd m es T r k j FL) (hq : (slidesP m es r)[j]? = some (u, v)) (hd : Dst m es T n (after r u v)) (hn : ¬ n ≤ k) : Fnd m es T r k (j + 1) FL := by
  have tk : (slidesP m es r).take (j + 1) = (slidesP m es r).take j ++ [(u, v)] := by rw [List.take_add_one, hq]; rfl
  rcases h with ⟨e, h⟩ | ⟨u2, v2, ps, rest, A, B, h1, h2, h3, h4, h5, h6⟩
  · refine .inl ⟨e, fun q hq2 i hi => ?_⟩
    rw [tk] at hq2
    rcases List.mem_append.mp hq2 with hq2 | hq2
    · exact h q hq2 i hi
    · cases List.mem_singleton.mp hq2
      have := hi.uniq hd
      omega
  · exact .inr ⟨u2, v2, ps, rest, A, B ++ [(u, v)], h1, by rw [tk, h2, List.append_assoc]; rfl, h3, h4, h5, fun l hl => let ⟨p, qs, e, hp⟩ := h6 l hl; ⟨p, qs, e, List.mem_append_left _ hp⟩⟩
theorem Fnd.add {m : Nat} {es : List (Int × Int)} {T r : List Int} {k j : Nat} {FL : List (List (Int × Int))} {u v : Int} {ps : List (Int × Int)} (h : Fnd m es T r k j FL) (hq : (slidesP m es r)[j]? = some (u, v)) (hd : Dst m es T k (after r u v)) (sh : ShP m es T (after r u v) ps) : Fnd m es T r k (j + 1) (FL ++ [(u, v) :: ps]) := by
  have tk : (slidesP m es r).take (j + 1) = (slidesP m es r).take j ++ [(u, v)] := by rw [List.take_add_one, hq]; rfl
  rcases h with ⟨rfl, h⟩ | ⟨u2, v2, p2, rest, A, B, h1, h2, h3, h4, h5, h6⟩
  · exact .inr ⟨u, v, ps, [], (slidesP m es r).take j, [], rfl, tk, hd, h, sh, fun _ h => nomatch h⟩
  · refine .inr ⟨u2, v2, p2, rest ++ [(u, v) :: ps], A, B ++ [(u, v)], by rw [h1]; rfl, by rw [tk, h2, List.append_assoc]; rfl, h3, h4, h5, fun l hl => ?_⟩
    rcases List.mem_append.mp hl with hl | hl
    · obtain ⟨p, qs, e, hp⟩ := h6 l hl
      exact ⟨p, qs, e, List.mem_append_left _ hp⟩
    · rw [List.mem_singleton.mp hl]
      exact ⟨_, _, rfl, List.mem_append_right _ List.mem_cons_self⟩
/-- all of them are asked: the first is the least -/
theorem Fnd.all {m : Nat} {es : List (Int × Int)} {T r : List Int} {k : Nat} {FL : List (List (Int × Int))} (isf : IsFor m es) (sT : IsSet m es T) (sr : IsSet m es r) (hk : Dst m es T (k + 1) r) (h : Fnd m es T r k (slidesP m es r).length FL) :
    ∃ (d : List (Int × Int)) (rest : List (List (Int × Int))), FL = d :: rest ∧ ShP m es T r d ∧ ∀ l ∈ rest, PySem.W.dataLt (plD l) (plD d) = false ∧ plD l ≠ plD d := by
  rw [Fnd, List.take_length] at h
  rcases h with ⟨_, h⟩ | ⟨u, v, ps, rest, A, B, h1, h2, h3, h4, h5, h6⟩
  · obtain ⟨u, v, p, hd⟩ := hk.down isf sT
    exact absurd (h _ p _ hd) (Nat.lt_irrefl _)
  · refine ⟨_, rest, h1, .cons hk ⟨h3, A, B, h2, h4⟩ h5, fun l hl => ?_⟩
    obtain ⟨p, qs, rfl, hp⟩ := h6 l hl
    have asc := ascP_slides (m := m) (es := es) sr.asc
    rw [h2] at asc
    exact plD_lt ((List.pairwise_cons.mp (List.pairwise_append.mp asc).2.1).1 p hp)
end
end TL

namespace TL
open PySem PySem.Spec PyProof.Rows L2
section
variable {P : Program} {w : World} {K : PySem.W.Frag} {mg : Str → Option Value} {base : Heap}
open LamX NdefX
/-! ### the key -/
def itV : Stmt → PySem.Expr
  | .For _ i _ _ _ => i
  | _ => .Name "" ⟨0, 0, 0, 0⟩
def subV : PySem.Expr → PySem.Expr
  | .Subscript v _ _ => v
  | _ => .Name "" ⟨0, 0, 0, 0⟩
abbrev lamD : PySem.Expr := kwV (subV (itV ((defBody sLDue).getD 3 (.Pass ⟨0, 0, 0, 0⟩)))) 0
def spLamD : List (Option V) → Sp := fun ws vs H Q _ => ∃ (t G : Addr) (kvs : List (List Key × V)) (b : List Int) (v : V), ws = [some (.ref G)] ∧ vs = [.ref t] ∧ H G = some (.dT kvs) ∧ H t = some (.tup (b.map V.int)) ∧ valV kvs (kI b) = some v ∧ Q v H
theorem scLamD : NScope ["_law_one_here", "_law_steps"] ["_law_one_here"] ["_law_steps"] (lmScope lamD) := nscope_by (by decide +kernel)
theorem ok_LamD {f c : Addr} {q : Str} {cl : List (Str × Addr)} : LmOk P w K mg base CX0 1 f ⟨q, lmArgs lamD, lmBody lamD, lmScope lamD, cl, c⟩ ["_law_one_here"] ["_law_steps"] spLamD := by
  refine lmok_of (N := ["_law_one_here", "_law_steps"]) scLamD (fun _ _ us hl => match us, hl with | [_], _ => rfl) (fun ws vs H Q E h => ?_) (fun A outer s H vs ws Q E hr hw h => ?_)
  · obtain ⟨t, G, kvs, b, v, _, rfl, _⟩ := h
    rfl
  · obtain ⟨t, G, kvs, b, v, rfl, rfl, eG, et, ev, q⟩ := h
    refine ⟨_, (pe_dget (hu_of hr) (pv 1) (pv 0) (fun _ _ => rfl)), ?_⟩
    refine ⟨.ref G, rfl, .ref t, rfl, G, v, rfl, by rw [← ev]; exact dgetT eG et, q⟩
theorem cut1 {xs : List V} (h : 1 ≤ xs.length) : cutV xs (some 1) none = xs.drop 1 := by
  unfold cutV
  have e : HT.sIx xs.length 0 (some 1) = 1 := by
    show (if (1 : Int) < 0 then ((1 : Int) + (xs.length : Int)).toNat else min (1 : Int).toNat xs.length) = 1
    rw [if_neg (by decide)]
    show min 1 xs.length = 1
    omega
  rw [HT.sIx_none, e]
  exact List.take_of_length_le (by rw [List.length_drop]; omega)
/-! ### the law's own plan -/
theorem catD4 {H : Hp} {x y : V} {ds es : List PyData} {Q : VK} (hx : Dp K H x (.tuple ds)) (hy : Dp K H y (.tuple es)) (hl : ds.length + es.length ≤ 5000)
    (q : ∀ H' z, Same H H' → Dp K H' z (.tuple (ds ++ es)) → Q z H') : rCatA K x y H Q := by
  obtain ⟨a, xs, rfl, h1, a1⟩ := Dp.tupI hx
  obtain ⟨b, ys, rfl, h2, a2⟩ := Dp.tupI hy
  have l1 := DpAll.length a1
  have l2 := DpAll.length a2
  refine ⟨a, b, xs, ys, rfl, rfl, h1, h2, by rw [sizeLine_eq]; omega, fun e => ?_, fun _ e => ?_, fun _ _ p np => ?_⟩
  · subst e
    cases a1
    exact q H _ (Same.refl H) hy
  · subst e
    cases a2
    rw [List.append_nil] at q
    exact q H _ (Same.refl H) hx
  · have st := same_upd (o := .tup (xs ++ ys)) np
    exact q _ _ st (.tup (SqT.of upd_same) (DpAll.same st (DpAll.append a1 a2)))
theorem only_pls : ∀ FL : List (List (Int × Int)), onlyAll (FL.map plD) = true
  | [] => rfl
  | l :: FL => by
    show (only (plD l) && onlyAll (FL.map plD)) = true
    rw [only_pl, only_pls FL]
    rfl
def spLDue (K : PySem.W.Frag) (cP : Addr) : Sp := fun vs H Q _ => ∃ (x : V) (t t2 : Addr) (m : Nat) (es : List (Int × Int)) (S T : List Int), vs = [x, .ref t, .ref t2] ∧ m ≤ 12 ∧ IsFor m es ∧ Dp K H x (forD m es) ∧ H t = some (.tup (S.map V.int)) ∧ H t2 = some (.tup (T.map V.int)) ∧ IsSet m es S ∧ IsSet m es T ∧ Tabs (lmT cP "_law_due") H ∧
  ∀ (H' : Hp) (r : V), ExtN H H' → Tabs (lmT cP "_law_due") H' → ((¬ Rch m es S T ∧ r = .non) ∨ (Rch m es S T ∧ ∃ ps : List (Int × Int), ShP m es T S ps ∧ Dp K H' r (.tuple (ps.map prD)) ∧ ps.length ≤ 4096)) → Q r H'
theorem ok_LDue {f c cPLDue : Addr} {fd : FuncData} (F : Fun K "_law_due" "_law_due" sLDue f fd) (hcd : fd.code = .ref c) (hTLDue : TabB base mg c cPLDue) (m_sorted : mg "sorted" = none) (m_min : mg "min" = none)
    (oLReached : Own P w K mg base "_law_reached" 3 ["_law_forest_here", "_law_setting_here"] (spLReached K)) (oLSlides : Own P w K mg base "_law_slides" 2 ["_law_forest_here", "_law_setting_here"] (spLSlides K)) (oLMoved : Own P w K mg base "_law_moved" 1 ["_law_setting_here", "_law_u", "_law_v"] (spLMoved K)) :
    FnOk P w K mg base CX0 5 f fd ["_law_forest_here", "_law_first", "_law_second"] (spLDue K cPLDue) := by
  refine okC F hcd scLDue (fun vs H Q E h => ?_) (fun A outer s H vs Q E hr h => ?_)
  · obtain ⟨x, t, t2, m, es, S, T, rfl, _⟩ := h
    rfl
  · obtain ⟨x, t, t2, m, es, S, T, rfl, hm, isf, hx, ht, ht2, sS, sT, hT, q⟩ := h
    refine ⟨_, (pss_cons (ps_set (i := 3) scLDue.nd rfl (.inr rfl) (pe_own oLReached (hr.mono (by decide)) (by rfl) (pa_cons (pv 0) (pa_cons (pv 2) pa_nil))))
    (pss_cons (ps_if (pt_cmp (pc_dnotin (hu_of hr) (pv 1) (pv 3))) (pss_one (ps_ret pe_non)) pss_nil)
    (pss_cons (ps_set (i := 4) scLDue.nd rfl (.inl rfl) (pe_disp1T (hu_of hr) (pv 2) (pe_tup pa_nil)))
    (pss_cons (ps_for PassesOwn.never rfl (piLK K (pe_slice (slLK K) (pe_sortLm (k := 1) ["_law_steps"] [3] (lmT cPLDue "_law_due") (hr.mono (by decide)) (by rfl) m_sorted (pa_cons (pv 3) pa_nil) hTLDue lm_hm lm_hu) (po_some pe_int) po_none)) (pg_name (i := 5) scLDue.nd rfl (Or.inl rfl))
    (pss_cons (ps_set (i := 6) scLDue.nd rfl (.inl rfl) (pe_lst pa_nil))
    (pss_cons (ps_for PassesOwn.never rfl (piLK K (pe_own oLSlides (hr.mono (by decide)) (by rfl) (pa_cons (pv 0) (pa_cons (pv 5) pa_nil)))) (pgTK K (pgs_cons (pg_name (i := 7) scLDue.nd rfl (Or.inl rfl)) (pgs_cons (pg_name (i := 8) scLDue.nd rfl (Or.inl rfl)) pgs_nil)))
    (pss_cons (ps_set (i := 9) scLDue.nd rfl (.inl rfl) (pe_own oLMoved (hr.mono (by decide)) (by rfl) (pa_cons (pv 5) (pa_cons (pv 7) (pa_cons (pv 8) pa_nil)))))
    (pss_one (ps_if (pt_cmpR op_lt (pe_dget (hu_of hr) (pv 3) (pv 9) (fun _ _ => rfl)) (pe_dget (hu_of hr) (pv 3) (pv 5) (fun _ _ => rfl)) (nomark _)) (pss_one (ps_expr (bmK K PySem.F.plainAttrs_list PySem.F.slot_list_append PySem.F.type_list_append mt_append (pv 6) (pa_cons (pe_op (catAK K) (pe_tup (pa_cons (pe_tup (pa_cons (pv 7) (pa_cons (pv 8) pa_nil))) pa_nil)) (pe_dget (hu_of hr) (pv 4) (pv 9) (fun _ _ => rfl))) pa_nil)))) pss_nil))))
    (pss_one (ps_dput (hu_of hr) (pv 4) (pv 5) (pe_callB (min1K K hr.units) (by rfl) m_min (by decide +kernel) (pa_cons (pv 6) pa_nil)) rfl)))))
    (pss_one (ps_ret (pe_dget (hu_of hr) (pv 4) (pv 1) (fun _ _ => rfl)))))))), ?_⟩
    refine ⟨x, rfl, .ref t2, rfl, x, t2, m, es, T, rfl, hm, isf, hx, ht2, sT, fun H1 G kvs PP s1 eG kn nd rc ds l4 => ?_⟩
    dsimp only [gName, List.set_cons_zero, List.set_cons_succ]
    have T1 := tabs_same hT s1
    refine ⟨.ref t, rfl, .ref G, rfl, G, _, rfl, dgetT eG (s1 _ _ ht), _, rfl, ?_⟩
    rcases kn.got rc ds S with ⟨n, hn, e⟩ | ⟨hn, e⟩
    rotate_left
    · rw [e]
      refine iteT (q _ _ (.of s1) T1 (.inl ⟨fun r => ?_, rfl⟩))
      obtain ⟨k, hk⟩ := Rch.rn (r.both isf sS).2
      obtain ⟨j, hj⟩ := Dst.least hk
      exact hn j hj
    rw [e]
    refine iteF ?_
    dsimp only [tNext]
    -- the plans kept
    refine fun R nR => ?_
    have nt2R : t2 ≠ R := ne_of_none (s1 _ _ ht2) nR
    have nGR : G ≠ R := ne_of_none eG nR
    refine ⟨.ref t2, rfl, Nat.zero_le _, fun z nz => ?_⟩
    have nRz : R ≠ z := fun e => by rw [← e, upd_same] at nz; cases nz
    refine ⟨t2, kI T, .ref z, rfl, ?_, ?_, ?_⟩
    · rw [upd_ne nRz, upd_same]
    · rw [upd_ne (fun e => by rw [← e, upd_ne nt2R, s1 _ _ ht2] at nz; cases nz), upd_ne nt2R, kI_kV]
      exact s1 _ _ ht2
    have s2 : Same H1 (upd (upd (upd H1 R (.dT [])) z (.tup [])) R (.dT [(kI T, .ref z)])) := fun a o e => by
      have n1 := ne_of_none e nR
      rw [upd_ne n1, upd_ne (fun w => by rw [← w, upd_ne n1, e] at nz; cases nz), upd_ne n1]
      exact e
    have eR2 : upd (upd (upd H1 R (.dT [])) z (.tup [])) R (.dT [(kI T, .ref z)]) R = some (.dT [(kI T, .ref z)]) := upd_same
    have ez2 : upd (upd (upd H1 R (.dT [])) z (.tup [])) R (.dT [(kI T, .ref z)]) z = some (.tup []) := by rw [upd_ne nRz.symm, upd_same]
    generalize upd (upd (upd H1 R (.dT [])) z (.tup [])) R (.dT [(kI T, .ref z)]) = H2 at s2 eR2 ez2 ⊢
    dsimp only [gName, List.set_cons_zero, List.set_cons_succ]
    have s02 := s1.trans s2
    have T2 := tabs_same T1 s2
    have eG2 := s2 _ _ eG
    have rs2 : Rests K H2 [(kI T, .ref z)] m es T [T] := ⟨rfl, fun r hr => by
      rw [List.mem_singleton.mp hr]
      exact ⟨z, [], valV_pos rfl, .nil, .tup (SqT.of ez2) .nil⟩⟩
    have nHR : H R = none := s1.free nR
    clear ez2 nz nRz nt2R nR s2 eG T1 s1
    -- by their distances
    refine ⟨.ref G, rfl, T2, fun fl cl' H3 eN nn T3 f0 f1 c1 => ?_⟩
    have bsl : (PP.map Prod.fst).length ≤ 4096 := l4
    obtain ⟨g, hg⟩ : ∃ g : List Int → Int, ∀ r n, Dst m es T n r → g r = (n : Int) := ⟨fun b => match valV kvs (kI b) with
      | some (.int i) => i
      | _ => 0, fun r n hd => by
        show (match valV kvs (kI r) with
          | some (.int i) => i
          | _ => 0) = _
        rw [kn.get rc ds hd]⟩
    have dst : ∀ r ∈ PP.map Prod.fst, ∃ n, Dst m es T n r := fun r hr => by
      obtain ⟨n, hn⟩ := Rch.rn ((rc r).mp hr)
      exact Dst.least hn
    have eG3 := eN _ _ eG2 fun ps w => by cases w
    refine ⟨G, fl, kvs, PP.map Prod.fst, _, _, _, g, rfl, rfl, eG3, kn.kd.1, by omega, f1, c1, rfl, ok_LamD, fun b hb tt H' Q' sm et q' => ?_, fun p ys H4 s4 np ep hys perm pw => ?_⟩
    · obtain ⟨n, hn⟩ := dst b hb
      refine ⟨tt, G, kvs, b, .int (n : Int), rfl, rfl, sm _ _ eG3, et, kn.get rc ds hn, ?_⟩
      have := q' H' (Same.refl _)
      rwa [hg b n hn] at this
    have e03 : ExtN H H4 := ((ExtN.of s02).trans eN).trans (.of s4)
    have T4 := tabs_same T3 s4
    have hx4 := Dp.kt (xnKT e03) hx (only_forD _ _)
    have eR4 := s4 _ _ (eN _ _ eR2 fun ps w => by cases w)
    have eG4 := s4 _ _ eG3
    have rs4 := (rs2.kt (xnKT eN)).kt (Same.kt s4)
    have ht4 := e03 _ _ ht fun ps w => by cases w
    have ht24 := e03 _ _ ht2 fun ps w => by cases w
    obtain ⟨rows, erows⟩ : ∃ rows, rows = ys.map (rowOf H3) := ⟨_, rfl⟩
    rw [← erows] at perm pw
    have yrow : ∀ (i : Nat) (y : V), ys[i]? = some y → ∃ (tt : Addr) (r : List Int), y = V.ref tt ∧ rows[i]? = some r ∧ H4 tt = some (.tup (r.map V.int)) := fun i y hy => by
      obtain ⟨tt, b, rfl, hb, et⟩ := hys y (List.mem_of_getElem? hy)
      exact ⟨tt, b, rfl, by rw [erows, List.getElem?_map, hy]; exact congrArg some (rowOf_tup et), s4 _ _ et⟩
    have lrows : ys.length = rows.length := by rw [erows, List.length_map]
    have lr4 : rows.length ≤ 4096 := by rw [perm.length_eq]; exact bsl
    have ndr : rows.Nodup := perm.symm.nodup nd
    have memr : ∀ r, r ∈ rows ↔ Rch m es T r := fun r => perm.mem_iff.trans (rc r)
    have dstr : ∀ r ∈ rows, ∃ n, Dst m es T n r := fun r hr => dst r (perm.mem_iff.mp hr)
    have hT0 : T ∈ rows := (memr T).mpr .refl
    obtain ⟨tl, erT⟩ : ∃ tl, rows = T :: tl := by
      cases hrw : rows with
      | nil => rw [hrw] at hT0; cases hT0
      | cons r0 tl =>
        have m0 : r0 ∈ rows := by rw [hrw]; exact List.mem_cons_self
        obtain ⟨n0, h0⟩ := dstr r0 m0
        have z0 : n0 = 0 := by
          rw [hrw] at hT0 pw
          rcases List.mem_cons.mp hT0 with e | e
          · rw [← e] at h0
            exact h0.uniq .zero
          · have := (List.pairwise_cons.mp pw).1 T e
            rw [hg r0 n0 h0, hg T 0 .zero] at this
            omega
        subst z0
        exact ⟨tl, by rw [h0.zeroI]⟩
    clear erows hys perm f0 f1 c1 nn rs2 eR2 eG2 s02 T2 T3 eN
    refine ⟨1, rfl, ?_⟩
    dsimp only [tNoPart]
    have ly1 : 1 ≤ ys.length := by rw [lrows, erT, List.length_cons]; omega
    refine ⟨p, ys, rfl, SqL.of ep, fun L nL => ?_⟩
    rw [cut1 ly1]
    have s5 := same_upd (o := .lst (ys.drop 1)) nL
    have eL := same_at (o := .lst (ys.drop 1)) nL
    have e05 := e03.trans (.of s5)
    have T5 := tabs_same T4 s5
    have hx5 := Dp.same s5 hx4
    have eR5 := s5 _ _ eR4
    have eG5 := s5 _ _ eG4
    have rs5 := rs4.kt (Same.kt s5)
    have ht5 := s5 _ _ ht4
    have yrow5 : ∀ (i : Nat) (y : V), ys[i]? = some y → ∃ (tt : Addr) (r : List Int), y = V.ref tt ∧ rows[i]? = some r ∧ upd H4 L (.lst (ys.drop 1)) tt = some (.tup (r.map V.int)) := fun i y hy => let ⟨tt, r, h1, h2, h3⟩ := yrow i y hy; ⟨tt, r, h1, h2, s5 _ _ h3⟩
    generalize upd H4 L (.lst (ys.drop 1)) = H5 at eL e05 T5 hx5 eR5 eG5 rs5 ht5 yrow5 ⊢
    clear s5 e03 T4 hx4 eR4 eG4 rs4 ht4 ht24 yrow nL ep np s4 eG3
    refine ⟨L, rfl, ⟨_, SqL.of eL⟩, for_list (K := K) (a := L) (xs := ys.drop 1) (D := { nx := fun σ H' => tRet (tDGet (tVar 4) (tVar 1)) { nx := fun x H' => Q V.non H', rt := Q } σ H', rt := Q }) (fun i σ H' => ∃ (y5 y6 y7 y8 y9 : Option V) (kvs2 : List (List Key × V)), σ = [some x, some (.ref t), some (.ref t2), some (.ref G), some (.ref R), y5, y6, y7, y8, y9] ∧
      (∀ b o, b ≠ R → H5 b = some o → H' b = some o) ∧ H' R = some (.dT kvs2) ∧ Rests K H' kvs2 m es T (rows.take (i + 1))) ?_ ?_ ?_ ?_⟩
    · exact ⟨_, _, _, _, _, _, rfl, fun b o _ e => e, eR5, by rw [erT]; exact rs5⟩
    · rintro i σ H' hi ⟨y5, y6, y7, y8, y9, kvs2, rfl, ex, _, _⟩
      exact SqL.of (ex _ _ (fun e => by rw [e, eR5] at eL; cases eL) eL)
    · rintro i y σ H6 hy ⟨y5, y6, y7, y8, y9, kvs2, rfl, ex, eR6, rs6⟩
      rw [List.getElem?_drop] at hy
      obtain ⟨tt, r, rfl, hr, et5⟩ := yrow5 _ _ hy
      have mr : r ∈ rows := List.mem_of_getElem? hr
      obtain ⟨n, hn⟩ := dstr r mr
      have isr := ((memr r).mp mr).both isf sT |>.1
      have hrT : r ≠ T := fun e => by
        rw [e, erT, Nat.add_comm, List.getElem?_cons_succ] at hr
        have nd2 := ndr
        rw [erT] at nd2
        exact (List.nodup_cons.mp nd2).1 (List.mem_of_getElem? hr)
      obtain ⟨k, rfl⟩ : ∃ k, n = k + 1 := by
        cases n with
        | zero => exact absurd hn.zeroI hrT
        | succ k => exact ⟨k, rfl⟩
      have notin : r ∉ rows.take (i + 1) := fun hm => by
        obtain ⟨j, hj⟩ := List.getElem?_of_mem hm
        have lj : j < i + 1 := by
          have := (List.getElem?_eq_some_iff.mp hj).1
          rw [List.length_take] at this
          omega
        rw [List.getElem?_take_of_lt lj] at hj
        have l1 := (List.getElem?_eq_some_iff.mp hr).1
        have l2 := (List.getElem?_eq_some_iff.mp hj).1
        exact List.pairwise_iff_getElem.mp ndr j (1 + i) l2 l1 (by omega) (by rw [(List.getElem?_eq_some_iff.mp hr).2, (List.getElem?_eq_some_iff.mp hj).2])
      have before : ∀ w n', Dst m es T n' w → n' < k + 1 → w ∈ rows.take (i + 1) := fun w n' hw hlt => by
        obtain ⟨j, hj⟩ := List.getElem?_of_mem ((memr w).mpr hw.1.rch)
        by_cases lj : j < i + 1
        · exact List.mem_of_getElem? (i := j) (by rw [List.getElem?_take_of_lt lj]; exact hj)
        · have l1 := (List.getElem?_eq_some_iff.mp hr)
          have l2 := (List.getElem?_eq_some_iff.mp hj)
          by_cases e : j = 1 + i
          · rw [e, hr] at hj
            cases hj
            have := hn.uniq hw
            omega
          · have := List.pairwise_iff_getElem.mp pw (1 + i) j l1.1 l2.1 (by omega)
            rw [l1.2, l2.2, hg r _ hn, hg w _ hw] at this
            omega
      have k56 : KT K H5 H6 := fun a xs q => by
        rcases q with (q | ⟨o, q⟩) | q
        · exact .inl (.inl (ex _ _ (fun e => by rw [e, eR5] at q; cases q) q))
        · exact .inl (.inr ⟨o, ex _ _ (fun e => by rw [e, eR5] at q; cases q) q⟩)
        · exact .inr q
      have hx6 := Dp.kt k56 hx5 (only_forD _ _)
      have eG6 := ex _ _ nGR eG5
      have et6 := ex _ _ (fun e => by rw [e, eR5] at et5; cases et5) et5
      dsimp only [gName, List.set_cons_zero, List.set_cons_succ]
      refine ⟨Nat.zero_le _, fun B nB => ?_⟩
      have s7 := same_upd (o := .lst []) nB
      have eB7 := same_at (o := .lst []) nB
      have hx7 := Dp.same s7 hx6
      have eG7 := s7 _ _ eG6
      have et7 := s7 _ _ et6
      have eR7 := s7 _ _ eR6
      have rs7 := rs6.kt (Same.kt s7)
      have nBR : B ≠ R := fun e => by rw [e, eR6] at nB; cases nB
      generalize upd H6 B (.lst []) = H7 at s7 eB7 hx7 eG7 et7 eR7 rs7 ⊢
      dsimp only [gName, List.set_cons_zero, List.set_cons_succ]
      refine ⟨x, rfl, .ref tt, rfl, x, .ref tt, m, es, r, rfl, hm, isf, hx7, Dp.ints (SqT.of et7), isr, fun H8 P4 ps s8 nP4 eP4 dA => ?_⟩
      have pl : ps.length = (slidesP m es r).length := by rw [DpAll.length dA, List.length_map]
      have nBP : B ≠ P4 := ne_of_none eB7 nP4
      have eB8 := s8 _ _ eB7
      have eG8 := s8 _ _ eG7
      have et8 := s8 _ _ et7
      have eR8 := s8 _ _ eR7
      have rs8 := rs7.kt (Same.kt s8)
      refine ⟨P4, rfl, ⟨_, SqL.of eP4⟩, for_list (K := K) (a := P4) (xs := ps) (fun j σ H' => ∃ (y7 y8 y9 : Option V) (zs : List V) (FL : List (List (Int × Int))), σ = [some x, some (.ref t), some (.ref t2), some (.ref G), some (.ref R), some (.ref tt), some (.ref B), y7, y8, y9] ∧
        (∀ b o, b ≠ B → H8 b = some o → H' b = some o) ∧ H' B = some (.lst zs) ∧ DpAll K H' zs (FL.map plD) ∧ Fnd m es T r k j FL ∧ zs.length ≤ j) ?_ ?_ ?_ ?_⟩
      · exact ⟨_, _, _, [], [], rfl, fun b o _ e => e, eB8, .nil, .inl ⟨rfl, fun q hq => nomatch hq⟩, Nat.le_refl _⟩
      · rintro j σ H' _ ⟨y7, y8, y9, zs, FL, rfl, e9, _⟩
        exact SqL.of (e9 _ _ nBP.symm eP4)
      · rintro j y σ H9 hy ⟨y7, y8, y9, zs, FL, rfl, e9, eB9, dz9, fn, lz⟩
        obtain ⟨dd, hdd, dp⟩ := DpAll.get dA hy
        rw [List.getElem?_map] at hdd
        obtain ⟨⟨u, v⟩, huv, rfl⟩ := Option.map_eq_some_iff.mp hdd
        have sl := List.mem_of_getElem? huv
        have lP : (slidesP m es r).length ≤ 500 := by
          have h1 : (slidesP m es r).length ≤ (stepsL m es r).length := List.length_filter_le _ _
          have h2 := steps_len m es r
          have h3 := isr.len
          have h4 : r.length * m ≤ 12 * 12 := Nat.mul_le_mul (by omega) hm
          omega
        have jl : j < (slidesP m es r).length := (List.getElem?_eq_some_iff.mp huv).1
        obtain ⟨pp, rfl, hpp⟩ := Dp.prI dp
        have k89 : KT K H8 H9 := fun a xs q => by
          rcases q with (q | ⟨o, q⟩) | q
          · exact .inl (.inl (e9 _ _ (fun e => by rw [e, eB8] at q; cases q) q))
          · exact .inl (.inr ⟨o, e9 _ _ (fun e => by rw [e, eB8] at q; cases q) q⟩)
          · exact .inr q
        have et9 := e9 _ _ (fun e => by rw [e, eB8] at et8; cases et8) et8
        have eG9 := e9 _ _ (fun e => by rw [e, eB8] at eG8; cases eG8) eG8
        have eR9 := e9 _ _ nBR.symm eR8
        have rs9 := rs8.kt k89
        refine ⟨pp, _, rfl, k89 _ _ hpp, rfl, _, _, rfl, _, _, rfl, rfl, ?_⟩
        refine ⟨.ref tt, rfl, .int u, rfl, .int v, rfl, .ref tt, r, u, v, rfl, Dp.ints (SqT.of et9), by have := isr.len; omega, fun H10 t7 s10 e10 => ?_⟩
        dsimp only [gName, List.set_cons_zero, List.set_cons_succ]
        have eG10 := s10 _ _ eG9
        have et10 := s10 _ _ et9
        have eR10 := s10 _ _ eR9
        have eB10 := s10 _ _ eB9
        have rs10 := rs9.kt (Same.kt s10)
        have dz10 := DpAll.same s10 dz9
        have ex10 : ∀ b o, b ≠ B → H8 b = some o → H10 b = some o := fun b o nb e => s10 _ _ (e9 b o nb e)
        have mw : after r u v ∈ rows := (memr _).mpr (.step ((memr r).mp mr) sl)
        obtain ⟨n2, hn2⟩ := dstr _ mw
        refine ⟨.ref G, rfl, .ref t7, rfl, G, .int (n2 : Int), rfl, by rw [← kn.get rc ds hn2]; exact dgetT eG10 e10, .ref G, rfl, .ref tt, rfl, G, .int ((k + 1 : Nat) : Int), rfl, by rw [← kn.get rc ds hn]; exact dgetT eG10 et10, _, _, rfl, rfl, _, rfl, ite2 (fun hc => ?_) (fun hc => ?_)⟩
        rotate_left
        · have hc : ¬ (n2 : Int) < ((k + 1 : Nat) : Int) := fun w => hc (decide_eq_true w)
          exact ⟨_, _, _, zs, FL, rfl, ex10, eB10, dz10, fn.skip huv hn2 (by omega), by omega⟩
        have hc := of_decide_eq_true hc
        obtain rfl : n2 = k := by
          have := Dst.drop isf isr sl hn hn2
          omega
        obtain ⟨tb, pls, hv, sh, dpl⟩ := rs10.2 _ (before _ _ hn2 (by omega))
        refine ⟨.ref B, rfl, .inl ⟨rfl, _, SqL.of eB10⟩, .int u, rfl, .int v, rfl, by show 2 ≤ sizeLine; decide, fun a1 n1 => ?_⟩
        have sa := same_upd (o := .tup [V.int u, V.int v]) n1
        have ea := same_at (o := .tup [V.int u, V.int v]) n1
        generalize upd H10 a1 (.tup [V.int u, V.int v]) = H11 at sa ea ⊢
        refine ⟨by show 1 ≤ sizeLine; decide, fun a2 n2 => ?_⟩
        have sb := same_upd (o := .tup [V.ref a1]) n2
        have eb := same_at (o := .tup [V.ref a1]) n2
        have dab : Dp K (upd H11 a2 (.tup [V.ref a1])) (.ref a2) (.tuple [prD (u, v)]) := .tup (SqT.of eb) (.cons (Dp.pr (SqT.of (sb _ _ ea))) .nil)
        have s12 := sa.trans sb
        generalize upd H11 a2 (.tup [V.ref a1]) = H12 at s12 dab ⊢
        refine ⟨.ref R, rfl, .ref t7, rfl, R, .ref tb, rfl, by rw [← hv]; exact dgetT (s12 _ _ eR10) (s12 _ _ e10), ?_⟩
        have fw := (sh.walk).2.few (fun z hz => (memr z).mpr hz) lr4
        refine catD4 dab (Dp.same s12 dpl) (by rw [List.length_map, List.length_singleton]; omega) fun H13 zc s13 dc => ?_
        have s03 := s12.trans s13
        have eB13 := s03 _ _ eB10
        refine ⟨B, _, zc, rfl, rfl, eB13, small5000 (by omega), ?_⟩
        have kB : KT K H13 (upd H13 B (.lst (zs ++ [zc]))) := kt_lst eB13
        refine ⟨_, _, _, zs ++ [zc], FL ++ [(u, v) :: pls], rfl, fun b o nb e => by rw [upd_ne nb]; exact s03 _ _ (ex10 b o nb e), upd_same, ?_, fn.add huv hn2 sh, by rw [List.length_append]; exact Nat.succ_le_succ lz⟩
        rw [List.map_append]
        exact DpAll.append (DpAll.kt kB (DpAll.same s03 dz10) (only_pls _)) (.cons (Dp.kt kB dc (only_pl ((u, v) :: pls))) .nil)
      · rintro σ H9 ⟨y7, y8, y9, zs, FL, rfl, e9, eB9, dz9, fn, lz⟩
        rw [pl] at fn
        obtain ⟨d, rest, rfl, shd, low⟩ := fn.all isf sT isr hn
        have k89 : KT K H8 H9 := fun a xs q => by
          rcases q with (q | ⟨o, q⟩) | q
          · exact .inl (.inl (e9 _ _ (fun e => by rw [e, eB8] at q; cases q) q))
          · exact .inl (.inr ⟨o, e9 _ _ (fun e => by rw [e, eB8] at q; cases q) q⟩)
          · exact .inr q
        have et9 := e9 _ _ (fun e => by rw [e, eB8] at et8; cases et8) et8
        have eR9 := e9 _ _ nBR.symm eR8
        have rs9 := rs8.kt k89
        cases dz9 with
        | @cons y0 ys0 _ _ dy0 dys0 =>
        obtain ⟨yb, yx, rfl, _, _⟩ := Dp.tupI (show Dp K H9 y0 (.tuple (d.map prD)) from dy0)
        have lk := rs9.len
        have lt : (rows.take (i + 1)).length ≤ 4096 := Nat.le_trans (List.length_take_le' _ _) lr4
        have kR : KT K H9 (upd H9 R (.dT (putK kvs2 (kI r) (.ref yb)))) := kt_dT eR9
        refine ⟨.ref B, rfl, B, .ref yb, ys0, plD d, rest.map plD, rfl, SqL.of eB9, .cons dy0 dys0, alike_plans (d :: rest), Nat.le_trans (dep_plans (d :: rest)) (by decide), fun e he => ?_, .ref R, rfl, .ref tt, rfl, R, _, rfl, dputT eR9 et9 (by rw [lk]; exact small5000 (by omega)), ?_⟩
        · obtain ⟨l, hl, rfl⟩ := List.mem_map.mp he
          exact low l hl
        · have tk : rows.take (i + 1 + 1) = rows.take (i + 1) ++ [r] := by
            rw [List.take_add_one, show rows[i + 1]? = some r by rw [Nat.add_comm]; exact hr]
            rfl
          refine ⟨_, _, _, _, _, _, rfl, fun b o nb e => ?_, upd_same, by rw [tk]; exact (rs9.put notin shd dy0).kt kR⟩
          rw [upd_ne nb]
          have e6 := ex b o nb e
          exact e9 _ _ (fun z => by rw [z, nB] at e6; cases e6) (s8 _ _ (s7 _ _ e6))
    · rintro σ H' ⟨y5, y6, y7, y8, y9, kvs2, rfl, ex, eR6, rs6⟩
      have er : rows.take ((ys.drop 1).length + 1) = rows := by
        rw [List.length_drop, Nat.sub_add_cancel ly1, lrows]
        exact List.take_length
      rw [er] at rs6
      have mS : S ∈ rows := (memr S).mpr hn.1.rch
      obtain ⟨b, ps, hv, sh, dp⟩ := rs6.2 S mS
      have ht6 := ex _ _ (fun e => by rw [e, eR5] at ht5; cases ht5) ht5
      refine ⟨.ref R, rfl, .ref t, rfl, R, .ref b, rfl, by rw [← hv]; exact dgetT eR6 ht6, ?_⟩
      refine q _ _ (fun a o e nt => ?_) (tabs_via T5 fun a o e k => ex a o (fun z => ?_) e) (.inr ⟨(((memr S).mp mS).both isf sT).2, ps, sh, dp, (sh.walk).2.few (fun z hz => (memr z).mpr hz) lr4⟩)
      · exact ex _ _ (fun z => by rw [z, nHR] at e; cases e) (e05 _ _ e nt)
      · rw [z, eR5] at e
        rcases k with ⟨_, rfl⟩ | ⟨_, rfl⟩ <;> cases e
end
end TL

namespace TL
open PySem PySem.Spec PyProof.Rows L2
section
variable {P : Program} {w : World} {K : PySem.W.Frag} {mg : Str → Option Value} {base : Heap}
open LamX NdefX
/-! ### the law: the smallest shortest plan, twice -/
theorem walk_mem {m : Nat} {es : List (Int × Int)} (f : IsFor m es) (hm : m ≤ 12) : ∀ {ps : List (Int × Int)} {S T : List Int}, IsSet m es S → walk m es S ps = some T → ∀ p ∈ ps, smP p
  | [], _, _, _, _ => fun _ h => nomatch h
  | p :: ps, S, T, sS, w => by
    obtain ⟨w1, w2⟩ := walk_cons w
    intro q hq
    rcases List.mem_cons.mp hq with rfl | hq
    · obtain ⟨p1, p2, _⟩ := mem_slidesP.mp (show (q.1, q.2) ∈ _ from w1)
      have r1 := sS.rng _ p1
      have r2 := (mem_nearL.mp p2).1
      exact ⟨⟨by omega, by omega⟩, by have := r2; exact ⟨by omega, by omega⟩⟩
    · exact walk_mem f hm (sS.slide f w1) w2 q hq
theorem ShP.shows {m : Nat} {es : List (Int × Int)} {S T : List Int} {ps : List (Int × Int)} (f : IsFor m es) (hm : m ≤ 12) (sS : IsSet m es S) (h : ShP m es T S ps) (l : ps.length ≤ 4096) : Shows (prsD ps) :=
  (Sm.prs (m := 4096) (walk_mem f hm sS h.walk.1) l).shows (by decide) (by decide)
theorem pl_ok {H : Hp} {m : Nat} {es : List (Int × Int)} {S T : List Int} (f : IsFor m es) (hm : m ≤ 12) (sS : IsSet m es S) {r : V}
    (h : (¬ Rch m es S T ∧ r = .non) ∨ (Rch m es S T ∧ ∃ ps : List (Int × Int), ShP m es T S ps ∧ Dp K H r (.tuple (ps.map prD)) ∧ ps.length ≤ 4096)) :
    ∃ D, Dp K H r D ∧ Shows D ∧ ∀ {H2 : Hp} {r2 : V}, ((¬ Rch m es S T ∧ r2 = .non) ∨ (Rch m es S T ∧ ∃ (b : Addr) (xs : List V) (ps : List (Int × Int)), ShP m es T S ps ∧ r2 = .ref b ∧ H2 b = some (.tup xs) ∧ DpAll K H2 xs (ps.map prD) ∧ ps.length ≤ 4096)) → Dp K H2 r2 D := by
  rcases h with ⟨n, rfl⟩ | ⟨y, ps, sh, dp, l⟩
  · refine ⟨.none, .non, Sm.none.shows (by decide) (by decide), fun h2 => ?_⟩
    rcases h2 with ⟨_, rfl⟩ | ⟨y, _⟩
    · exact .non
    · exact absurd y n
  · refine ⟨_, dp, sh.shows f hm sS l, fun h2 => ?_⟩
    rcases h2 with ⟨n, _⟩ | ⟨_, b, xs, qs, sh2, rfl, hb, dA, _⟩
    · exact absurd y n
    · rw [sh.uniq sh2]
      exact .tup (SqT.of hb) dA
def spLRight (K : PySem.W.Frag) (cP : Addr) : Sp := fun vs H Q _ => ∃ (x : V) (t t2 : Addr) (m : Nat) (es : List (Int × Int)) (S T : List Int), vs = [x, .ref t, .ref t2] ∧ m ≤ 12 ∧ IsFor m es ∧ Dp K H x (forD m es) ∧ H t = some (.tup (S.map V.int)) ∧ H t2 = some (.tup (T.map V.int)) ∧ IsSet m es S ∧ IsSet m es T ∧ Tabs (lmT cP "_law_due") H ∧
  ∀ (H' : Hp), ExtN H H' → Tabs (lmT cP "_law_due") H' → Q (.bl true) H'
theorem ok_LRight {f cP : Addr} {fd : FuncData} (F : Fun K "_law_right" "_law_right" sLRight f fd) (m_repr : mg "repr" = none)
    (oLDue : Own P w K mg base "_law_due" 5 ["_law_forest_here", "_law_first", "_law_second"] (spLDue K cP)) (oShortestPlan : Own P w K mg base "shortest_plan" 5 ["forest", "first", "second"] (spShortestPlan K)) :
    FnG P w K mg base 6 f fd ["_law_forest_here", "_law_first", "_law_second"] (spLRight K cP) := by
  refine okG F scLRight (fun vs H Q E h => ?_) (fun cdv A outer s H vs Q E hr gd h => ?_)
  · obtain ⟨x, t, t2, m, es, S, T, rfl, _⟩ := h
    rfl
  · obtain ⟨x, t, t2, m, es, S, T, rfl, hm, isf, hx, ht, ht2, sS, sT, hT, q⟩ := h
    refine ⟨_, (pss_cons (ps_set (i := 3) scLRight.nd rfl (.inl rfl) (pe_callB (reprK K gd hr.units) (by rfl) m_repr (by decide +kernel) (pa_cons (pe_own oLDue (hr.mono (by decide)) (by rfl) (pa_cons (pv 0) (pa_cons (pv 1) (pa_cons (pv 2) pa_nil)))) pa_nil)))
    (pss_one (ps_ret (pe_and (pe_cmpR op_eq (pe_callB (reprK K gd hr.units) (by rfl) m_repr (by decide +kernel) (pa_cons (pe_own oShortestPlan (hr.mono (by decide)) (by rfl) (pa_cons (pv 0) (pa_cons (pv 1) (pa_cons (pv 2) pa_nil)))) pa_nil)) (pv 3) (nomark _)) (pe_one (pe_cmpR op_eq (pe_callB (reprK K gd hr.units) (by rfl) m_repr (by decide +kernel) (pa_cons (pe_own oShortestPlan (hr.mono (by decide)) (by rfl) (pa_cons (pv 0) (pa_cons (pv 1) (pa_cons (pv 2) pa_nil)))) pa_nil)) (pv 3) (nomark _))))))), ?_⟩
    refine ⟨x, rfl, .ref t, rfl, .ref t2, rfl, x, t, t2, m, es, S, T, rfl, hm, isf, hx, ht, ht2, sS, sT, hT, fun H1 r e1 T1 hr1 => ?_⟩
    obtain ⟨D, dp, sh, al⟩ := pl_ok (K := K) isf hm sS hr1
    refine ⟨r, D, rfl, dp, sh, ?_⟩
    have hx1 := Dp.kt (xnKT e1) hx (only_forD _ _)
    have ht1 := e1 _ _ ht fun ps z => by cases z
    have ht21 := e1 _ _ ht2 fun ps z => by cases z
    refine ⟨x, rfl, .ref t, rfl, .ref t2, rfl, x, t, t2, m, es, S, T, rfl, hm, isf, hx1, ht1, ht21, sS, sT, fun H2 r2 s2 h2 => ?_⟩
    refine ⟨r2, D, rfl, al h2, sh, ?_⟩
    refine ⟨_, rfl, rfl, _, rfl, ?_⟩
    rw [decide_eq_true rfl]
    refine iteT ?_
    refine ⟨x, rfl, .ref t, rfl, .ref t2, rfl, x, t, t2, m, es, S, T, rfl, hm, isf, Dp.same s2 hx1, s2 _ _ ht1, s2 _ _ ht21, sS, sT, fun H3 r3 s3 h3 => ?_⟩
    refine ⟨r3, D, rfl, al h3, sh, ?_⟩
    refine ⟨_, rfl, rfl, ?_⟩
    rw [decide_eq_true rfl]
    exact q _ (e1.trans (.of (s2.trans s3))) (tabs_same T1 (s2.trans s3))
/-! ### a plan of three slides -/
abbrev farE : List (Int × Int) := [(0, 11), (2, 10), (8, 9)]
theorem far_for : IsFor 12 farE := ⟨by unfold AscP LtP; decide, by decide, rng 12, [(9, 8), (10, 2), (11, 0)], ⟨List.Perm.refl _, by decide, by decide⟩, by
  rw [show [(9, 8), (10, 2), (11, 0)].map (edgeOf (rng 12)) = farE.reverse by decide]
  exact (List.reverse_perm _).symm⟩
def mi (z : Int) (r : List Int) : Nat := if z ∈ r then 0 else 1
def mis (r : List Int) : Nat := mi 0 r + mi 2 r + mi 8 r
theorem mi_le {z u v : Int} {r : List Int} : mi z (after r u v) ≤ mi z r + (if z = u then 1 else 0) := by
  unfold mi
  by_cases a : z ∈ after r u v
  · rw [if_pos a]
    exact Nat.zero_le _
  · rw [if_neg a]
    by_cases e : z = u
    · rw [if_pos e]
      omega
    · rw [if_neg (fun hz => a (mem_after.mpr (.inl ⟨hz, e⟩)))]
      omega
theorem mis_le {u v : Int} {r : List Int} : mis (after r u v) ≤ mis r + 1 := by
  have h0 := mi_le (z := 0) (u := u) (v := v) (r := r)
  have h2 := mi_le (z := 2) (u := u) (v := v) (r := r)
  have h8 := mi_le (z := 8) (u := u) (v := v) (r := r)
  unfold mis
  have : (if (0 : Int) = u then 1 else 0) + (if (2 : Int) = u then 1 else 0) + (if (8 : Int) = u then 1 else 0) ≤ 1 := by
    split <;> split <;> split <;> omega
  omega
theorem far_low {j : Nat} {r : List Int} (h : Rn 12 farE [0, 2, 8] j r) : mis r ≤ j := by
  induction h with
  | zero => exact Nat.zero_le _
  | step _ _ ih => exact Nat.le_trans mis_le (Nat.succ_le_succ ih)
theorem aft {S L : List Int} {u v : Int} (p : (S.filter (fun l => !decide (l = u)) ++ [v]).Perm L) (a : Asc L) : after S u v = L := (srtI_congr p).trans (srtI_of_asc a)
theorem fa4 : after [2, 8, 11] 8 9 = [2, 9, 11] := aft (List.isPerm_iff.mp (by decide)) (by unfold Asc; decide)
theorem fa1 : after [0, 2, 8] 0 11 = [2, 8, 11] := aft (List.isPerm_iff.mp (by decide)) (by unfold Asc; decide)
theorem fa2 : after [2, 8, 11] 2 10 = [8, 10, 11] := aft (List.isPerm_iff.mp (by decide)) (by unfold Asc; decide)
theorem fa3 : after [8, 10, 11] 8 9 = [9, 10, 11] := aft (List.isPerm_iff.mp (by decide)) (by unfold Asc; decide)
theorem fb1 : after [9, 10, 11] 9 8 = [8, 10, 11] := aft (List.isPerm_iff.mp (by decide)) (by unfold Asc; decide)
theorem fb2 : after [8, 10, 11] 10 2 = [2, 8, 11] := aft (List.isPerm_iff.mp (by decide)) (by unfold Asc; decide)
theorem fb3 : after [2, 8, 11] 11 0 = [0, 2, 8] := aft (List.isPerm_iff.mp (by decide)) (by unfold Asc; decide)
theorem far1 : Dst 12 farE [0, 2, 8] 1 [2, 8, 11] := ⟨fa1 ▸ .step (u := 0) (v := 11) .zero (by decide +kernel), fun j h => far_low h⟩
theorem far2 : Dst 12 farE [0, 2, 8] 2 [8, 10, 11] := ⟨fa2 ▸ .step (u := 2) (v := 10) far1.1 (by decide +kernel), fun j h => far_low h⟩
theorem far3 : Dst 12 farE [0, 2, 8] 3 [9, 10, 11] := ⟨fa3 ▸ .step (u := 8) (v := 9) far2.1 (by decide +kernel), fun j h => far_low h⟩
theorem fs1 : slidesP 12 farE [9, 10, 11] = [] ++ (9, 8) :: [(10, 2), (11, 0)] := by decide +kernel
theorem fs2 : slidesP 12 farE [8, 10, 11] = [(8, 9)] ++ (10, 2) :: [(11, 0)] := by decide +kernel
theorem fs3 : slidesP 12 farE [2, 8, 11] = [(2, 10), (8, 9)] ++ (11, 0) :: [] := by decide +kernel
theorem far_plan : ShP 12 farE [0, 2, 8] [9, 10, 11] [(9, 8), (10, 2), (11, 0)] := by
  refine .cons far3 ⟨fb1.symm ▸ far2, _, _, fs1, fun _ h => nomatch h⟩ ?_
  rw [fb1]
  refine .cons far2 ⟨fb2.symm ▸ far1, _, _, fs2, fun q hq j hj => ?_⟩ ?_
  · obtain rfl := List.mem_singleton.mp hq
    exact Nat.lt_of_lt_of_le (show 1 < mis (after [8, 10, 11] 8 9) by rw [fa3]; decide) (far_low hj.1)
  rw [fb2]
  refine .cons far1 ⟨fb3.symm ▸ .zero, _, _, fs3, fun q hq j hj => ?_⟩ ?_
  · refine Nat.lt_of_lt_of_le ?_ (far_low hj.1)
    rcases List.mem_cons.mp hq with rfl | hq
    · rw [fa2]
      decide
    · obtain rfl := List.mem_singleton.mp hq
      rw [fa4]
      decide
  rw [fb3]
  exact .nil
theorem far_set {r : List Int} (h : Rch 12 farE [0, 2, 8] r) (s : IsSet 12 farE [0, 2, 8]) : IsSet 12 farE r := (h.both far_for s).1
theorem far_s0 : IsSet 12 farE [0, 2, 8] := ⟨by unfold Asc; decide, by decide, by decide⟩
theorem far_s3 : IsSet 12 farE [9, 10, 11] := far_set far3.1.rch far_s0
/-! ### the law -/
theorem Dw.xn {H H' : Hp} {d r c : Addr} {n : Nat} (h : Dw H d r c n) (e : ExtN H H') : Dw H' d r c n := by
  obtain ⟨k, cs, rs, hk, h1, h2, h3, h4⟩ := h.ex
  exact ⟨k, cs, rs, hk, e _ _ h1 (fun ps z => by cases z), e _ _ h2 (fun ps z => by cases z), e _ _ h3 (fun ps z => by cases z), h4⟩
theorem tabs_fmw {T : List (Addr × Str)} {H H' : Hp} {d r c : Addr} {n : Nat} (t : Tabs T H) (hD : Dw H d r c n) (f : Fm d r H H') : Tabs T H' := by
  obtain ⟨k, cs, rs, hk, h1, h2, h3, h4⟩ := hD.ex
  refine tabs_via t fun a o e k => f a o (fun z => ?_) (fun z => ?_) e
  · rw [z, h1] at e
    rcases k with ⟨_, rfl⟩ | ⟨_, rfl⟩ <;> cases e
  · rw [z, h3] at e
    rcases k with ⟨_, rfl⟩ | ⟨_, rfl⟩ <;> cases e
theorem Fm.ttw {H H' : Hp} {d r c : Addr} {n : Nat} (e : Fm d r H H') (h : Dw H d r c n) : TT H H' := by
  obtain ⟨k, cs, rs, hk, h1, h2, h3, h4⟩ := h.ex
  intro a xs q
  refine e _ _ (fun z => ?_) (fun z => ?_) q
  · rw [z, h1] at q; cases q
  · rw [z, h3] at q; cases q
def TrS (m : Nat) (es : List (Int × Int)) (H : Hp) (v : V) : Prop := ∃ (b : Addr) (T : List Int), v = .ref b ∧ H b = some (.tup (T.map V.int)) ∧ IsSet m es T
theorem TrS.tt {m : Nat} {es : List (Int × Int)} {H H' : Hp} {v : V} (k : TT H H') (h : TrS m es H v) : TrS m es H' v := by
  obtain ⟨b, T, e, h1, h2⟩ := h
  exact ⟨b, T, e, k _ _ h1, h2⟩
theorem IsSet.subl {m : Nat} {es : List (Int × Int)} {S T : List Int} (h : IsSet m es S) (s : T.Sublist S) : IsSet m es T :=
  ⟨List.Pairwise.sublist s h.asc, fun v hv => h.rng v (s.subset hv), fun u hu v hv => h.free u (s.subset hu) v (s.subset hv)⟩
theorem sliceS {H : Hp} {t : Addr} {m : Nat} {es : List (Int × Int)} {S : List Int} {lo hi : Option Int} {Q : VK} (ht : H t = some (.tup (S.map V.int))) (s : IsSet m es S) (q : ∀ H' b T, Same H H' → H' b = some (.tup (T.map V.int)) → IsSet m es T → Q (.ref b) H') : rSlA K (.ref t) lo hi H Q := by
  refine ⟨t, _, rfl, SqT.of ht, fun _ => q _ t S (Same.refl _) ht s, fun _ p np => q _ p ((S.drop (HT.sIx (S.map V.int).length 0 lo)).take (HT.sIx (S.map V.int).length (S.map V.int).length hi - HT.sIx (S.map V.int).length 0 lo)) (same_upd np) ?_ (s.subl ((List.take_sublist _ _).trans (List.drop_sublist _ _)))⟩
  rw [upd_same, List.map_take, List.map_drop]
  rfl
theorem xnTT {H H' : Hp} (e : ExtN H H') : TT H H' := fun a xs q => e _ _ q fun ps z => by cases z
def spLaw (K : PySem.W.Frag) (cP : Addr) : Sp := fun vs H Q _ => ∃ (a : Addr) (ns : List Int), vs = [.ref a] ∧ SqL K H a (ns.map V.int) ∧ ns.length ≤ 63 ∧ Tabs (lmT cP "_law_due") H ∧ ∀ H', Q (.bl true) H'
theorem ok_Law {f cP : Addr} {fd : FuncData} (F : Fun K "law" "law" sLaw f fd) (m_range : mg "range" = none) (m_sorted : mg "sorted" = none)
    (oLDraws : Own P w K mg base "_law_draws" 1 ["_law_script"] (spLDraws K)) (oLForest : Own P w K mg base "_law_forest" 3 ["_law_state", "_law_least", "_law_most"] (spLForest K))
    (oLSetting : Own P w K mg base "_law_setting" 3 ["_law_state", "_law_forest_here"] (spLSetting K)) (oLReached : Own P w K mg base "_law_reached" 3 ["_law_forest_here", "_law_setting_here"] (spLReached K)) (oLOne : Own P w K mg base "_law_one" 2 ["_law_state", "_law_items"] spLOne)
    (oLRight : OwnG P w K mg base "_law_right" 6 ["_law_forest_here", "_law_first", "_law_second"] (spLRight K cP))
    (oShortestPlan : Own P w K mg base "shortest_plan" 5 ["forest", "first", "second"] (spShortestPlan K)) :
    FnG P w K mg base 7 f fd ["_law_script"] (spLaw K cP) := by
  refine okG F scLaw (fun vs H Q E h => ?_) (fun cdv A outer s H vs Q E hr gd h => ?_)
  · obtain ⟨a, ns, rfl, _⟩ := h
    rfl
  · obtain ⟨a, ns, rfl, hS, hlen, hT0, q⟩ := h
    refine ⟨_, (pss_cons (ps_set (i := 1) scLaw.nd rfl (.inr rfl) (pe_own oLDraws (hr.mono (by decide)) (by rfl) (pa_cons (pv 0) pa_nil)))
    (pss_cons (ps_for PassesOwn.never rfl (pi_range1 (by rfl) m_range (pa_cons pe_int pa_nil)) (pg_name (i := 2) scLaw.nd rfl (Or.inl rfl))
    (pss_cons (ps_set (i := 3) scLaw.nd rfl (.inr rfl) (pe_own oLForest (hr.mono (by decide)) (by rfl) (pa_cons (pv 1) (pa_cons pe_int (pa_cons pe_int pa_nil)))))
    (pss_cons (ps_set (i := 4) scLaw.nd rfl (.inr rfl) (pe_own oLSetting (hr.mono (by decide)) (by rfl) (pa_cons (pv 1) (pa_cons (pv 3) pa_nil))))
    (pss_cons (ps_set (i := 5) scLaw.nd rfl (.inr rfl) (pe_callB (sortDT2K hr.units) (by rfl) m_sorted (by decide +kernel) (pa_cons (pe_own oLReached (hr.mono (by decide)) (by rfl) (pa_cons (pv 3) (pa_cons (pv 4) pa_nil))) pa_nil)))
    (pss_cons (ps_set (i := 6) scLaw.nd rfl (.inl rfl) (pe_op op_cat (pe_lst (pa_cons (pv 4) (pa_cons (pe_own oLSetting (hr.mono (by decide)) (by rfl) (pa_cons (pv 1) (pa_cons (pv 3) pa_nil))) (pa_cons (pe_tup pa_nil) pa_nil)))) (pe_lc (own := [("_law_k", 7)]) (g := (gName 7)) (tt := tYes) rfl scLaw.nd (pi_range1 (by rfl) m_range (pa_cons pe_int pa_nil))
      (blkOk_by (own := [("_law_k", 7)]) (N := nLaw) (sc := (defScope sLaw)) (by decide +kernel))
      (fun _ _ _ _ _ => (pg_name (i := 7) scLaw.nd rfl (Or.inl rfl))) (fun _ _ _ _ _ => pts_nil)
      (fun _ _ _ _ _ => (pe_own oLOne (hr.mono (by decide)) (by rfl) (pa_cons (pv 1) (pa_cons (pv 5) pa_nil)))))))
    (pss_one (ps_if (pt_cmpR (neDK K hr.units) (pe_lc (own := [("_law_second", 8)]) (g := (gName 8)) rfl scLaw.nd (piLK K (pv 6))
      (blkOk_by (own := [("_law_second", 8)]) (N := nLaw) (sc := (defScope sLaw)) (by decide +kernel))
      (fun _ _ _ _ _ => (pg_name (i := 8) scLaw.nd rfl (Or.inl rfl))) (fun _ _ _ _ _ => (pts_one (pt_not (pt_val (pe_ownG oLRight (hr.mono (by decide)) gd (by rfl) (pa_cons (pv 3) (pa_cons (pv 4) (pa_cons (pv 8) pa_nil))))))))
      (fun _ _ _ _ _ => (pv 8))) (pe_lst pa_nil) (nomark _)) (pss_one (ps_ret pe_bl)) pss_nil)))))))
    (pss_cons (ps_set (i := 3) scLaw.nd rfl (.inr rfl) (pe_own oLForest (hr.mono (by decide)) (by rfl) (pa_cons (pv 1) (pa_cons pe_int (pa_cons pe_int pa_nil)))))
    (pss_cons (ps_set (i := 4) scLaw.nd rfl (.inr rfl) (pe_slice (slTK K) (pe_own oLSetting (hr.mono (by decide)) (by rfl) (pa_cons (pv 1) (pa_cons (pv 3) pa_nil))) (po_some (pe_un un_neg pe_int)) po_none))
    (pss_cons (ps_set (i := 5) scLaw.nd rfl (.inr rfl) (pe_callB (sortDT2K hr.units) (by rfl) m_sorted (by decide +kernel) (pa_cons (pe_own oLReached (hr.mono (by decide)) (by rfl) (pa_cons (pv 3) (pa_cons (pv 4) pa_nil))) pa_nil)))
    (pss_cons (ps_for PassesOwn.never rfl (pi_range1 (by rfl) m_range (pa_cons pe_int pa_nil)) (pg_name (i := 7) scLaw.nd rfl (Or.inl rfl))
    (pss_one (ps_if (pt_not (pt_val (pe_ownG oLRight (hr.mono (by decide)) gd (by rfl) (pa_cons (pv 3) (pa_cons (pv 4) (pa_cons (pe_own oLOne (hr.mono (by decide)) (by rfl) (pa_cons (pv 1) (pa_cons (pv 5) pa_nil))) pa_nil)))))) (pss_one (ps_ret pe_bl)) pss_nil)))
    (pss_cons (ps_set (i := 3) scLaw.nd rfl (.inr rfl) (pe_tup (pa_cons pe_int (pa_cons (pe_tup (pa_cons (pe_tup (pa_cons pe_int (pa_cons pe_int pa_nil))) (pa_cons (pe_tup (pa_cons pe_int (pa_cons pe_int pa_nil))) (pa_cons (pe_tup (pa_cons pe_int (pa_cons pe_int pa_nil))) pa_nil)))) pa_nil))))
    (pss_one (ps_ret (pe_cmpR (eqDK K hr.units) (pe_own oShortestPlan (hr.mono (by decide)) (by rfl) (pa_cons (pv 3) (pa_cons (pe_tup (pa_cons pe_int (pa_cons pe_int (pa_cons pe_int pa_nil)))) (pa_cons (pe_tup (pa_cons pe_int (pa_cons pe_int (pa_cons pe_int pa_nil)))) pa_nil)))) (pe_tup (pa_cons (pe_tup (pa_cons pe_int (pa_cons pe_int pa_nil))) (pa_cons (pe_tup (pa_cons pe_int (pa_cons pe_int pa_nil))) (pa_cons (pe_tup (pa_cons pe_int (pa_cons pe_int pa_nil))) pa_nil)))) (nomark _))))))))))), ?_⟩
    refine ⟨.ref a, rfl, a, ns, rfl, hS, hlen, fun H1 d r c s1 d1 => ?_⟩
    have T1 := tabs_same hT0 s1
    refine ⟨6, rfl, by decide, by decide, for_range (lo := 0) (n := 6) (fun i σ H' => ∃ (y2 y3 y4 y5 y6 y7 : Option V), σ = [some (.ref a), some (.ref d), y2, y3, y4, y5, y6, y7, none] ∧ Dw H' d r c (500 * i) ∧ Tabs (lmT cP "_law_due") H') ?_ ?_ ?_⟩
    · exact ⟨_, _, _, _, _, _, rfl, d1, T1⟩
    · rintro i σ H2 hi ⟨y2, y3, y4, y5, y6, y7, rfl, d2, T2⟩
      refine ⟨.ref d, rfl, d, r, c, _, 0, 8, rfl, by decide, by decide, d2, by omega, fun H3 x m es f3 d3 _ hm isf hx => ?_⟩
      have T3 := tabs_fmw T2 d2 f3
      refine ⟨.ref d, rfl, x, rfl, d, r, c, _, x, m, es, rfl, d3, by omega, by omega, isf, hx, fun H4 t S f4 d4 iss nt et => ?_⟩
      have T4 := tabs_fmw T3 d3 f4
      have hx4 := Dp.kt (f4.ktw d3) hx (only_forD _ _)
      refine ⟨x, rfl, .ref t, rfl, x, t, m, es, S, rfl, by omega, isf, hx4, et, iss, fun H5 G kvs PP s5 eG kn nd rc ds l4 => ?_⟩
      have hx5 := Dp.same s5 hx4
      have et5 := s5 _ _ et
      have d5 := d4.same s5
      have T5 := tabs_same T4 s5
      refine ⟨kvs, PP.map Prod.fst, G, rfl, eG, kn.kd.1, rows_ok isf iss nd rc, by omega, fun p zs np tz lz => ?_⟩
      have sp := same_upd (o := .lst zs) np
      have ep := same_at (o := .lst zs) np
      have offp := d5.off np
      have tz5 : ∀ y ∈ zs, TrS m es (upd H5 p (.lst zs)) y := fun y hy => by
        obtain ⟨bb, rr, rfl, hrr, hbb⟩ := tz y hy
        exact ⟨bb, rr, rfl, sp _ _ hbb, (((rc rr).mp hrr).both isf iss).1⟩
      have lz0 : 0 < zs.length := by rw [lz]; exact List.length_pos_of_mem ((rc S).mpr .refl)
      have lz4 : zs.length ≤ 4096 := by omega
      have hx6 := Dp.same sp hx5
      have et6 := sp _ _ et5
      have d6 := d5.same sp
      have T6 := tabs_same T5 sp
      generalize upd H5 p (.lst zs) = H6 at sp ep tz5 hx6 et6 d6 T6 ⊢
      clear tz kn rc ds l4 nd eG lz
      dsimp only [gName, List.set_cons_zero, List.set_cons_succ]
      refine ⟨.ref t, rfl, .ref d, rfl, x, rfl, d, r, c, _, x, m, es, rfl, d6, by omega, by omega, isf, hx6, fun H7 t7 S7 f7 d7 iss7 nt7 et7 => ?_⟩
      have T7 := tabs_fmw T6 d6 f7
      have hx7 := Dp.kt (f7.ktw d6) hx6 (only_forD _ _)
      have et67 := (f7.ttw d6) _ _ et6
      have ep7 := f7 _ _ offp.1 offp.2.1 ep
      have tz7 : ∀ y ∈ zs, TrS m es H7 y := fun y hy => (tz5 y hy).tt (f7.ttw d6)
      refine ⟨Nat.zero_le _, fun b0 m0 => ?_⟩
      have sb0 := same_upd (o := .tup []) m0
      have eb0 := same_at (o := .tup []) m0
      generalize upd H7 b0 (.tup []) = H8 at sb0 eb0 ⊢
      refine ⟨by show 3 ≤ sizeLine; decide, fun L0 n0 => ?_⟩
      have sL0 := same_upd (o := .lst [V.ref t, V.ref t7, V.ref b0]) n0
      have eL0 := same_at (o := .lst [V.ref t, V.ref t7, V.ref b0]) n0
      have s79 := sb0.trans sL0
      have offL0 := (d7.same sb0).off n0
      have tr0 : ∀ v ∈ [V.ref t, V.ref t7, V.ref b0], TrS m es (upd H8 L0 (.lst [V.ref t, V.ref t7, V.ref b0])) v := by
        intro v hv
        rcases List.mem_cons.mp hv with rfl | hv
        · exact ⟨t, S, rfl, s79 _ _ et67, iss⟩
        rcases List.mem_cons.mp hv with rfl | hv
        · exact ⟨t7, S7, rfl, s79 _ _ et7, iss7⟩
        · rw [List.mem_singleton.mp hv]
          exact ⟨b0, [], rfl, sL0 _ _ eb0, iss.subl (List.nil_sublist _)⟩
      generalize upd H8 L0 (.lst [V.ref t, V.ref t7, V.ref b0]) = H9 at sL0 eL0 s79 tr0 ⊢
      have d9 := d7.same s79
      have hx9 := Dp.same s79 hx7
      have T9 := tabs_same T7 s79
      have et9 := s79 _ _ et67
      have ep9 := s79 _ _ ep7
      have tz9 : ∀ y ∈ zs, TrS m es H9 y := fun y hy => (tz7 y hy).tt (Same.tt s79)
      refine ⟨5, rfl, by decide, by decide, fun D nD => ?_⟩
      have offD := d9.off nD
      have sD := same_upd (o := .lst []) nD
      have npD : p ≠ D := ne_of_none ep9 nD
      refine lc_range (lo := 0) (n := 5) (fun j H' => ∃ ys : List V, Fm d r H9 H' ∧ Dw H' d r c (500 * i + 60 + 60 + 30 + j) ∧ Tabs (lmT cP "_law_due") H' ∧ H' D = some (.lst ys) ∧ (∀ y ∈ ys, TrS m es H' y) ∧ ys.length = j) ?_ ?_ ?_
      · exact ⟨[], Same.fm sD, (d9.same sD).le (by omega), tabs_same T9 sD, upd_same, (fun _ h => nomatch h), rfl⟩
      · rintro j H' hj ⟨ys, g1, w1, T', eD, trs, ly⟩
        refine ⟨rfl, yesI (iteT ?_)⟩
        refine ⟨.ref d, rfl, .ref p, rfl, d, r, c, p, _, zs, rfl, w1, by omega, g1 _ _ offp.1 offp.2.1 ep9, offp, lz0, by omega, fun H'' y g2 w2 hy => ?_⟩
        have eD2 := g2 _ _ offD.1 offD.2.1 eD
        have T'' := tabs_fmw T' w1 g2
        refine ⟨ys, eD2, small1000 (by omega), ys ++ [y], (g1.trans g2).put1 nD, (w2.put offD).le (by omega), tabs_put T'' eD2, upd_same, fun z hz => ?_, by rw [List.length_append, ly]; rfl⟩
        rcases List.mem_append.mp hz with hz | hz
        · exact ((trs z hz).tt (g2.ttw w1)).tt (tt_lst eD2)
        · rw [List.mem_singleton.mp hz]
          exact ((tz9 y hy).tt ((g1.trans g2).ttw d9)).tt (tt_lst eD2)
      rintro H10 ⟨ys, g10, w10, T10, eD10, trs10, ly10⟩
      refine ⟨L0, D, _, _, rfl, rfl, g10 _ _ offL0.1 offL0.2.1 eL0, eD10, Nat.le_of_lt (small1000 (by show 3 + ys.length ≤ 1000; omega)), fun L1 n1 => ?_⟩
      have sL1 := same_upd (o := .lst ([V.ref t, V.ref t7, V.ref b0] ++ ys)) n1
      have eL1 := same_at (o := .lst ([V.ref t, V.ref t7, V.ref b0] ++ ys)) n1
      have tr1 : ∀ v ∈ [V.ref t, V.ref t7, V.ref b0] ++ ys, TrS m es (upd H10 L1 (.lst ([V.ref t, V.ref t7, V.ref b0] ++ ys))) v := fun v hv => by
        rcases List.mem_append.mp hv with hv | hv
        · exact ((tr0 v hv).tt (g10.ttw d9)).tt (Same.tt sL1)
        · exact (trs10 v hv).tt (Same.tt sL1)
      have l1 : ([V.ref t, V.ref t7, V.ref b0] ++ ys).length = 8 := by rw [List.length_append, ly10]; rfl
      generalize [V.ref t, V.ref t7, V.ref b0] ++ ys = xs at eL1 tr1 l1 sL1 ⊢
      have w11 := w10.same sL1
      have T11 := tabs_same T10 sL1
      have et11 := sL1 _ _ ((g10.ttw d9) _ _ et9)
      have hx11 := Dp.same sL1 (Dp.kt (g10.ktw d9) hx9 (only_forD _ _))
      generalize upd H10 L1 (.lst xs) = H11 at eL1 tr1 w11 T11 et11 hx11 ⊢
      refine ⟨.ref L1, rfl, L1, rfl, ⟨_, SqL.of eL1⟩, fun D2 nD2 => ?_⟩
      have sD2 := same_upd (o := .lst []) nD2
      refine lc_list (K := K) (a := L1) (xs := xs) (fun j H' => ExtN H11 H' ∧ Tabs (lmT cP "_law_due") H' ∧ H' D2 = some (.lst [])) ?_ ?_ ?_ ?_
      · exact ⟨.of sD2, tabs_same T11 sD2, upd_same⟩
      · rintro j H' _ ⟨e1, _⟩
        exact SqL.of (e1 _ _ eL1 fun ps z => by cases z)
      · rintro j v H' hv ⟨e1, T', eD2⟩
        obtain ⟨bb, T, rfl, hb, sT⟩ := (tr1 v (List.mem_of_getElem? hv)).tt (xnTT e1)
        refine ⟨rfl, x, rfl, .ref t, rfl, .ref bb, rfl, x, t, bb, m, es, S, T, rfl, by omega, isf, Dp.kt (xnKT e1) hx11 (only_forD _ _), xnTT e1 _ _ et11, hb, iss, sT, T', fun H'' e2 T'' => ⟨_, rfl, ?_⟩⟩
        exact iteF ⟨e1.trans e2, T'', e2 _ _ eD2 fun ps z => by cases z⟩
      rintro H12 ⟨e12, T12, eD12⟩
      refine ⟨Nat.zero_le _, fun e ne => ?_⟩
      have se := same_upd (o := .lst []) ne
      have ee := same_at (o := .lst []) ne
      generalize upd H12 e (.lst []) = H13 at se ee ⊢
      refine ⟨.list [], .list [], .lst (SqL.of (se _ _ eD12)) .nil, .lst (SqL.of ee) .nil, ?_⟩
      refine ⟨rfl, rfl, _, rfl, ?_⟩
      exact iteF ⟨_, _, _, _, _, _, rfl, ((w11.xn e12).same se).le (by omega), tabs_same T12 se⟩
    · rintro σ H2 ⟨y2, y3, y4, y5, y6, y7, rfl, d2, T2⟩
      refine ⟨.ref d, rfl, d, r, c, _, 12, 12, rfl, by decide, by decide, d2, by omega, fun H3 x m es f3 d3 hm1 hm2 isf hx => ?_⟩
      have T3 := tabs_fmw T2 d2 f3
      refine ⟨.ref d, rfl, x, rfl, d, r, c, _, x, m, es, rfl, d3, by omega, by omega, isf, hx, fun H4 t0 S0 f4 d4 iss0 nt et0 => ?_⟩
      have T4 := tabs_fmw T3 d3 f4
      have hx4 := Dp.kt (f4.ktw d3) hx (only_forD _ _)
      refine ⟨2, rfl, ?_⟩
      dsimp only [tNoPart]
      refine ⟨_, rfl, ?_⟩
      refine sliceS et0 iss0 fun H4' t S s4' et iss => ?_
      have hx4' := Dp.same s4' hx4
      have d4' := d4.same s4'
      have T4' := tabs_same T4 s4'
      dsimp only [gName, List.set_cons_zero, List.set_cons_succ]
      refine ⟨x, rfl, .ref t, rfl, x, t, m, es, S, rfl, by omega, isf, hx4', et, iss, fun H5 G kvs PP s5 eG kn nd rc ds l4 => ?_⟩
      have hx5 := Dp.same s5 hx4'
      have et5 := s5 _ _ et
      have d5 := d4'.same s5
      have T5 := tabs_same T4' s5
      refine ⟨kvs, PP.map Prod.fst, G, rfl, eG, kn.kd.1, rows_ok isf iss nd rc, by omega, fun p zs np tz lz => ?_⟩
      have sp := same_upd (o := .lst zs) np
      have ep := same_at (o := .lst zs) np
      have offp := d5.off np
      have tz5 : ∀ y ∈ zs, TrS m es (upd H5 p (.lst zs)) y := fun y hy => by
        obtain ⟨bb, rr, rfl, hrr, hbb⟩ := tz y hy
        exact ⟨bb, rr, rfl, sp _ _ hbb, (((rc rr).mp hrr).both isf iss).1⟩
      have lz0 : 0 < zs.length := by rw [lz]; exact List.length_pos_of_mem ((rc S).mpr .refl)
      have lz4 : zs.length ≤ 4096 := by omega
      have hx6 := Dp.same sp hx5
      have et6 := sp _ _ et5
      have d6 := d5.same sp
      have T6 := tabs_same T5 sp
      generalize upd H5 p (.lst zs) = H6 at sp ep tz5 hx6 et6 d6 T6 ⊢
      clear tz kn rc ds l4 nd eG lz
      dsimp only [gName, List.set_cons_zero, List.set_cons_succ]
      refine ⟨3, rfl, by decide, by decide, for_range (lo := 0) (n := 3) (fun j σ H' => ∃ (y7 : Option V), σ = [some (.ref a), some (.ref d), y2, some x, some (.ref t), some (.ref p), y6, y7, none] ∧ Dw H' d r c (500 * 6 + 60 + 30 + j) ∧ Tabs (lmT cP "_law_due") H' ∧ TT H6 H' ∧ KT K H6 H' ∧ H' p = some (.lst zs)) ?_ ?_ ?_⟩
      · exact ⟨_, rfl, d6.le (by omega), T6, Same.tt (Same.refl _), Same.kt (Same.refl _), ep⟩
      · rintro j σ H' hj ⟨y7, rfl, w1, T', tt, kt, ep'⟩
        refine ⟨x, rfl, .ref t, rfl, .ref d, rfl, .ref p, rfl, d, r, c, p, _, zs, rfl, w1, by omega, ep', offp, lz0, by omega, fun H'' y g2 w2 hy => ?_⟩
        have T'' := tabs_fmw T' w1 g2
        have tt2 := tt.trans (g2.ttw w1)
        have kt2 := kt.trans (g2.ktw w1)
        obtain ⟨bb, T, rfl, hb, sT⟩ := (tz5 y hy).tt tt2
        refine ⟨x, t, bb, m, es, S, T, rfl, by omega, isf, Dp.kt kt2 hx6 (only_forD _ _), tt2 _ _ et6, hb, iss, sT, T'', fun H3' e2 T3' => ⟨_, rfl, ?_⟩⟩
        exact iteF ⟨_, rfl, (w2.xn e2).le (by omega), T3', tt2.trans (xnTT e2), kt2.trans (xnKT e2), e2 _ _ (g2 _ _ offp.1 offp.2.1 ep') fun ps z => by cases z⟩
      · rintro σ H7 ⟨y7, rfl, w1, T', tt, kt, ep'⟩
        refine ⟨by show 2 ≤ sizeLine; decide, fun a1 m1 => ?_⟩
        have sa1 := same_upd (o := .tup [V.int 0, V.int 11]) m1
        have ea1 := same_at (o := .tup [V.int 0, V.int 11]) m1
        generalize upd H7 a1 (.tup [V.int 0, V.int 11]) = J1 at sa1 ea1 ⊢
        refine ⟨by show 2 ≤ sizeLine; decide, fun a2 m2 => ?_⟩
        have sa2 := same_upd (o := .tup [V.int 2, V.int 10]) m2
        have ea2 := same_at (o := .tup [V.int 2, V.int 10]) m2
        generalize upd J1 a2 (.tup [V.int 2, V.int 10]) = J2 at sa2 ea2 ⊢
        refine ⟨by show 2 ≤ sizeLine; decide, fun a3 m3 => ?_⟩
        have sa3 := same_upd (o := .tup [V.int 8, V.int 9]) m3
        have ea3 := same_at (o := .tup [V.int 8, V.int 9]) m3
        generalize upd J2 a3 (.tup [V.int 8, V.int 9]) = J3 at sa3 ea3 ⊢
        refine ⟨by show 3 ≤ sizeLine; decide, fun a4 m4 => ?_⟩
        have sa4 := same_upd (o := .tup [V.ref a1, V.ref a2, V.ref a3]) m4
        have ea4 := same_at (o := .tup [V.ref a1, V.ref a2, V.ref a3]) m4
        generalize upd J3 a4 (.tup [V.ref a1, V.ref a2, V.ref a3]) = J4 at sa4 ea4 ⊢
        refine ⟨by show 2 ≤ sizeLine; decide, fun a5 m5 => ?_⟩
        have sa5 := same_upd (o := .tup [V.int 12, V.ref a4]) m5
        have ea5 := same_at (o := .tup [V.int 12, V.ref a4]) m5
        have dfar : Dp K (upd J4 a5 (.tup [V.int 12, V.ref a4])) (.ref a5) (forD 12 farE) := .tup (SqT.of ea5) (.cons (.int 12) (.cons (.tup (SqT.of (sa5 _ _ ea4)) (.cons (Dp.pr (SqT.of ((sa2.trans (sa3.trans (sa4.trans sa5))) _ _ ea1))) (.cons (Dp.pr (SqT.of ((sa3.trans (sa4.trans sa5)) _ _ ea2))) (.cons (Dp.pr (SqT.of ((sa4.trans sa5) _ _ ea3))) .nil)))) .nil))
        generalize upd J4 a5 (.tup [V.int 12, V.ref a4]) = J5 at sa5 dfar ⊢
        dsimp only [gName, List.set_cons_zero, List.set_cons_succ]
        refine ⟨.ref a5, rfl, by show 3 ≤ sizeLine; decide, fun b1 n1 => ?_⟩
        have sb1 := same_upd (o := .tup [V.int 9, V.int 10, V.int 11]) n1
        have eb1 := same_at (o := .tup [V.int 9, V.int 10, V.int 11]) n1
        generalize upd J5 b1 (.tup [V.int 9, V.int 10, V.int 11]) = J6 at sb1 eb1 ⊢
        refine ⟨by show 3 ≤ sizeLine; decide, fun b2 n2 => ?_⟩
        have sb2 := same_upd (o := .tup [V.int 0, V.int 2, V.int 8]) n2
        have eb2 := same_at (o := .tup [V.int 0, V.int 2, V.int 8]) n2
        generalize upd J6 b2 (.tup [V.int 0, V.int 2, V.int 8]) = J7 at sb2 eb2 ⊢
        refine ⟨.ref a5, b1, b2, 12, farE, [9, 10, 11], [0, 2, 8], rfl, by decide, far_for, Dp.same (sb1.trans sb2) dfar, sb2 _ _ eb1, eb2, far_s3, far_s0, fun J8 z sz hz => ?_⟩
        have rc : Rch 12 farE [9, 10, 11] [0, 2, 8] := (far3.1.rch.both far_for far_s0).2
        rcases hz with ⟨n, _⟩ | ⟨_, b, xs, ps, sh, rfl, eb, dA, _⟩
        · exact absurd rc n
        rw [sh.uniq far_plan] at dA
        have dz : Dp K J8 (.ref b) (prsD [(9, 8), (10, 2), (11, 0)]) := .tup (SqT.of eb) dA
        refine ⟨by show 2 ≤ sizeLine; decide, fun c1 k1 => ?_⟩
        have sc1 := same_upd (o := .tup [V.int 9, V.int 8]) k1
        have ec1 := same_at (o := .tup [V.int 9, V.int 8]) k1
        generalize upd J8 c1 (.tup [V.int 9, V.int 8]) = J9 at sc1 ec1 ⊢
        refine ⟨by show 2 ≤ sizeLine; decide, fun c2 k2 => ?_⟩
        have sc2 := same_upd (o := .tup [V.int 10, V.int 2]) k2
        have ec2 := same_at (o := .tup [V.int 10, V.int 2]) k2
        generalize upd J9 c2 (.tup [V.int 10, V.int 2]) = J10 at sc2 ec2 ⊢
        refine ⟨by show 2 ≤ sizeLine; decide, fun c3 k3 => ?_⟩
        have sc3 := same_upd (o := .tup [V.int 11, V.int 0]) k3
        have ec3 := same_at (o := .tup [V.int 11, V.int 0]) k3
        generalize upd J10 c3 (.tup [V.int 11, V.int 0]) = J11 at sc3 ec3 ⊢
        refine ⟨by show 3 ≤ sizeLine; decide, fun c4 k4 => ?_⟩
        have sc4 := same_upd (o := .tup [V.ref c1, V.ref c2, V.ref c3]) k4
        have ec4 := same_at (o := .tup [V.ref c1, V.ref c2, V.ref c3]) k4
        have dz2 := Dp.same (sc1.trans (sc2.trans (sc3.trans sc4))) dz
        have dw : Dp K (upd J11 c4 (.tup [V.ref c1, V.ref c2, V.ref c3])) (.ref c4) (prsD [(9, 8), (10, 2), (11, 0)]) := .tup (SqT.of ec4) (.cons (Dp.pr (SqT.of ((sc2.trans (sc3.trans sc4)) _ _ ec1))) (.cons (Dp.pr (SqT.of ((sc3.trans sc4) _ _ ec2))) (.cons (Dp.pr (SqT.of (sc4 _ _ ec3))) .nil)))
        generalize upd J11 c4 (.tup [V.ref c1, V.ref c2, V.ref c3]) = J12 at dz2 dw ⊢
        refine ⟨_, _, dz2, dw, rfl, rfl, ?_⟩
        rw [show PyData.eqv (prsD [(9, 8), (10, 2), (11, 0)]) (prsD [(9, 8), (10, 2), (11, 0)]) = true by decide +kernel]
        exact q _
end
end TL
namespace TL
open PySem PySem.Spec PyProof.Rows L2
section
variable {P : Program} {w : World} {K : PySem.W.Frag} {mg : Str → Option Value} {base : Heap}
end
theorem all_mk {l : PySem.W.OpenLaw} {w : World} {K : PySem.W.Frag} {h : Heap} {mg : Str → Option Value} {fa f0 f1 f2 f3 f4 f5 f6 f7 f8 f9 f10 f11 f12 f13 f14 f15 f16 f17 f18 f19 f20 f21 : Addr} (X : K.In h) (G : h.Ns mainGlobals mg) (hfa : mg "law" = some (.ref fa))
    {od0 an0 od1 an1 od2 an2 od3 an3 od4 an4 od5 an5 od6 an6 od7 an7 od8 an8 od9 an9 od10 an10 od11 an11 od12 an12 od13 an13 od14 an14 od15 an15 od16 an16 od17 an17 od18 an18 od19 an19 od20 an20 od21 an21 : Option Addr} {sl0 sl1 sl2 sl3 sl4 sl5 sl6 sl7 sl8 sl9 sl10 sl11 sl12 sl13 sl14 sl15 sl16 sl17 sl18 sl19 sl20 sl21 : Array (Option Value)} {oc0 kV0 dc0 pm0 cd0 ct0 oc1 kV1 dc1 pm1 cd1 ct1 oc2 kV2 dc2 pm2 cd2 ct2 oc3 kV3 dc3 pm3 cd3 ct3 oc4 kV4 dc4 pm4 cd4 ct4 oc5 kV5 dc5 pm5 cd5 ct5 oc6 kV6 dc6 pm6 cd6 ct6 oc7 kV7 dc7 pm7 cd7 ct7 oc8 kV8 dc8 pm8 cd8 ct8 oc9 kV9 dc9 pm9 cd9 ct9 oc10 kV10 dc10 pm10 cd10 ct10 oc11 kV11 dc11 pm11 cd11 ct11 oc12 kV12 dc12 pm12 cd12 ct12 oc13 kV13 dc13 pm13 cd13 ct13 oc14 kV14 dc14 pm14 cd14 ct14 oc15 kV15 dc15 pm15 cd15 ct15 oc16 kV16 dc16 pm16 cd16 ct16 oc17 kV17 dc17 pm17 cd17 ct17 oc18 kV18 dc18 pm18 cd18 ct18 oc19 kV19 dc19 pm19 cd19 ct19 oc20 kV20 dc20 pm20 cd20 ct20 oc21 kV21 dc21 pm21 cd21 ct21 : Value}
    (a0 : PySem.W.nsIn K mainGlobals "is_number" = some (some (.ref f0))) (l0 : K.lookup f0 = some ⟨oc0, od0, .func (PySem.W.fnOf "is_number" "is_number" (defArgs sIsNumber) (defBody sIsNumber) (defScope sIsNumber) .none kV0 dc0 pm0 an0 cd0 ct0), sl0⟩) (c0 : PySem.W.codeIn K cd0 "is_number" = true) (k0 : PySem.W.keepIn K (.ref f0) = true)
    (a1 : PySem.W.nsIn K mainGlobals "neighbours_of" = some (some (.ref f1))) (l1 : K.lookup f1 = some ⟨oc1, od1, .func (PySem.W.fnOf "neighbours_of" "neighbours_of" (defArgs sNeighboursOf) (defBody sNeighboursOf) (defScope sNeighboursOf) .none kV1 dc1 pm1 an1 cd1 ct1), sl1⟩) (c1 : PySem.W.codeIn K cd1 "neighbours_of" = true) (k1 : PySem.W.keepIn K (.ref f1) = true)
    (a2 : PySem.W.nsIn K mainGlobals "blocking_lamps" = some (some (.ref f2))) (l2 : K.lookup f2 = some ⟨oc2, od2, .func (PySem.W.fnOf "blocking_lamps" "blocking_lamps" (defArgs sBlockingLamps) (defBody sBlockingLamps) (defScope sBlockingLamps) .none kV2 dc2 pm2 an2 cd2 ct2), sl2⟩) (c2 : PySem.W.codeIn K cd2 "blocking_lamps" = true) (k2 : PySem.W.keepIn K (.ref f2) = true)
    (a3 : PySem.W.nsIn K mainGlobals "check_lamp" = some (some (.ref f3))) (l3 : K.lookup f3 = some ⟨oc3, od3, .func (PySem.W.fnOf "check_lamp" "check_lamp" (defArgs sCheckLamp) (defBody sCheckLamp) (defScope sCheckLamp) .none kV3 dc3 pm3 an3 cd3 ct3), sl3⟩) (c3 : PySem.W.codeIn K cd3 "check_lamp" = true) (k3 : PySem.W.keepIn K (.ref f3) = true)
    (a4 : PySem.W.nsIn K mainGlobals "slide_lamp" = some (some (.ref f4))) (l4 : K.lookup f4 = some ⟨oc4, od4, .func (PySem.W.fnOf "slide_lamp" "slide_lamp" (defArgs sSlideLamp) (defBody sSlideLamp) (defScope sSlideLamp) .none kV4 dc4 pm4 an4 cd4 ct4), sl4⟩) (c4 : PySem.W.codeIn K cd4 "slide_lamp" = true) (k4 : PySem.W.keepIn K (.ref f4) = true)
    (a5 : PySem.W.nsIn K mainGlobals "possible_slides" = some (some (.ref f5))) (l5 : K.lookup f5 = some ⟨oc5, od5, .func (PySem.W.fnOf "possible_slides" "possible_slides" (defArgs sPossibleSlides) (defBody sPossibleSlides) (defScope sPossibleSlides) .none kV5 dc5 pm5 an5 cd5 ct5), sl5⟩) (c5 : PySem.W.codeIn K cd5 "possible_slides" = true) (k5 : PySem.W.keepIn K (.ref f5) = true)
    (a6 : PySem.W.nsIn K mainGlobals "distances_from" = some (some (.ref f6))) (l6 : K.lookup f6 = some ⟨oc6, od6, .func (PySem.W.fnOf "distances_from" "distances_from" (defArgs sDistancesFrom) (defBody sDistancesFrom) (defScope sDistancesFrom) .none kV6 dc6 pm6 an6 cd6 ct6), sl6⟩) (c6 : PySem.W.codeIn K cd6 "distances_from" = true) (k6 : PySem.W.keepIn K (.ref f6) = true)
    (a7 : PySem.W.nsIn K mainGlobals "closer_slide" = some (some (.ref f7))) (l7 : K.lookup f7 = some ⟨oc7, od7, .func (PySem.W.fnOf "closer_slide" "closer_slide" (defArgs sCloserSlide) (defBody sCloserSlide) (defScope sCloserSlide) .none kV7 dc7 pm7 an7 cd7 ct7), sl7⟩) (c7 : PySem.W.codeIn K cd7 "closer_slide" = true) (k7 : PySem.W.keepIn K (.ref f7) = true)
    (a8 : PySem.W.nsIn K mainGlobals "shortest_plan" = some (some (.ref f8))) (l8 : K.lookup f8 = some ⟨oc8, od8, .func (PySem.W.fnOf "shortest_plan" "shortest_plan" (defArgs sShortestPlan) (defBody sShortestPlan) (defScope sShortestPlan) .none kV8 dc8 pm8 an8 cd8 ct8), sl8⟩) (c8 : PySem.W.codeIn K cd8 "shortest_plan" = true) (k8 : PySem.W.keepIn K (.ref f8) = true)
    (a9 : PySem.W.nsIn K mainGlobals "_law_draws" = some (some (.ref f9))) (l9 : K.lookup f9 = some ⟨oc9, od9, .func (PySem.W.fnOf "_law_draws" "_law_draws" (defArgs sLDraws) (defBody sLDraws) (defScope sLDraws) .none kV9 dc9 pm9 an9 cd9 ct9), sl9⟩) (c9 : PySem.W.codeIn K cd9 "_law_draws" = true) (k9 : PySem.W.keepIn K (.ref f9) = true)
    (a10 : PySem.W.nsIn K mainGlobals "_law_next" = some (some (.ref f10))) (l10 : K.lookup f10 = some ⟨oc10, od10, .func (PySem.W.fnOf "_law_next" "_law_next" (defArgs sLNext) (defBody sLNext) (defScope sLNext) .none kV10 dc10 pm10 an10 cd10 ct10), sl10⟩) (c10 : PySem.W.codeIn K cd10 "_law_next" = true) (k10 : PySem.W.keepIn K (.ref f10) = true)
    (a11 : PySem.W.nsIn K mainGlobals "_law_one" = some (some (.ref f11))) (l11 : K.lookup f11 = some ⟨oc11, od11, .func (PySem.W.fnOf "_law_one" "_law_one" (defArgs sLOne) (defBody sLOne) (defScope sLOne) .none kV11 dc11 pm11 an11 cd11 ct11), sl11⟩) (c11 : PySem.W.codeIn K cd11 "_law_one" = true) (k11 : PySem.W.keepIn K (.ref f11) = true)
    (a12 : PySem.W.nsIn K mainGlobals "_law_shuffled" = some (some (.ref f12))) (l12 : K.lookup f12 = some ⟨oc12, od12, .func (PySem.W.fnOf "_law_shuffled" "_law_shuffled" (defArgs sLShuffled) (defBody sLShuffled) (defScope sLShuffled) .none kV12 dc12 pm12 an12 cd12 ct12), sl12⟩) (c12 : PySem.W.codeIn K cd12 "_law_shuffled" = true) (k12 : PySem.W.keepIn K (.ref f12) = true)
    (a13 : PySem.W.nsIn K mainGlobals "_law_forest" = some (some (.ref f13))) (l13 : K.lookup f13 = some ⟨oc13, od13, .func (PySem.W.fnOf "_law_forest" "_law_forest" (defArgs sLForest) (defBody sLForest) (defScope sLForest) .none kV13 dc13 pm13 an13 cd13 ct13), sl13⟩) (c13 : PySem.W.codeIn K cd13 "_law_forest" = true) (k13 : PySem.W.keepIn K (.ref f13) = true)
    (a14 : PySem.W.nsIn K mainGlobals "_law_near" = some (some (.ref f14))) (l14 : K.lookup f14 = some ⟨oc14, od14, .func (PySem.W.fnOf "_law_near" "_law_near" (defArgs sLNear) (defBody sLNear) (defScope sLNear) .none kV14 dc14 pm14 an14 cd14 ct14), sl14⟩) (c14 : PySem.W.codeIn K cd14 "_law_near" = true) (k14 : PySem.W.keepIn K (.ref f14) = true)
    (a15 : PySem.W.nsIn K mainGlobals "_law_setting" = some (some (.ref f15))) (l15 : K.lookup f15 = some ⟨oc15, od15, .func (PySem.W.fnOf "_law_setting" "_law_setting" (defArgs sLSetting) (defBody sLSetting) (defScope sLSetting) .none kV15 dc15 pm15 an15 cd15 ct15), sl15⟩) (c15 : PySem.W.codeIn K cd15 "_law_setting" = true) (k15 : PySem.W.keepIn K (.ref f15) = true)
    (a16 : PySem.W.nsIn K mainGlobals "_law_slides" = some (some (.ref f16))) (l16 : K.lookup f16 = some ⟨oc16, od16, .func (PySem.W.fnOf "_law_slides" "_law_slides" (defArgs sLSlides) (defBody sLSlides) (defScope sLSlides) .none kV16 dc16 pm16 an16 cd16 ct16), sl16⟩) (c16 : PySem.W.codeIn K cd16 "_law_slides" = true) (k16 : PySem.W.keepIn K (.ref f16) = true)
    (a17 : PySem.W.nsIn K mainGlobals "_law_moved" = some (some (.ref f17))) (l17 : K.lookup f17 = some ⟨oc17, od17, .func (PySem.W.fnOf "_law_moved" "_law_moved" (defArgs sLMoved) (defBody sLMoved) (defScope sLMoved) .none kV17 dc17 pm17 an17 cd17 ct17), sl17⟩) (c17 : PySem.W.codeIn K cd17 "_law_moved" = true) (k17 : PySem.W.keepIn K (.ref f17) = true)
    (a18 : PySem.W.nsIn K mainGlobals "_law_reached" = some (some (.ref f18))) (l18 : K.lookup f18 = some ⟨oc18, od18, .func (PySem.W.fnOf "_law_reached" "_law_reached" (defArgs sLReached) (defBody sLReached) (defScope sLReached) .none kV18 dc18 pm18 an18 cd18 ct18), sl18⟩) (c18 : PySem.W.codeIn K cd18 "_law_reached" = true) (k18 : PySem.W.keepIn K (.ref f18) = true)
    (a19 : PySem.W.nsIn K mainGlobals "_law_due" = some (some (.ref f19))) (l19 : K.lookup f19 = some ⟨oc19, od19, .func (PySem.W.fnOf "_law_due" "_law_due" (defArgs sLDue) (defBody sLDue) (defScope sLDue) .none kV19 dc19 pm19 an19 cd19 ct19), sl19⟩) (c19 : PySem.W.codeIn K cd19 "_law_due" = true) (k19 : PySem.W.keepIn K (.ref f19) = true)
    (a20 : PySem.W.nsIn K mainGlobals "_law_right" = some (some (.ref f20))) (l20 : K.lookup f20 = some ⟨oc20, od20, .func (PySem.W.fnOf "_law_right" "_law_right" (defArgs sLRight) (defBody sLRight) (defScope sLRight) .none kV20 dc20 pm20 an20 cd20 ct20), sl20⟩) (c20 : PySem.W.codeIn K cd20 "_law_right" = true) (k20 : PySem.W.keepIn K (.ref f20) = true)
    (a21 : PySem.W.nsIn K mainGlobals "law" = some (some (.ref f21))) (l21 : K.lookup f21 = some ⟨oc21, od21, .func (PySem.W.fnOf "law" "law" (defArgs sLaw) (defBody sLaw) (defScope sLaw) .none kV21 dc21 pm21 an21 cd21 ct21), sl21⟩) (c21 : PySem.W.codeIn K cd21 "law" = true) (k21 : PySem.W.keepIn K (.ref f21) = true)
    {kcLDue kpLDue : Addr} (hcLDue : cd19 = .ref kcLDue)
    (z0 : PySem.W.nsIn K mainGlobals "abs" = some none) (z1 : PySem.W.nsIn K mainGlobals "len" = some none) (z2 : PySem.W.nsIn K mainGlobals "int" = some none) (z3 : PySem.W.nsIn K mainGlobals "list" = some none) (z4 : PySem.W.nsIn K mainGlobals "range" = some none) (z5 : PySem.W.nsIn K mainGlobals "max" = some none) (z6 : PySem.W.nsIn K mainGlobals "min" = some none) (z7 : PySem.W.nsIn K mainGlobals "tuple" = some none) (z8 : PySem.W.nsIn K mainGlobals "sorted" = some none) (z9 : PySem.W.nsIn K mainGlobals "isinstance" = some none) (z10 : PySem.W.nsIn K mainGlobals "bool" = some none) (z11 : PySem.W.nsIn K mainGlobals "repr" = some none) :
    ∃ fd : FuncData, (∀ (s : Shared) (v : Value), BindsTo s fd ⟨[v], []⟩ [("_law_script", v)]) ∧ ∀ base : Heap, K.In base → base.Ns mainGlobals mg → (∀ p ∈ [(kcLDue, kpLDue)], LamX.TabB base mg p.1 p.2) → FnG l.prog w K mg base 7 fa fd ["_law_script"] (spLaw K kpLDue) := by
  cases hfa.symm.trans (PySem.W.mg_of X G a21)
  have FIsNumber := fun_mk (st := sIsNumber) l0 c0 k0
  have FNeighboursOf := fun_mk (st := sNeighboursOf) l1 c1 k1
  have FBlockingLamps := fun_mk (st := sBlockingLamps) l2 c2 k2
  have FCheckLamp := fun_mk (st := sCheckLamp) l3 c3 k3
  have FSlideLamp := fun_mk (st := sSlideLamp) l4 c4 k4
  have FPossibleSlides := fun_mk (st := sPossibleSlides) l5 c5 k5
  have FDistancesFrom := fun_mk (st := sDistancesFrom) l6 c6 k6
  have FCloserSlide := fun_mk (st := sCloserSlide) l7 c7 k7
  have FShortestPlan := fun_mk (st := sShortestPlan) l8 c8 k8
  have FLDraws := fun_mk (st := sLDraws) l9 c9 k9
  have FLNext := fun_mk (st := sLNext) l10 c10 k10
  have FLOne := fun_mk (st := sLOne) l11 c11 k11
  have FLShuffled := fun_mk (st := sLShuffled) l12 c12 k12
  have FLForest := fun_mk (st := sLForest) l13 c13 k13
  have FLNear := fun_mk (st := sLNear) l14 c14 k14
  have FLSetting := fun_mk (st := sLSetting) l15 c15 k15
  have FLSlides := fun_mk (st := sLSlides) l16 c16 k16
  have FLMoved := fun_mk (st := sLMoved) l17 c17 k17
  have FLReached := fun_mk (st := sLReached) l18 c18 k18
  have FLDue := fun_mk (st := sLDue) l19 c19 k19
  have FLRight := fun_mk (st := sLRight) l20 c20 k20
  have FLaw := fun_mk (st := sLaw) l21 c21 k21
  have bIsNumber := FIsNumber.binds (ps := ["value"]) fun _ _ _ _ _ _ us hl => match us, hl with | [_], _ => rfl
  have bNeighboursOf := FNeighboursOf.binds (ps := ["forest", "vertex"]) fun _ _ _ _ _ _ us hl => match us, hl with | [_, _], _ => rfl
  have bBlockingLamps := FBlockingLamps.binds (ps := ["forest", "setting", "u", "v"]) fun _ _ _ _ _ _ us hl => match us, hl with | [_, _, _, _], _ => rfl
  have bCheckLamp := FCheckLamp.binds (ps := ["setting", "value"]) fun _ _ _ _ _ _ us hl => match us, hl with | [_, _], _ => rfl
  have bSlideLamp := FSlideLamp.binds (ps := ["forest", "setting", "u", "v"]) fun _ _ _ _ _ _ us hl => match us, hl with | [_, _, _, _], _ => rfl
  have bPossibleSlides := FPossibleSlides.binds (ps := ["forest", "setting"]) fun _ _ _ _ _ _ us hl => match us, hl with | [_, _], _ => rfl
  have bDistancesFrom := FDistancesFrom.binds (ps := ["forest", "setting"]) fun _ _ _ _ _ _ us hl => match us, hl with | [_, _], _ => rfl
  have bCloserSlide := FCloserSlide.binds (ps := ["forest", "setting", "distances"]) fun _ _ _ _ _ _ us hl => match us, hl with | [_, _, _], _ => rfl
  have bShortestPlan := FShortestPlan.binds (ps := ["forest", "first", "second"]) fun _ _ _ _ _ _ us hl => match us, hl with | [_, _, _], _ => rfl
  have bLDraws := FLDraws.binds (ps := ["_law_script"]) fun _ _ _ _ _ _ us hl => match us, hl with | [_], _ => rfl
  have bLNext := FLNext.binds (ps := ["_law_state", "_law_many"]) fun _ _ _ _ _ _ us hl => match us, hl with | [_, _], _ => rfl
  have bLOne := FLOne.binds (ps := ["_law_state", "_law_items"]) fun _ _ _ _ _ _ us hl => match us, hl with | [_, _], _ => rfl
  have bLShuffled := FLShuffled.binds (ps := ["_law_state", "_law_items"]) fun _ _ _ _ _ _ us hl => match us, hl with | [_, _], _ => rfl
  have bLForest := FLForest.binds (ps := ["_law_state", "_law_least", "_law_most"]) fun _ _ _ _ _ _ us hl => match us, hl with | [_, _, _], _ => rfl
  have bLNear := FLNear.binds (ps := ["_law_forest_here", "_law_vertex"]) fun _ _ _ _ _ _ us hl => match us, hl with | [_, _], _ => rfl
  have bLSetting := FLSetting.binds (ps := ["_law_state", "_law_forest_here"]) fun _ _ _ _ _ _ us hl => match us, hl with | [_, _], _ => rfl
  have bLSlides := FLSlides.binds (ps := ["_law_forest_here", "_law_setting_here"]) fun _ _ _ _ _ _ us hl => match us, hl with | [_, _], _ => rfl
  have bLMoved := FLMoved.binds (ps := ["_law_setting_here", "_law_u", "_law_v"]) fun _ _ _ _ _ _ us hl => match us, hl with | [_, _, _], _ => rfl
  have bLReached := FLReached.binds (ps := ["_law_forest_here", "_law_setting_here"]) fun _ _ _ _ _ _ us hl => match us, hl with | [_, _], _ => rfl
  have bLDue := FLDue.binds (ps := ["_law_forest_here", "_law_first", "_law_second"]) fun _ _ _ _ _ _ us hl => match us, hl with | [_, _, _], _ => rfl
  have bLRight := FLRight.binds (ps := ["_law_forest_here", "_law_first", "_law_second"]) fun _ _ _ _ _ _ us hl => match us, hl with | [_, _, _], _ => rfl
  have m_abs := PySem.W.mg_none_of X G z0
  have m_len := PySem.W.mg_none_of X G z1
  have m_int := PySem.W.mg_none_of X G z2
  have m_list := PySem.W.mg_none_of X G z3
  have m_range := PySem.W.mg_none_of X G z4
  have m_max := PySem.W.mg_none_of X G z5
  have m_min := PySem.W.mg_none_of X G z6
  have m_tuple := PySem.W.mg_none_of X G z7
  have m_sorted := PySem.W.mg_none_of X G z8
  have m_isinstance := PySem.W.mg_none_of X G z9
  have m_bool := PySem.W.mg_none_of X G z10
  have m_repr := PySem.W.mg_none_of X G z11
  refine ⟨PySem.W.fnOf "law" "law" (defArgs sLaw) (defBody sLaw) (defScope sLaw) .none kV21 dc21 pm21 an21 cd21 ct21, fun s v => .of_eq rfl, fun base _ _ hTabs => ?_⟩
  have hTLDue : LamX.TabB base mg kcLDue kpLDue := hTabs _ (.head _)
  have ownIsNumber := fun {k : Nat} {sp : Sp} (G0 : FnOk l.prog w K mg base CX0 k f0 _ _ sp) => (Own.mk ⟨f0, _, G0, PySem.W.mg_of X G a0, k0, bIsNumber⟩ : Own l.prog w K mg base "is_number" k ["value"] sp)
  have ownNeighboursOf := fun {k : Nat} {sp : Sp} (G0 : FnOk l.prog w K mg base CX0 k f1 _ _ sp) => (Own.mk ⟨f1, _, G0, PySem.W.mg_of X G a1, k1, bNeighboursOf⟩ : Own l.prog w K mg base "neighbours_of" k ["forest", "vertex"] sp)
  have ownBlockingLamps := fun {k : Nat} {sp : Sp} (G0 : FnOk l.prog w K mg base CX0 k f2 _ _ sp) => (Own.mk ⟨f2, _, G0, PySem.W.mg_of X G a2, k2, bBlockingLamps⟩ : Own l.prog w K mg base "blocking_lamps" k ["forest", "setting", "u", "v"] sp)
  have ownCheckLamp := fun {k : Nat} {sp : Sp} (G0 : FnOk l.prog w K mg base CX0 k f3 _ _ sp) => (Own.mk ⟨f3, _, G0, PySem.W.mg_of X G a3, k3, bCheckLamp⟩ : Own l.prog w K mg base "check_lamp" k ["setting", "value"] sp)
  have ownSlideLamp := fun {k : Nat} {sp : Sp} (G0 : FnOk l.prog w K mg base CX0 k f4 _ _ sp) => (Own.mk ⟨f4, _, G0, PySem.W.mg_of X G a4, k4, bSlideLamp⟩ : Own l.prog w K mg base "slide_lamp" k ["forest", "setting", "u", "v"] sp)
  have ownPossibleSlides := fun {k : Nat} {sp : Sp} (G0 : FnOk l.prog w K mg base CX0 k f5 _ _ sp) => (Own.mk ⟨f5, _, G0, PySem.W.mg_of X G a5, k5, bPossibleSlides⟩ : Own l.prog w K mg base "possible_slides" k ["forest", "setting"] sp)
  have ownDistancesFrom := fun {k : Nat} {sp : Sp} (G0 : FnOk l.prog w K mg base CX0 k f6 _ _ sp) => (Own.mk ⟨f6, _, G0, PySem.W.mg_of X G a6, k6, bDistancesFrom⟩ : Own l.prog w K mg base "distances_from" k ["forest", "setting"] sp)
  have ownCloserSlide := fun {k : Nat} {sp : Sp} (G0 : FnOk l.prog w K mg base CX0 k f7 _ _ sp) => (Own.mk ⟨f7, _, G0, PySem.W.mg_of X G a7, k7, bCloserSlide⟩ : Own l.prog w K mg base "closer_slide" k ["forest", "setting", "distances"] sp)
  have ownShortestPlan := fun {k : Nat} {sp : Sp} (G0 : FnOk l.prog w K mg base CX0 k f8 _ _ sp) => (Own.mk ⟨f8, _, G0, PySem.W.mg_of X G a8, k8, bShortestPlan⟩ : Own l.prog w K mg base "shortest_plan" k ["forest", "first", "second"] sp)
  have ownLDraws := fun {k : Nat} {sp : Sp} (G0 : FnOk l.prog w K mg base CX0 k f9 _ _ sp) => (Own.mk ⟨f9, _, G0, PySem.W.mg_of X G a9, k9, bLDraws⟩ : Own l.prog w K mg base "_law_draws" k ["_law_script"] sp)
  have ownLNext := fun {k : Nat} {sp : Sp} (G0 : FnOk l.prog w K mg base CX0 k f10 _ _ sp) => (Own.mk ⟨f10, _, G0, PySem.W.mg_of X G a10, k10, bLNext⟩ : Own l.prog w K mg base "_law_next" k ["_law_state", "_law_many"] sp)
  have ownLOne := fun {k : Nat} {sp : Sp} (G0 : FnOk l.prog w K mg base CX0 k f11 _ _ sp) => (Own.mk ⟨f11, _, G0, PySem.W.mg_of X G a11, k11, bLOne⟩ : Own l.prog w K mg base "_law_one" k ["_law_state", "_law_items"] sp)
  have ownLShuffled := fun {k : Nat} {sp : Sp} (G0 : FnOk l.prog w K mg base CX0 k f12 _ _ sp) => (Own.mk ⟨f12, _, G0, PySem.W.mg_of X G a12, k12, bLShuffled⟩ : Own l.prog w K mg base "_law_shuffled" k ["_law_state", "_law_items"] sp)
  have ownLForest := fun {k : Nat} {sp : Sp} (G0 : FnOk l.prog w K mg base CX0 k f13 _ _ sp) => (Own.mk ⟨f13, _, G0, PySem.W.mg_of X G a13, k13, bLForest⟩ : Own l.prog w K mg base "_law_forest" k ["_law_state", "_law_least", "_law_most"] sp)
  have ownLNear := fun {k : Nat} {sp : Sp} (G0 : FnOk l.prog w K mg base CX0 k f14 _ _ sp) => (Own.mk ⟨f14, _, G0, PySem.W.mg_of X G a14, k14, bLNear⟩ : Own l.prog w K mg base "_law_near" k ["_law_forest_here", "_law_vertex"] sp)
  have ownLSetting := fun {k : Nat} {sp : Sp} (G0 : FnOk l.prog w K mg base CX0 k f15 _ _ sp) => (Own.mk ⟨f15, _, G0, PySem.W.mg_of X G a15, k15, bLSetting⟩ : Own l.prog w K mg base "_law_setting" k ["_law_state", "_law_forest_here"] sp)
  have ownLSlides := fun {k : Nat} {sp : Sp} (G0 : FnOk l.prog w K mg base CX0 k f16 _ _ sp) => (Own.mk ⟨f16, _, G0, PySem.W.mg_of X G a16, k16, bLSlides⟩ : Own l.prog w K mg base "_law_slides" k ["_law_forest_here", "_law_setting_here"] sp)
  have ownLMoved := fun {k : Nat} {sp : Sp} (G0 : FnOk l.prog w K mg base CX0 k f17 _ _ sp) => (Own.mk ⟨f17, _, G0, PySem.W.mg_of X G a17, k17, bLMoved⟩ : Own l.prog w K mg base "_law_moved" k ["_law_setting_here", "_law_u", "_law_v"] sp)
  have ownLReached := fun {k : Nat} {sp : Sp} (G0 : FnOk l.prog w K mg base CX0 k f18 _ _ sp) => (Own.mk ⟨f18, _, G0, PySem.W.mg_of X G a18, k18, bLReached⟩ : Own l.prog w K mg base "_law_reached" k ["_law_forest_here", "_law_setting_here"] sp)
  have ownLDue := fun {k : Nat} {sp : Sp} (G0 : FnOk l.prog w K mg base CX0 k f19 _ _ sp) => (Own.mk ⟨f19, _, G0, PySem.W.mg_of X G a19, k19, bLDue⟩ : Own l.prog w K mg base "_law_due" k ["_law_forest_here", "_law_first", "_law_second"] sp)
  have wngLRight := fun {k : Nat} {sp : Sp} (G0 : FnG l.prog w K mg base k f20 _ _ sp) => (OwnG.mk ⟨f20, _, G0, PySem.W.mg_of X G a20, k20, bLRight⟩ : OwnG l.prog w K mg base "_law_right" k ["_law_forest_here", "_law_first", "_law_second"] sp)
  have oLNext := ownLNext (ok_LNext (k := 0) FLNext m_len)
  have oLDraws := ownLDraws (ok_LDraws (k := 0) FLDraws m_abs m_int m_len)
  have oLShuffled := ownLShuffled (ok_LShuffled FLShuffled m_list m_len oLNext)
  have oLForest := ownLForest (ok_LForest FLForest m_list m_range m_max m_min m_tuple m_sorted oLNext oLShuffled)
  have oIsNumber := ownIsNumber (ok_IsNumber (k := 0) FIsNumber m_isinstance m_int m_bool)
  have oNeighboursOf := ownNeighboursOf (ok_NeighboursOf (k := 0) FNeighboursOf m_tuple)
  have oBlockingLamps := ownBlockingLamps (ok_BlockingLamps (k := 0) FBlockingLamps m_tuple oNeighboursOf)
  have oCheckLamp := ownCheckLamp (ok_CheckLamp FCheckLamp oIsNumber)
  have oSlideLamp := ownSlideLamp (ok_SlideLamp FSlideLamp m_tuple m_sorted oIsNumber oCheckLamp oNeighboursOf oBlockingLamps)
  have oPossibleSlides := ownPossibleSlides (ok_PossibleSlides FPossibleSlides m_tuple oNeighboursOf oBlockingLamps)
  have oDistancesFrom := ownDistancesFrom (ok_DistancesFrom FDistancesFrom oPossibleSlides oSlideLamp)
  have oCloserSlide := ownCloserSlide (ok_CloserSlide FCloserSlide oPossibleSlides oSlideLamp)
  have oShortestPlan := ownShortestPlan (ok_ShortestPlan FShortestPlan m_tuple oDistancesFrom oCloserSlide oSlideLamp)
  have oLNear := ownLNear (ok_LNear (k := 0) FLNear)
  have oLSetting := ownLSetting (ok_LSetting FLSetting m_list m_range m_tuple m_sorted m_len oLNext oLShuffled oLNear)
  have oLSlides := ownLSlides (ok_LSlides FLSlides m_sorted oLNear)
  have oLMoved := ownLMoved (ok_LMoved (k := 0) FLMoved m_tuple m_sorted)
  have oLReached := ownLReached (ok_LReached FLReached oLSlides oLMoved)
  have oLOne := ownLOne (ok_LOne FLOne m_len oLNext)
  have oLDue := ownLDue (ok_LDue FLDue hcLDue hTLDue m_sorted m_min oLReached oLSlides oLMoved)
  have oLRight := wngLRight (ok_LRight FLRight m_repr oLDue oShortestPlan)
  exact (ok_Law FLaw m_range m_sorted oLDraws oLForest oLSetting oLReached oLOne oLRight oShortestPlan)
theorem facts_mk {l : PySem.W.OpenLaw} {w : World} {K : PySem.W.Frag} {h : Heap} {mg : Str → Option Value} {fa : Addr} (X : K.In h) (G : h.Ns mainGlobals mg) (hfa : mg "law" = some (.ref fa)) (c : SaysZ exs fns tbs w K) :
    ∃ fd : FuncData, (∀ (s : Shared) (v : Value), BindsTo s fd ⟨[v], []⟩ [("_law_script", v)]) ∧ ∀ base : Heap, K.In base → base.Ns mainGlobals mg → (∀ p ∈ tabsZ, LamX.TabB base mg p.1 p.2) → FnG l.prog w K mg base 7 fa fd ["_law_script"] (spLaw K 201) := by
  obtain ⟨oc0, od0, kV0, dc0, pm0, an0, cd0, ct0, sl0, l0, c0, k0, w0⟩ := c.dfn 0 rfl
  obtain ⟨oc1, od1, kV1, dc1, pm1, an1, cd1, ct1, sl1, l1, c1, k1, w1⟩ := c.dfn 1 rfl
  obtain ⟨oc2, od2, kV2, dc2, pm2, an2, cd2, ct2, sl2, l2, c2, k2, w2⟩ := c.dfn 2 rfl
  obtain ⟨oc3, od3, kV3, dc3, pm3, an3, cd3, ct3, sl3, l3, c3, k3, w3⟩ := c.dfn 3 rfl
  obtain ⟨oc4, od4, kV4, dc4, pm4, an4, cd4, ct4, sl4, l4, c4, k4, w4⟩ := c.dfn 4 rfl
  obtain ⟨oc5, od5, kV5, dc5, pm5, an5, cd5, ct5, sl5, l5, c5, k5, w5⟩ := c.dfn 5 rfl
  obtain ⟨oc6, od6, kV6, dc6, pm6, an6, cd6, ct6, sl6, l6, c6, k6, w6⟩ := c.dfn 6 rfl
  obtain ⟨oc7, od7, kV7, dc7, pm7, an7, cd7, ct7, sl7, l7, c7, k7, w7⟩ := c.dfn 7 rfl
  obtain ⟨oc8, od8, kV8, dc8, pm8, an8, cd8, ct8, sl8, l8, c8, k8, w8⟩ := c.dfn 8 rfl
  obtain ⟨oc9, od9, kV9, dc9, pm9, an9, cd9, ct9, sl9, l9, c9, k9, w9⟩ := c.dfn 9 rfl
  obtain ⟨oc10, od10, kV10, dc10, pm10, an10, cd10, ct10, sl10, l10, c10, k10, w10⟩ := c.dfn 10 rfl
  obtain ⟨oc11, od11, kV11, dc11, pm11, an11, cd11, ct11, sl11, l11, c11, k11, w11⟩ := c.dfn 11 rfl
  obtain ⟨oc12, od12, kV12, dc12, pm12, an12, cd12, ct12, sl12, l12, c12, k12, w12⟩ := c.dfn 12 rfl
  obtain ⟨oc13, od13, kV13, dc13, pm13, an13, cd13, ct13, sl13, l13, c13, k13, w13⟩ := c.dfn 13 rfl
  obtain ⟨oc14, od14, kV14, dc14, pm14, an14, cd14, ct14, sl14, l14, c14, k14, w14⟩ := c.dfn 14 rfl
  obtain ⟨oc15, od15, kV15, dc15, pm15, an15, cd15, ct15, sl15, l15, c15, k15, w15⟩ := c.dfn 15 rfl
  obtain ⟨oc16, od16, kV16, dc16, pm16, an16, cd16, ct16, sl16, l16, c16, k16, w16⟩ := c.dfn 16 rfl
  obtain ⟨oc17, od17, kV17, dc17, pm17, an17, cd17, ct17, sl17, l17, c17, k17, w17⟩ := c.dfn 17 rfl
  obtain ⟨oc18, od18, kV18, dc18, pm18, an18, cd18, ct18, sl18, l18, c18, k18, w18⟩ := c.dfn 18 rfl
  obtain ⟨oc19, od19, kV19, dc19, pm19, an19, cd19, ct19, sl19, l19, c19, k19, w19⟩ := c.dfn 19 rfl
  obtain ⟨oc20, od20, kV20, dc20, pm20, an20, cd20, ct20, sl20, l20, c20, k20, w20⟩ := c.dfn 20 rfl
  obtain ⟨oc21, od21, kV21, dc21, pm21, an21, cd21, ct21, sl21, l21, c21, k21, w21⟩ := c.dfn 21 rfl
  exact all_mk (w := w) X G hfa (glo_get (c.tst 0 rfl)) l0 c0 k0 (glo_get (c.tst 1 rfl)) l1 c1 k1 (glo_get (c.tst 2 rfl)) l2 c2 k2 (glo_get (c.tst 3 rfl)) l3 c3 k3 (glo_get (c.tst 4 rfl)) l4 c4 k4 (glo_get (c.tst 5 rfl)) l5 c5 k5 (glo_get (c.tst 6 rfl)) l6 c6 k6 (glo_get (c.tst 7 rfl)) l7 c7 k7 (glo_get (c.tst 8 rfl)) l8 c8 k8 (glo_get (c.tst 9 rfl)) l9 c9 k9 (glo_get (c.tst 10 rfl)) l10 c10 k10 (glo_get (c.tst 11 rfl)) l11 c11 k11 (glo_get (c.tst 12 rfl)) l12 c12 k12 (glo_get (c.tst 13 rfl)) l13 c13 k13 (glo_get (c.tst 14 rfl)) l14 c14 k14 (glo_get (c.tst 15 rfl)) l15 c15 k15 (glo_get (c.tst 16 rfl)) l16 c16 k16 (glo_get (c.tst 17 rfl)) l17 c17 k17 (glo_get (c.tst 18 rfl)) l18 c18 k18 (glo_get (c.tst 19 rfl)) l19 c19 k19 (glo_get (c.tst 20 rfl)) l20 c20 k20 (glo_get (c.tst 21 rfl)) l21 c21 k21 (lawC_get (x := "_law_due") (c.tst 22 rfl) l19) (He.eqO_ok (c.tst 24 rfl)) (He.eqO_ok (c.tst 25 rfl)) (He.eqO_ok (c.tst 26 rfl)) (He.eqO_ok (c.tst 27 rfl)) (He.eqO_ok (c.tst 28 rfl)) (He.eqO_ok (c.tst 29 rfl)) (He.eqO_ok (c.tst 30 rfl)) (He.eqO_ok (c.tst 31 rfl)) (He.eqO_ok (c.tst 32 rfl)) (He.eqO_ok (c.tst 33 rfl)) (He.eqO_ok (c.tst 34 rfl)) (He.eqO_ok (c.tst 35 rfl))
end TL
open PySem PySem.W PySem.Calls PyProof.Rows
set_option maxHeartbeats 0 in
theorem PySem.Challenge.cw_treelamps_k36_shortest_plan_holds : PySem.Challenge.rw_treelamps_k36_shortest_plan.Holds := by
  w_on; o_law
  refine HandSHeadRun.head_any (r := OpenLaw.row PySem.Challenge.rw_treelamps_k36_shortest_plan) (q := TL.qv) (H := TL.hkZ) (ob := TL.obZ) (M := 12000) (loose := TL.lz) (d := HandSHeadRun.topDef (OpenLaw.row PySem.Challenge.rw_treelamps_k36_shortest_plan).prog 30) (kwd := []) TL.obZ_eq
    (by kernel_rfl) (fun s => by kernel_rfl) TL.runZ (by kernel_rfl) (by kernel_rfl) (by kernel_rfl) (by rfl) (by first | assumption | decide +kernel) (by decide +kernel) ⟨rfl, rfl, rfl, rfl, rfl, by decide +kernel⟩ ?hw ?hc
  case hw => w_witness2
  case hc =>
    refine TL.walk_ofGT (l := PySem.Challenge.rw_treelamps_k36_shortest_plan) (n := 63) (k := 7) (x := "_law_script") rfl (by decide) (by kernel_rfl) ⟨rfl, by decide, by decide⟩ ?F
    intro w mg fa h Y G hmg0
    obtain ⟨⟨K, KX, c⟩, ht⟩ := Y
    have hmg : mg ("law" : PySem.Str) = some (.ref fa) := by
      have e : (HandSHeadRun.topDef (OpenLaw.row PySem.Challenge.rw_treelamps_k36_shortest_plan).prog 30).name = ("law" : PySem.Str) := by kernel_rfl
      rw [← e]
      exact hmg0
    obtain ⟨fd, hb, hF⟩ := TL.facts_mk (l := PySem.Challenge.rw_treelamps_k36_shortest_plan) KX G hmg c
    exact ⟨K, fd, TL.spLaw K 201, TL.tabsZ, KX, ht, (List.forall_mem_cons.mpr ⟨TL.noK_get (c.tst 23 rfl), (fun _ h => nomatch h)⟩), hb, fun H a ns hl hH hS => ⟨a, ns, rfl, hS, hl, TL.tabs_nil (hH _ (.head _)), fun _ => rfl⟩, hF⟩
