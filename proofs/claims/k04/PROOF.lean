import PyProof.Rows.All
import Wide.All
import OpenK.AllK
import Wide.FinOn
import HandS.Base
import HandS.Call
import HandS.List
import HandS.Comp
import HandS.Ends
import HandS.Dict
import HandS.Iter
import HandS.Text
import HandS.Words
import HandS.EndBits
import HandS.Evl
import HandS.Style
import HandS.StrMore
import PyProof.EnumMake
import PyProof.Draws
import HandS.TryOnly
import PyProof.StrLawsRepr
import PyProof.AutoSeq1
import HandS.TupAny
import KE.GoesMore
import PyProof.WalksMore
import HandS.Strs
import HandS.TupSets
import PySem.Challenge.RW_newsbehind_k04_who_hears_whom
set_option Elab.async false
set_option linter.all false
set_option maxRecDepth 100000
set_option maxHeartbeats 4000000
namespace NB
open PySem PySem.Spec PyProof.Rows L2

/-! ### repr of data -/
/-- data that repr writes out in full -/
structure Sh (d : PyData) : Prop where
  sh : d.showable = true
  nd : d.hasDict = false
  dp : d.depth ≤ 64
  sz : d.shown.length ≤ sizeLine
theorem call_reprD {X : Cx} (hg : X.A.guards = some []) (hu : X.A.units + 70 < cLine) :
    CallR X (.builtin "repr") (fun xs H Q => ∃ x d, xs = [x] ∧ Dp X.K H x d ∧ Sh d ∧ Q (.str d.shown) H) := by
  intro pins s σ H xs us Q I r h
  obtain ⟨x, d, rfl, hd, S, q⟩ := h
  obtain ⟨u, rfl, ru⟩ := vals1 r
  have fin : ∀ tk t, EP X pins σ Q (.str d.shown t) { s with toks := tk } := fun tk t => ⟨.str d.shown, H, I.tok _, ⟨t, rfl⟩, q⟩
  have sh := S.sh
  have sz := S.sz
  have big : ∀ a as, u = .ref a → Reads s.heap (.ref a) d as → wpAny (model X.prog X.w) X.A (call (.builtin "repr") [u]) (EP X pins σ Q) X.xe s := by
    rintro a as rfl rd
    refine repr_of_reads' rd S.sh (PyData.noDict_hsm S.nd) hg (by have := S.dp; omega) (fun _ _ e => e) (fun h' v tk hk => ?_) S.sz
    exact ⟨.str d.shown, H, I.kept (t' := tk) hk, ⟨v, rfl⟩, q⟩
  obtain ⟨as, rd⟩ := Dp.reads I d x u hd ru
  cases rd with
  | none => exact PySem.P.repr_of_none (by simpa only [PyData.shown] using fin _ _)
  | bool b => exact PySem.P.repr_of_bool (by simpa only [PyData.shown] using fin _ _)
  | int i t => exact PySem.P.repr_of_int (by simpa only [PyData.showable, decide_eq_true_eq] using sh) (by simpa only [PyData.shown] using fin _ _)
  | str z t => exact PySem.P.repr_of_str (by simpa only [PyData.shown] using fin _ _) (by simpa only [PyData.shown] using sz)
  | list h1 h2 h3 h4 => exact big _ _ rfl (.list h1 h2 h3 h4)
  | tuple h1 h2 h3 h4 => exact big _ _ rfl (.tuple h1 h2 h3 h4)
  | dict h1 h2 h3 h4 h5 => exact big _ _ rfl (.dict h1 h2 h3 h4 h5)

/-! ### a def whose callers stand at one place of the run that is known -/
structure FnA (A : Around) (P : Program) (w : World) (K : PySem.W.Frag) (mg : Str → Option Value) (base : Heap) (CX : CXT) (f : Addr) (fd : FuncData) (ps : List Str) (sp : Sp) : Prop where
  len : ∀ vs H Q E, sp vs H Q E → vs.length = ps.length
  run : ∀ (outer : List Env) (s : Shared) (H : Hp) (args : Args) (us : List Value) (vs : List V) (Q : VK) (E : XK), Env0 P w K mg base A outer s H →
    BindsTo s fd args (ps.zip us) → Vals vs us → sp vs H Q E → codeAny (model P w) A (.call (.ref f) args) (CR CX outer P w H s Q E) s
variable {P : Program} {w : World} {K : PySem.W.Frag} {mg : Str → Option Value} {base : Heap}
theorem funA {A : Around} {x qual : Str} {st : Stmt} {f : Addr} {fd : FuncData} {N ps : List Str} {k : Nat} {sp : Sp} (F : Fun K x qual st f fd) (S : FnScope N ps (defScope st)) (hr : Room (k + 1) A)
    (len : ∀ vs H Q E, sp vs H Q E → vs.length = ps.length)
    (body : ∀ (cdv : Value) (outer : List Env) (s : Shared) (H : Hp) (vs : List V) (Q : VK) (E : XK), Room k (A.deeper (envOfC qual (defScope st) s.heap.objs.size f cdv)) → sp vs H Q E →
      ∃ t, PSs (cxOf CX0 P w K mg base N qual (defScope st) f cdv A outer s H E).nox (defBody st) t ∧ t { nx := fun _ H' => Q .non H', rt := Q } (start N vs) H) :
    FnA A P w K mg base CX0 f fd ps sp := by
  obtain ⟨oc, od, kV, doc, pm, an, cdv, ct, osl, rfl, lk, hcd⟩ := F.ex
  refine ⟨len, fun outer s H args us vs Q E e0 hb r hsp => ?_⟩
  have hl := len _ _ _ _ hsp
  have old : ∀ b o, base.get? b = some o → s.heap.get? b = some o := fun b o e => (e0.bs b o e).1
  have names : ∀ y ∈ ps.zip us, (defScope st).names.lookup y.1 = some .local ∨ (defScope st).names.lookup y.1 = some .cell := fun y hy => S.par y.1 (List.of_mem_zip hy).1
  have hall : ((ps.zip us).all fun y => (defScope st).names.lookup y.1 == some .local || (defScope st).names.lookup y.1 == some .cell) = true := by
    rw [List.all_eq_true]
    intro y hy
    rcases names y hy with q | q
    · rw [q]; rfl
    · rw [q]; rfl
  refine Att.call_fn (e0.mod.kin.keeps old) (e0.mod.nolimit.keeps old) lk hcd hr.depth hb hall (fun s1 x => ?_) S.co S.gen S.kind
  obtain ⟨t, ht, hq⟩ := body cdv outer s H vs Q E (hr.deeper _) hsp
  have I := inv_start (CX := CX0) (E := E) (f := f) (cd := cdv) (qual := qual) S hr.hd e0 hl r x
  refine wpAny_mono (ht.nox.run [] s1 (start N vs) H _ I hq) (fun fl s' hs => ?_) fun e s' hs => hs
  cases fl with
  | ret u => obtain ⟨v, σ', H', J, rv, q⟩ := hs; exact ⟨v, H', J.os, J.bare, J.base, J.hok, rv, q⟩
  | next => obtain ⟨σ', H', J, q⟩ := hs; exact ⟨V.non, H', J.os, J.bare, J.base, J.hok, rfl, q⟩
  | brk => obtain ⟨_, _, _, q⟩ := hs; exact q.elim
  | cont => obtain ⟨_, _, _, q⟩ := hs; exact q.elim

/-- the law's call, its own def known at the caller's place alone -/
theorem callA {mb : Str → Option Value} {fa a : Addr} {fd : FuncData} {x : Str} {sp : Sp} {s1 : Shared} {vs : List Value} {ns : List Int}
    (KX : K.In s1.heap) (hns : s1.heap.Ns mainGlobals mg) (hb : s1.heap.Ns builtinsNs mb) (hbb : ∀ x : Str, x ≠ "__name__" → mb x = bootBuiltins x) (hlim : s1.heap.NoLimit) (hg : s1.gens = #[])
    (ha : s1.heap.get? a = some { cls := .type "list", data := .seq vs.toArray }) (hi : IntsAre vs ns) (hl : ns.length ≤ sizeLine)
    (F : ∀ base : Heap, K.In base → base.Ns mainGlobals mg → FnA callerA P w K mg base CX0 fa fd [x] sp) (hbind : ∀ (s : Shared) (u : Value), BindsTo s fd ⟨[u], []⟩ [(x, u)])
    (hsp : ∀ H : Hp, SqL K H a (ns.map V.int) → sp [.ref a] H (fun v _ => v = .bl true) E0) :
    codeAny (model P w) callerA (.call (.ref fa) ⟨[.ref a], []⟩) (fun r s' => r = .ok (.ret (.bool true)) ∧ OldK s1.heap s'.heap ∧ s'.os = s1.os ∧ AllBare s'.gens) s1 := by
  have rv := vals_ints hi
  let ob : Obj := { cls := .type "list", data := .seq vs.toArray }
  let H : Hp := fun b => if b = a ∧ K.lookup a = none then some (.frz ob (.lst (ns.map V.int))) else none
  have Hn : ∀ b, H b = none ∨ (b = a ∧ K.lookup a = none ∧ H b = some (.frz ob (.lst (ns.map V.int)))) := fun b => by
    by_cases c : b = a ∧ K.lookup a = none
    · exact .inr ⟨c.1, c.2, if_pos c⟩
    · exact .inl (if_neg c)
  have free : ∀ b o, s1.heap.get? b = some o → (∀ es ep, o.data = .dict es ep → H b = none) := fun b o e es ep hd => by
    rcases Hn b with z | ⟨rfl, _, _⟩
    · exact z
    · rw [ha] at e
      cases e
      cases hd
  have nsK : ∀ {b : Addr} {m : Str → Option Value}, s1.heap.Ns b m → (hidT s1.heap H).Ns b m := fun {b m} z => by
    obtain ⟨o, es, ep, e, hd, rest⟩ := z
    exact ⟨o, es, ep, hidT_get e (free b o e es ep hd), hd, rest⟩
  have KB : K.In (hidT s1.heap H) := fun b o e => hidT_get (KX b o e) (by
    rcases Hn b with z | ⟨rfl, hk, _⟩
    · exact z
    · rw [hk] at e; cases e)
  have ok : HOk P w H s1.heap := fun b o e => by
    rcases Hn b with z | ⟨rfl, hk, z⟩
    · rw [z] at e; cases e
    · rw [z] at e
      cases e
      exact ⟨ha, by rw [List.length_map]; exact hl, vs, _, rv, ha⟩
  have hS : SqL K H a (ns.map V.int) := by
    cases hk : K.lookup a with
    | none => exact .inl (.inr ⟨ob, if_pos ⟨rfl, hk⟩⟩)
    | some o =>
      have e := (KX a o hk).symm.trans ha
      obtain rfl := Option.some.inj e
      exact .inr ⟨_, vs.toArray, _, hk, rfl, rfl, rfl, by rw [List.size_toArray, hi.length]; exact hl, by simpa using rv⟩
  have M : Mod K mg (hidT s1.heap H) := ⟨KB, nsK hns, ⟨mb, nsK hb, hbb⟩, by obtain ⟨mc, h1, h2⟩ := hlim; exact ⟨mc, nsK h1, h2⟩⟩
  have e0 : Env0 P w K mg (hidT s1.heap H) callerA [] s1 H :=
    ⟨rfl, M, fun b o e => of_hidT e, Nat.le_of_eq (hidT_size _ _), trivial, fun b hb => (by cases hb), ok, .of_eq hg⟩
  refine codeAny_mono ((F _ KB (nsK hns)).run [] s1 H ⟨[.ref a], []⟩ [.ref a] [.ref a] _ _ e0 (hbind s1 (.ref a)) (.cons rfl .nil) (hsp H hS)) fun r s' h => ?_
  match r, h with
  | .ok (.ret u), h =>
    obtain ⟨v, H', os, bare, un, hok', r', rfl⟩ := h
    obtain rfl : u = Value.bool true := r'
    refine ⟨rfl, OldK.of_keep fun b o e => ?_, os, bare⟩
    rcases Hn b with z | ⟨rfl, hk, z⟩
    · exact un.keep b o e z (by intro q; cases q) (by intro q; cases q)
    · have z2 := un.frzs b ob _ z
      have e2 := (hok' b _ z2).1
      have e1 := (ok b _ z).1
      rw [← e, e1, e2]
theorem walkA {l : PySem.W.OpenLaw} {n : Nat} {q : Program} {loose : List Str} {XP : (Str → Option Value) → Heap → Prop} {YP : World → Heap → Prop} {d : DefRec} {K : Params → PySem.W.Frag} {sp : World → Sp} {x : Str}
    (hn : l.most = some n) (hn2 : n ≤ sizeLine) (hdf : d.params.defaults = []) (hY : ∀ (w : World) (h : Heap), YP w h → (K w.params).In h)
    (F : ∀ (w : World) (mg : Str → Option Value) (fa : Addr) (h : Heap), (K w.params).In h → h.Ns mainGlobals mg → mg d.name = some (.ref fa) →
      ∃ fd : FuncData, (∀ (s : Shared) (u : Value), BindsTo s fd ⟨[u], []⟩ [(x, u)]) ∧ ∀ base : Heap, (K w.params).In base → base.Ns mainGlobals mg → FnA callerA l.prog w (K w.params) mg base CX0 fa fd [x] (sp w))
    (hsp : ∀ (w : World) (H : Hp) (a : Addr) (ns : List Int), ns.length ≤ n → (∀ z ∈ ns, Builtin.Int.intBits z ≤ 1048576) → SqL (K w.params) H a (ns.map V.int) → sp w [.ref a] H (fun v _ => v = .bl true) E0) :
    PySem.W.WalkO q loose XP YP l.row.toRowW d [] (fun f vs => PySem.call f vs) := by
  refine Att.attach_callB hn hdf fun w s0 s1 mg mb fa o pm cd doc a vs ns G Y ho hd hcd hmg hobj hints hlen hbits hg => ?_
  obtain ⟨fd, hb, hF⟩ := F w mg fa _ (hY w _ Y) G.T.g hmg
  exact callA (hY w _ Y) G.T.g G.T.b G.T.builtins G.T.nolimit hg hobj hints (Nat.le_trans hlen hn2) hF hb fun H hS => hsp w H a ns hlen hbits hS
end NB
set_option linter.all false
set_option maxRecDepth 100000
set_option maxHeartbeats 4000000
namespace NB
open PySem PySem.Spec PyProof.Rows L2

/-! ### lists of ints as data -/
theorem dpInts {K : PySem.W.Frag} {H : Hp} : ∀ ns : List Int, DpAll K H (ns.map V.int) (ns.map PyData.int)
  | [] => .nil
  | n :: r => .cons (.int n) (dpInts r)
theorem canInts : ∀ ns : List Int, PyData.canLayAll0 (ns.map PyData.int) = true
  | [] => by simp [PyData.canLayAll0]
  | n :: r => by simp [PyData.canLayAll0, PyData.canLay0, canInts r]
theorem depInts : ∀ ns : List Int, PyData.depthAll (ns.map PyData.int) = 0
  | [] => by simp [PyData.depthAll]
  | n :: r => by simp [PyData.depthAll, PyData.depth, depInts r]
theorem shapedInts (ns : List Int) : SeqAt.shaped (.list (ns.map PyData.int)) = true := by
  unfold SeqAt.shaped
  simp [PyData.canLay0, PyData.depth, canInts, depInts]
theorem eqvNil (ns : List Int) : PyData.eqv (.list (ns.map PyData.int)) (.list []) = ns.isEmpty := by
  cases ns <;> simp [PyData.eqv, PyData.eqvAll]

theorem call_intI {X : Cx} : CallR X (.type "int") (fun xs H Q => ∃ i, xs = [.int i] ∧ Q (.int i) H) := by
  intro pins s σ H xs us Q I r h
  exact call_int1 pins s σ H xs us Q I r (.inl h)

/-! ### the drawer of a law: a list at a that holds a list of numbers at l, and a number -/
structure DealAt (H : Hp) (a l : Addr) (ns : List Int) (b : Int) : Prop where
  ob : H a = some (.lst [.ref l, .int b])
  li : H l = some (.lst (ns.map V.int))
  nn : ∀ n ∈ ns, 0 ≤ n
  ln : ns.length ≤ 48
  b0 : 0 ≤ b
  b1 : b < 2147483647
def Deal (H : Hp) (a l : Addr) : Prop := ∃ ns b, DealAt H a l ns b
theorem DealAt.ne {H : Hp} {a l : Addr} {ns : List Int} {b : Int} (d : DealAt H a l ns b) : a ≠ l := ne_of d.ob d.li (by
  intro e
  cases ns with
  | nil => simp at e
  | cons n r => simp at e)
/-- all but the drawer is as it was -/
def Kp (a l : Addr) (H H' : Hp) : Prop := ∀ c o, H c = some o → c ≠ a → c ≠ l → H' c = some o
theorem Kp.refl (a l : Addr) (H : Hp) : Kp a l H H := fun _ _ h _ _ => h
theorem Kp.trans {a l : Addr} {H H1 H2 : Hp} (x : Kp a l H H1) (y : Kp a l H1 H2) : Kp a l H H2 := fun c o h h1 h2 => y c o (x c o h h1 h2) h1 h2
theorem Kp.of {a l : Addr} {H H' : Hp} (h : Same H H') : Kp a l H H' := fun c o e _ _ => h c o e
theorem Kp.new {a l : Addr} {H : Hp} {p : Addr} {o : HO} (h : H p = none) : Kp a l H (upd H p o) := fun c u e _ _ => by rw [upd_ne (ne_of_none e h)]; exact e
theorem Deal.new {a l : Addr} {H : Hp} {p : Addr} {o : HO} (d : Deal H a l) (h : H p = none) : Deal (upd H p o) a l := by
  obtain ⟨ns, b, d⟩ := d
  exact ⟨ns, b, by rw [upd_ne (ne_of_none d.ob h)]; exact d.ob, by rw [upd_ne (ne_of_none d.li h)]; exact d.li, d.nn, d.ln, d.b0, d.b1⟩
theorem Kp.tup {a l : Addr} {H H' : Hp} (k : Kp a l H H') (d : Deal H a l) {p : Addr} {xs : List V} (h : H p = some (.tup xs)) : H' p = some (.tup xs) := by
  obtain ⟨ns, b, d⟩ := d
  exact k p _ h (ne_of h d.ob (by intro e; cases e)) (ne_of h d.li (by intro e; cases e))

theorem DealAt.new {a l : Addr} {ns : List Int} {b : Int} {H : Hp} {p : Addr} {o : HO} (d : DealAt H a l ns b) (h : H p = none) : DealAt (upd H p o) a l ns b :=
  ⟨by rw [upd_ne (ne_of_none d.ob h)]; exact d.ob, by rw [upd_ne (ne_of_none d.li h)]; exact d.li, d.nn, d.ln, d.b0, d.b1⟩
theorem DealAt.put {a l : Addr} {ns ms : List Int} {b : Int} {H : Hp} (d : DealAt H a l ns b) (h1 : ∀ n ∈ ms, 0 ≤ n) (h2 : ms.length ≤ 48) : DealAt (upd H l (.lst (ms.map V.int))) a l ms b :=
  ⟨by rw [upd_ne d.ne]; exact d.ob, upd_same, h1, h2, d.b0, d.b1⟩
theorem DealAt.turn {a l : Addr} {ns : List Int} {b c : Int} {H : Hp} (d : DealAt H a l ns b) (h0 : 0 ≤ c) (h1 : c < 2147483647) : DealAt (upd H a (.lst [.ref l, .int c])) a l ns c :=
  ⟨upd_same, by rw [upd_ne d.ne.symm]; exact d.li, d.nn, d.ln, h0, h1⟩
theorem Kp.putL {a l : Addr} {H H1 : Hp} {o : HO} (k : Kp a l H H1) : Kp a l H (upd H1 l o) := fun c u e h1 h2 => by rw [upd_ne h2]; exact k c u e h1 h2
theorem Kp.putA {a l : Addr} {H H1 : Hp} {o : HO} (k : Kp a l H H1) : Kp a l H (upd H1 a o) := fun c u e h1 h2 => by rw [upd_ne h1]; exact k c u e h1 h2
theorem Kp.new1 {a l : Addr} {H H1 : Hp} {p : Addr} {o : HO} (k : Kp a l H H1) (h : H1 p = none) : Kp a l H (upd H1 p o) := k.trans (Kp.new h)
theorem last_int {ns : List Int} (h : ns ≠ []) : ∃ z, ns = ns.dropLast ++ [z] ∧ atI (ns.map V.int) (-1) = some (.int z) ∧ (ns.map V.int)[(ns.map V.int).length - 1]? = some (.int z) ∧ (ns.map V.int).dropLast = ns.dropLast.map V.int := by
  have e := (List.dropLast_concat_getLast h).symm
  generalize ns.getLast h = z at e
  have hl : 0 < ns.length := List.length_pos_iff.mpr h
  have hi : ns[ns.length - 1]? = some z := by
    have q : ns.length - 1 = ns.dropLast.length := by rw [List.length_dropLast]
    rw [q]
    conv => lhs; rw [e]
    simp
  refine ⟨z, e, ?_, ?_, by rw [List.map_dropLast]⟩
  · unfold atI ixN
    rw [List.length_map, if_neg (by omega), if_pos (by omega)]
    have q : ((-1 : Int) + (ns.length : Int)).toNat = ns.length - 1 := by omega
    simp only [Option.bind_some, q, List.getElem?_map, hi, Option.map_some]
  · rw [List.length_map, List.getElem?_map, hi]; rfl
/-- _law_any(deal, bound) -/
def spAny : Sp := fun vs H Q _ => ∃ (a l : Addr) (m : Int), vs = [.ref a, .int m] ∧ Deal H a l ∧ 1 ≤ m ∧ m < 1073741824 ∧
  ∀ (r : Int) (H' : Hp), 0 ≤ r → r < m → Deal H' a l → Kp a l H H' → Q (.int r) H'
/-- _law_of(deal, some) -/
def spOf (K : PySem.W.Frag) : Sp := fun vs H Q _ => ∃ (a l p : Addr) (xs : List V), vs = [.ref a, .ref p] ∧ Deal H a l ∧ (H p = some (.lst xs) ∨ H p = some (.tup xs)) ∧ p ≠ a ∧ p ≠ l ∧ xs ≠ [] ∧ xs.length ≤ 100000 ∧
  ∀ (i : Nat) (x : V) (H' : Hp), xs[i]? = some x → Deal H' a l → Kp a l H H' → Q x H'
/-- _law_draw(script, salt) -/
def spDraw (K : PySem.W.Frag) : Sp := fun vs H Q _ => ∃ (s : Addr) (ns : List Int) (z : Int), vs = [.ref s, .int z] ∧ SqL K H s (ns.map V.int) ∧ 0 ≤ z ∧ z ≤ 1000 ∧
  ∀ (a l : Addr) (H' : Hp), Deal H' a l → H a = none → H l = none → Same H H' → Q (.ref a) H'
end NB
set_option linter.all false
set_option maxRecDepth 100000
set_option maxHeartbeats 4000000
namespace NB
open PySem PySem.Spec PyProof.Rows L2
theorem cxK {CX : CXT} {P : Program} {w : World} {K : PySem.W.Frag} {mg : Str → Option Value} {base : Heap} {N : List Str} {qual : Str} {scope : Scope} {f : Addr} {cd : Value} {A : Around} {outer : List Env} {s : Shared} {H : Hp} {E : XK} :
  (cxOf CX P w K mg base N qual scope f cd A outer s H E).K = K := rfl
/-! ### a comprehension's walk, whatever its turn is -/
theorem lcL {K : PySem.W.Frag} {a : Addr} {xs : List V} {H0 : Hp} {Qd : Hp → Prop} {body : (Hp → Prop) → V → Hp → Prop} (Pv : Nat → Hp → Prop) (h0 : Pv 0 H0) (hl : ∀ i H, i ≤ xs.length → Pv i H → SqL K H a xs)
    (hs : ∀ i x H, xs[i]? = some x → Pv i H → body (Pv (i + 1)) x H) (hd : ∀ H, Pv xs.length H → Qd H) :
    ∃ W : Nat → Nat → Hp → Prop, (∃ m, W 0 m H0) ∧ ∀ i m H, W i m H → ((Itl K a).stop i H ∧ Qd H) ∨ ((Itl K a).go i H ∧ ∃ Nx : Hp → Prop, (∀ H', Nx H' → ∃ m', m' < m ∧ W (i + 1) m' H') ∧ ∀ x H', (Itl K a).yld i H x H' → body Nx x H') := by
  refine ⟨fun i m H => m = xs.length - i ∧ i ≤ xs.length ∧ Pv i H, ⟨_, rfl, Nat.zero_le _, h0⟩, ?_⟩
  rintro i m H ⟨rfl, hi, p⟩
  have q := hl i H hi p
  rcases Nat.lt_or_ge i xs.length with c | c
  · refine .inr ⟨⟨xs, xs[i], q, by simp [c]⟩, Pv (i + 1), fun H' p' => ⟨_, by omega, rfl, c, p'⟩, fun x H' y => ?_⟩
    obtain ⟨rfl, y⟩ := y
    exact hs i x _ (y xs q) p
  · obtain rfl : i = xs.length := by omega
    exact .inl ⟨⟨xs, q, Nat.le_refl _⟩, hd H p⟩
theorem lcT {K : PySem.W.Frag} {a : Addr} {xs : List V} {H0 : Hp} {Qd : Hp → Prop} {body : (Hp → Prop) → V → Hp → Prop} (Pv : Nat → Hp → Prop) (h0 : Pv 0 H0) (hl : ∀ i H, i ≤ xs.length → Pv i H → SqT K H a xs)
    (hs : ∀ i x H, xs[i]? = some x → Pv i H → body (Pv (i + 1)) x H) (hd : ∀ H, Pv xs.length H → Qd H) :
    ∃ W : Nat → Nat → Hp → Prop, (∃ m, W 0 m H0) ∧ ∀ i m H, W i m H → ((Itt K a).stop i H ∧ Qd H) ∨ ((Itt K a).go i H ∧ ∃ Nx : Hp → Prop, (∀ H', Nx H' → ∃ m', m' < m ∧ W (i + 1) m' H') ∧ ∀ x H', (Itt K a).yld i H x H' → body Nx x H') := by
  refine ⟨fun i m H => m = xs.length - i ∧ i ≤ xs.length ∧ Pv i H, ⟨_, rfl, Nat.zero_le _, h0⟩, ?_⟩
  rintro i m H ⟨rfl, hi, p⟩
  have q := hl i H hi p
  rcases Nat.lt_or_ge i xs.length with c | c
  · refine .inr ⟨⟨xs, xs[i], q, by simp [c]⟩, Pv (i + 1), fun H' p' => ⟨_, by omega, rfl, c, p'⟩, fun x H' y => ?_⟩
    obtain ⟨rfl, y⟩ := y
    exact hs i x _ (y xs q) p
  · obtain rfl : i = xs.length := by omega
    exact .inl ⟨⟨xs, q, Nat.le_refl _⟩, hd H p⟩
theorem lcR {lo : Int} {n : Nat} {H0 : Hp} {Qd : Hp → Prop} {body : (Hp → Prop) → V → Hp → Prop} (Pv : Nat → Hp → Prop) (h0 : Pv 0 H0)
    (hs : ∀ i H, i < n → Pv i H → body (Pv (i + 1)) (.int (lo + i)) H) (hd : ∀ H, Pv n H → Qd H) :
    ∃ W : Nat → Nat → Hp → Prop, (∃ m, W 0 m H0) ∧ ∀ i m H, W i m H → ((Itr lo n).stop i H ∧ Qd H) ∨ ((Itr lo n).go i H ∧ ∃ Nx : Hp → Prop, (∀ H', Nx H' → ∃ m', m' < m ∧ W (i + 1) m' H') ∧ ∀ x H', (Itr lo n).yld i H x H' → body Nx x H') := by
  refine ⟨fun i m H => m = n - i ∧ i ≤ n ∧ Pv i H, ⟨_, rfl, Nat.zero_le _, h0⟩, ?_⟩
  rintro i m H ⟨rfl, hi, p⟩
  rcases Nat.lt_or_ge i n with c | c
  · refine .inr ⟨c, Pv (i + 1), fun H' p' => ⟨_, by omega, rfl, c, p'⟩, fun x H' y => ?_⟩
    obtain ⟨rfl, rfl⟩ := y
    exact hs i _ c p
  · obtain rfl : i = n := by omega
    exact .inl ⟨Nat.le_refl _, hd H p⟩
end NB
set_option linter.all false
set_option maxRecDepth 100000
set_option maxHeartbeats 4000000
namespace NB
open PySem PySem.Spec PyProof.Rows L2
theorem call_tupleL {X : Cx} : CallR X (.type "tuple") (fun xs H Q => ∃ p ys, xs = [.ref p] ∧ SqL X.K H p ys ∧ ∀ l, H l = none → Q (.ref l) (upd H l (.tup ys))) := by
  intro pins s σ H xs us Q I r h
  obtain ⟨p, ys, e, hq, q⟩ := h
  exact call_tuple_of pins s σ H xs us Q I r ⟨p, ys, e, .inl ⟨hq, q⟩⟩
/-! ### for at, sign in enumerate(text) -/
def Ies (x : Str) : It := ⟨fun i _ => i < x.cps.size, fun i H v H' => ∃ T c, v = .ref T ∧ H T = none ∧ x.cps[i]? = some c ∧ H' = upd H T (.tup [.int (i : Nat), .str ⟨#[c]⟩]), fun i _ => x.cps.size ≤ i⟩
theorem turn_ies {P : Program} {w : World} {K : PySem.W.Frag} {elts : List Expr} {kk : Nat} {tpos : Pos} (e it : Addr) (x : Str) (t : Tok) (ty : String) (hty : ty = "str_ascii_iterator" ∨ ty = "str_iterator") :
    Turn P w K (.Tuple elts kk tpos) (Ies x) [e, it] e (fun i h => (∃ old, IsEnum h e it ((i : Nat) : Int) old) ∧ h.IsStrIter it ty x t i ∧ e ≠ it) where
  mem := List.mem_cons_self
  obj := fun i h st b hb => by
    obtain ⟨⟨old, he⟩, ⟨o, ho, _, hd⟩, _⟩ := st
    rcases List.mem_cons.mp hb with z | z
    · exact ⟨_, z ▸ he, fun v q => by cases q⟩
    · exact ⟨o, (List.mem_singleton.mp z) ▸ ho, fun v q => by rw [hd] at q; cases q⟩
  keep := fun i h h' st k => by
    obtain ⟨⟨old, he⟩, ⟨o, ho, r⟩, ne⟩ := st
    exact ⟨⟨old, k e List.mem_cons_self _ he⟩, ⟨o, k it (List.mem_cons_of_mem _ List.mem_cons_self) _ ho, r⟩, ne⟩
  item := by
    intro X hP hw hK hc i pins s σ H E I hf st hg
    subst hP hw hK
    obtain ⟨⟨old, he⟩, hit, ne⟩ := st
    have D : Draws X.prog X.w X.A.in1 it [it] x.cps.size (fun i v => ∃ c u, x.cps[i]? = some c ∧ v = .str ⟨#[c]⟩ u) (fun i h => h.IsStrIter it ty x t i) := by
      rcases hty with z | z
      · rw [z]; exact Draws.strAscii (show X.A.in1.handled = none from I.ok.hd hc) it x t
      · rw [z]; exact Draws.strWide (show X.A.in1.handled = none from I.ok.hd hc) it x t
    have lE : e < s.heap.objs.size := Heap.lt_size he
    have lI : it < s.heap.objs.size := by obtain ⟨_, q, _⟩ := hit; exact Heap.lt_size q
    refine wpAny_pyNext_enum_itemD D he hit hg ne (fun q => ne (List.mem_singleton.mp q)) fun v h1 tk hv ho hit1 hT hsz hk => ?_
    obtain ⟨c, u, hcx, rfl⟩ := hv
    refine ⟨_, rfl, wpAny_letOwnedTupleGo_enum (s := { s with heap := h1, toks := tk + 1 }) ho fun h2 he2 sb => ?_⟩
    have nT : s.heap.objs.size ≠ e := Nat.ne_of_gt lE
    have hT2 := (sb.2 _ nT).trans hT
    have new : ObjOk X.prog X.w (upd H s.heap.objs.size (.tup [.int (i : Nat), .str ⟨#[c]⟩])) h2 s.heap.objs.size (.tup [.int (i : Nat), .str ⟨#[c]⟩]) :=
      ⟨by show 2 ≤ sizeLine; decide, [_, _], .cons ⟨_, rfl⟩ (.cons ⟨_, rfl⟩ .nil), ⟨_, hT2, rfl, _, rfl⟩⟩
    have I2 : Inv X pins σ (upd H s.heap.objs.size (.tup [.int (i : Nat), .str ⟨#[c]⟩])) { s with heap := h2, toks := tk + 1 } := by
      refine I.turnedNew (ch := [e, it]) (fun b o hb q => ?_) hf (Nat.le_refl _) new
      have b1 : b ≠ e := fun z => hb (z ▸ List.mem_cons_self)
      have b2 : b ≠ it := fun z => hb (z ▸ List.mem_cons_of_mem _ List.mem_cons_self)
      exact (sb.2 b b1).trans (hk b o b1 b2 q)
    refine ⟨.ref s.heap.objs.size, _, I2, rfl, ⟨_, c, rfl, I.hok.fresh (Nat.le_refl _), hcx, rfl⟩, ⟨⟨.str ⟨#[c]⟩ u, ?_⟩, ?_, ne⟩, fun b hb => ?_⟩
    · have z : ((i + 1 : Nat) : Int) = (i : Int) + 1 := by omega
      rw [z]; exact he2
    · obtain ⟨o, q1, q2⟩ := hit1
      exact ⟨o, (sb.2 it ne.symm).trans q1, q2⟩
    · have lb : b < s.heap.objs.size := by
        rcases List.mem_cons.mp hb with z | z
        · rw [z]; exact lE
        · rw [List.mem_singleton.mp z]; exact lI
      rw [upd_ne (Nat.ne_of_lt lb)]
      exact (hf b hb).1
  done := by
    intro X hP hw hK hc i pins s σ H E I hf st hg
    subst hP hw hK
    obtain ⟨⟨old, he⟩, hit, ne⟩ := st
    have le : x.cps.size ≤ i := hg
    obtain ⟨f0, f1, f2, f3, f4, f5⟩ := hf it (List.mem_cons_of_mem _ List.mem_cons_self)
    have hx : x.cps[i]? = none := Array.getElem?_eq_none le
    have hT : s.TypeIs (.ref e) "enumerate" := ⟨_, he, rfl⟩
    have fin : ∀ h' : Heap, Heap.ExtBut it s.heap h' → Inv X pins σ H { s with heap := h' } := fun h' eb => I.turned (t' := s.toks) (fun b o hb q => eb b o hb q) f0 f1 f3 f4 f5
    unfold pyNext
    refine wpAny_bind (wpAny_attempt (wpAny_callSpecial?_slot (name := Str.ofString "__next__") hT F.slot_enumerate_next
      (wpAny_call_entry F.slot_enumerate_next hT F.entry_enumerate_next ?_ (F.args_enumerate_next_1 _))))
    show wpAny _ _ (field (.ref e) 2 >>= _) _ _ _
    refine wpAny_bind (wpAny_field he rfl (x := .ref it) rfl ?_)
    refine wpAny_bind ?_
    have go : ∀ {Q : Value → Shared → Prop} {E' : Value → Shared → Prop}, (∀ h' ex, Heap.ExtBut it s.heap h' → (∃ o, h'.get? ex = some o ∧ o.cls = .type "StopIteration") → E' (.ref ex) { s with heap := h' }) →
        wpAny (model X.prog X.w) X.A.in1 (Builtin.SmallTypes.nextOf (.ref it)) Q E' s := fun hE => by
      rcases hty with z | z
      · rw [z] at hit; exact wpAny_nextOf_ascii_end (show X.A.in1.handled = none from I.ok.hd hc) hit hx hE
      · rw [z] at hit; exact wpAny_nextOf_wide_end (show X.A.in1.handled = none from I.ok.hd hc) hit hx hE
    refine go fun h' ex eb hx' => ?_
    obtain ⟨o, ho, hcl⟩ := hx'
    refine wpAny_bind (wpAny_isInstance (T := "StopIteration") (b := true) ⟨o, ho, hcl⟩ isSubtype_stop ?_)
    exact wpAny_pure ⟨rfl, fin h' eb⟩
  self := fun A i s Q E st h => by
    obtain ⟨⟨_, he⟩, _⟩ := st
    exact wpAny_pyIter_enum he h
def iEnumS (ta : TA) : TI := fun σ H R => ta σ H fun vs H1 => ∃ x, vs = [.str x] ∧ R (Ies x) H1
theorem pi_enumS {X : Cx} {e : Expr} {ta : TA} {p pos tpos : Pos} {elts : List Expr} {kk : Nat} (hg : Gl X "enumerate") (hm : X.mg "enumerate" = none) (ha : PA X [e] ta) (hs : starEach [e] X.env = [(false, eval e X.env)] := by rfl) :
    PI X (.Tuple elts kk tpos) (.Call (.Name "enumerate" p) [e] [] pos) (iEnumS ta) := by
  refine ⟨fun pins s σ H R I h => ?_⟩
  refine Call_ (ld_blt I hg hm boot_enumerate (PyProof.Rows.callWith_type1 (thn (ha.run pos pins s σ H _ I h) fun us s1 hq => ?_) hs rfl))
  obtain ⟨vs, H1, I1, r1, x, rfl, q⟩ := hq
  obtain ⟨u, rfl, t, rfl⟩ := vals1 r1
  have ty : strIterType x = "str_ascii_iterator" ∨ strIterType x = "str_iterator" := by
    unfold strIterType
    split
    · exact .inl rfl
    · exact .inr rfl
  refine call_enumerate_str fun h' he hit hsz hk => wpAny_pyIter_enum he ?_
  have I2 : Inv X pins σ H1 { s1 with heap := h' } := I1.kept (t' := s1.toks) hk
  refine ⟨s1.heap.objs.size + 1, [s1.heap.objs.size + 1, s1.heap.objs.size], _, _, H1, rfl, I2, turn_ies (s1.heap.objs.size + 1) s1.heap.objs.size x t _ ty, ⟨⟨.none, he⟩, hit, Nat.succ_ne_self _⟩, fun b hb => ?_, q⟩
  have le : s1.heap.objs.size ≤ b := by
    rcases List.mem_cons.mp hb with z | z
    · rw [z]; exact Nat.le_succ _
    · rw [List.mem_singleton.mp z]; exact Nat.le_refl _
  exact I1.fpOk le (I1.hok.fresh le)
/-- the loop over it, by a word -/
theorem for_enumS {x : Str} {g : TG} {tb : TS} {D : Ends} {σ : L2.St} {H : Hp} (Pv : Nat → L2.St → Hp → Prop) (h0 : Pv 0 σ H)
    (hs : ∀ i c T σ H, x.cps[i]? = some c → Pv i σ H → H T = none → g (.ref T) σ (upd H T (.tup [.int (i : Nat), .str ⟨#[c]⟩])) fun σ2 H2 => tb { D with nx := Pv (i + 1), ct := Pv (i + 1), bk := D.nx } σ2 H2) (hd : ∀ σ H, Pv x.cps.size σ H → D.nx σ H) :
    ∃ W : Nat → Nat → L2.St → Hp → Prop, (∃ m, W 0 m σ H) ∧ ∀ i m σ H, W i m σ H →
      ((Ies x).stop i H ∧ D.nx σ H) ∨ ((Ies x).go i H ∧ ∃ N : L2.St → Hp → Prop, (∀ σ' H', N σ' H' → ∃ m', m' < m ∧ W (i + 1) m' σ' H') ∧ ∀ v H', (Ies x).yld i H v H' → g v σ H' fun σ2 H2 => tb { D with nx := N, ct := N, bk := D.nx } σ2 H2) := by
  refine ⟨fun i m σ H => m = x.cps.size - i ∧ i ≤ x.cps.size ∧ Pv i σ H, ⟨_, rfl, Nat.zero_le _, h0⟩, ?_⟩
  rintro i m σ H ⟨rfl, hi, p⟩
  rcases Nat.lt_or_ge i x.cps.size with c | c
  · refine .inr ⟨c, Pv (i + 1), fun σ' H' p' => ⟨_, by omega, rfl, c, p'⟩, fun v H' y => ?_⟩
    obtain ⟨T, z, rfl, hT, hz, rfl⟩ := y
    exact hs i z T σ H hz p hT
  · obtain rfl : i = x.cps.size := by omega
    exact .inl ⟨Nat.le_refl _, hd σ H p⟩
/-! ### f(k = v, ..), keywords alone -/
structure KB0 (K : PySem.W.Frag) (fd : FuncData) (ps ks : List Str) (g : List Value → List Value) (gV : List V → List V) : Prop where
  to : ∀ (s : Shared) (ws : List Value), ws.length = ks.length → BindsTo s fd ⟨[], ks.zip ws⟩ (ps.zip (g ws))
  rel : ∀ (zs : List V) (ws : List Value), zs.length = ks.length → Vals zs ws → Vals (gV zs) (g ws)
def tCallK0 (n : Nat) (sp : Sp) (gV : List V → List V) (E : XK) (tk : TA) : TE := fun σ H Q => tk σ H fun zs H2 => zs.length = n ∧ sp (gV zs) H2 Q E
theorem pe_callK0 {X : Cx} {CX : CXT} {k : Nat} {f : Addr} {fd : FuncData} {ps ks : List Str} {sp : Sp} {E : XK} {x : Str} {p pos : Pos} {kws : List Keyword} {tk : TA} {g : List Value → List Value} {gV : List V → List V}
    (F : FnOk X.prog X.w X.K X.mg X.base CX k f fd ps sp) (hr : Room k X.A) (hg : Gl X x) (hm : X.mg x = some (.ref f)) (hk : PySem.W.keepIn X.K (.ref f) = true) (hb : KB0 X.K fd ps ks g gV) (hx : Passes CX X E) (hkw : PK X kws tk)
    (hall : (backToKw pos (keywordEach kws X.env)).all (·.1.isSome) = true := by rfl) (hks : (backToKw pos (keywordEach kws X.env)).filterMap (·.1) = ks := by rfl) (hdb : (x == ("__debug__" : Str)) = false := by decide)
    (hpl : ((backTo pos (starEach [] X.env)).any (·.1) || (backToKw pos (keywordEach kws X.env)).any (·.1.isNone)) = false := by rfl) :
    PE X (.Call (.Name x p) [] kws pos) (tCallK0 ks.length sp gV E tk) := by
  refine ⟨fun pins s σ H Q I h => wpAny_Call_Name_kw (ld_glob I hg hm ?_ hdb)⟩
  refine PySem.W.callWith_KW0 (h₀ := X.base) I.ok.mod.kin hk hall (thn (hkw.run pos pins s σ H _ I h) fun ws s2 hq => ?_) hpl
  obtain ⟨zs, H2, I2, rz, hl, q⟩ := hq
  refine ⟨I2.kIn, ?_⟩
  rw [hks]
  have lw : ws.length = ks.length := by rw [← rz.length]; exact hl
  refine wpAny_call (codeAny_mono (F.run X.A X.stack s2 H2 ⟨[], ks.zip ws⟩ (g ws) (gV zs) Q E hr I2.env0 (hb.to s2 ws lw) (hb.rel zs ws hl rz) q) fun r s' hq => ?_)
  match r, hq with
  | .error e, hq => exact hx pins σ H2 s2 e s' I2 hq
  | .ok (.ret u), hq => exact I2.after hq
theorem kb1 {K : PySem.W.Frag} {x qual : Str} {st : Stmt} {f : Addr} {fd : FuncData} {p : Str} (F : Fun K x qual st f fd)
    (h : ∀ (kV doc pm : Value) (an : Option Addr) (cdv ct : Value) (u : Value), bindArgs (PySem.W.fnOf x qual (defArgs st) (defBody st) (defScope st) .none kV doc pm an cdv ct) ⟨[], [(p, u)]⟩ = pure [(p, u)]) : KB0 K fd [p] [p] (fun ws => ws) (fun zs => zs) := by
  obtain ⟨oc, od, kV, doc, pm, an, cdv, ct, osl, rfl, lk, hcd⟩ := F.ex
  refine ⟨fun s ws hl => ?_, fun _ _ _ r => r⟩
  match ws, hl with
  | [u], _ => exact BindsTo.of_eq (h kV doc pm an cdv ct u)
end NB
set_option linter.all false
set_option maxRecDepth 100000
set_option maxHeartbeats 4000000
namespace NB
open PySem PySem.Spec PyProof.Rows L2
/-! ### how long data is, written out -/
mutual
def wd : PyData → Nat
  | .none => 4
  | .bool _ => 5
  | .int _ => 1921
  | .str x => 10 * x.length + 2
  | .list xs => wdAll xs + 4
  | .tuple xs => wdAll xs + 4
  | .dict _ => 0
def wdAll : List PyData → Nat
  | [] => 0
  | x :: r => wd x + 2 + wdAll r
end
mutual
def okd : PyData → Prop
  | .none => True
  | .bool _ => True
  | .int i => i.natAbs.log2 < 1920
  | .str x => ∀ c ∈ x.cps.toList, c < 16 ^ 8
  | .list xs => okAll xs
  | .tuple xs => okAll xs
  | .dict _ => False
def okAll : List PyData → Prop
  | [] => True
  | x :: r => okd x ∧ okAll r
end
theorem piled_le : ∀ (ds : List PyData), (∀ d ∈ ds, d.shown.length ≤ wd d) → piled (PyData.shownAll ds) ≤ wdAll ds
  | [], _ => Nat.le_refl _
  | d :: r, h => by
    simp only [PyData.shownAll, piled_cons, wdAll]
    have h1 := h d List.mem_cons_self
    have h2 := piled_le r fun x hx => h x (List.mem_cons_of_mem _ hx)
    omega
theorem listText_le (ts : List Str) : (listText ts).length ≤ piled ts + 2 := by
  cases ts with
  | nil => exact Nat.le_refl _
  | cons t r =>
    have h := textFrom_length_pos r 1 (("[" : Str) ++ (if (0 : Nat) > 0 then ", " else "" : String) ++ t) (Nat.succ_pos 0)
    have e : ((("[" : Str) ++ (if (0 : Nat) > 0 then ", " else "" : String) ++ t)).length = 1 + t.length := by rw [strLen_append, strLen_append]; rfl
    have x : (listText (t :: r)).length = (textFrom 0 "[" (t :: r)).length + 1 := by
      unfold listText
      rw [strLen_append]; rfl
    have y : textFrom 0 "[" (t :: r) = textFrom 1 (("[" : Str) ++ (if (0 : Nat) > 0 then ", " else "" : String) ++ t) r := rfl
    rw [x, y, h, e, piled_cons]
    omega
theorem tupleText_le (ts : List Str) : (tupleText ts).length ≤ piled ts + 4 := by
  unfold tupleText
  rw [strLen_append, strLen_append]
  have e1 : ((("(" : String) : Str)).length = 1 := rfl
  have e3 : (((if ts.length == 1 then ",)" else ")" : String) : Str)).length ≤ 2 := by split <;> decide
  by_cases h : ts = []
  · subst h
    show 1 + 0 + _ ≤ _
    omega
  · have := join_length_add ts h
    omega
mutual
theorem shown_le : ∀ d : PyData, okd d → d.shown.length ≤ wd d ∧ d.showable = true ∧ d.hasDict = false
  | .none, _ => by simp only [PyData.shown, PyData.showable, PyData.hasDict, wd]; exact ⟨by decide, trivial, trivial⟩
  | .bool b, _ => by simp only [PyData.shown, PyData.showable, PyData.hasDict, wd]; cases b <;> exact ⟨by decide, trivial, trivial⟩
  | .int i, h => by
    simp only [okd] at h
    simp only [PyData.shown, PyData.showable, PyData.hasDict, wd]
    exact ⟨int_text_len_1921 h, by simpa using h, trivial⟩
  | .str x, h => by
    simp only [okd] at h
    simp only [PyData.shown, PyData.showable, PyData.hasDict, wd]
    exact ⟨StrLaws.reprText_len x h, trivial, trivial⟩
  | .list xs, h => by
    simp only [okd] at h
    obtain ⟨a, b, c⟩ := shown_leA xs h
    simp only [PyData.shown, PyData.showable, PyData.hasDict, wd]
    have := listText_le (PyData.shownAll xs)
    exact ⟨by omega, b, c⟩
  | .tuple xs, h => by
    simp only [okd] at h
    obtain ⟨a, b, c⟩ := shown_leA xs h
    simp only [PyData.shown, PyData.showable, PyData.hasDict, wd]
    have := tupleText_le (PyData.shownAll xs)
    exact ⟨by omega, b, c⟩
  | .dict _, h => by simp only [okd] at h
theorem shown_leA : ∀ xs : List PyData, okAll xs → piled (PyData.shownAll xs) ≤ wdAll xs ∧ PyData.showableAll xs = true ∧ PyData.hasDictAll xs = false
  | [], _ => by simp only [PyData.shownAll, PyData.showableAll, PyData.hasDictAll, wdAll]; exact ⟨Nat.le_refl _, trivial, trivial⟩
  | d :: r, h => by
    simp only [okAll] at h
    obtain ⟨a, b, c⟩ := shown_le d h.1
    obtain ⟨a', b', c'⟩ := shown_leA r h.2
    simp only [PyData.shownAll, PyData.showableAll, PyData.hasDictAll, wdAll, piled_cons, b, b', c, c']
    exact ⟨by omega, by rfl, by rfl⟩
end
theorem Sh.of {d : PyData} (h : okd d) (hd : d.depth ≤ 64) (hw : wd d ≤ 16777216) : Sh d := by
  obtain ⟨a, b, c⟩ := shown_le d h
  exact ⟨b, c, hd, Nat.le_trans a (by rw [sizeLine_eq]; exact hw)⟩
theorem okInts : ∀ ns : List Int, (∀ n ∈ ns, n.natAbs.log2 < 1920) → okAll (ns.map PyData.int)
  | [], _ => by simp only [List.map_nil, okAll]
  | n :: r, h => by
    simp only [List.map_cons, okAll, okd]
    exact ⟨h n List.mem_cons_self, okInts r fun x hx => h x (List.mem_cons_of_mem _ hx)⟩
theorem wdInts : ∀ ns : List Int, wdAll (ns.map PyData.int) = 1923 * ns.length
  | [] => by simp only [List.map_nil, wdAll, List.length_nil]
  | n :: r => by simp only [List.map_cons, wdAll, wd, wdInts r, List.length_cons]; omega
theorem log_small {n : Int} (h0 : -1000000000000 ≤ n) (h1 : n ≤ 1000000000000) : n.natAbs.log2 < 1920 := by
  by_cases e : n.natAbs = 0
  · rw [e]; decide
  have : n.natAbs < 2 ^ 1920 := Nat.lt_of_le_of_lt (by omega : n.natAbs ≤ 1000000000000) (by decide)
  exact (Nat.log2_lt e).mpr this
theorem shInts {ns : List Int} (h : ∀ n ∈ ns, -1000000000000 ≤ n ∧ n ≤ 1000000000000) (hl : ns.length ≤ 5000) : Sh (.tuple (ns.map PyData.int)) :=
  Sh.of (by simp only [okd]; exact okInts ns fun n hn => log_small (h n hn).1 (h n hn).2) (by simp [PyData.depth, depInts]) (by simp only [wd, wdInts]; omega)
theorem dpStrs {K : PySem.W.Frag} {H : Hp} : ∀ xs : List Str, DpAll K H (xs.map V.str) (xs.map PyData.str)
  | [] => .nil
  | x :: r => .cons (.str x) (dpStrs r)
theorem depStrs : ∀ xs : List Str, PyData.depthAll (xs.map PyData.str) = 0
  | [] => by simp [PyData.depthAll]
  | n :: r => by simp [PyData.depthAll, PyData.depth, depStrs r]
theorem okStrs : ∀ xs : List Str, (∀ x ∈ xs, ∀ c ∈ x.cps.toList, c < 16 ^ 8) → okAll (xs.map PyData.str)
  | [], _ => by simp only [List.map_nil, okAll]
  | x :: r, h => by
    simp only [List.map_cons, okAll, okd]
    exact ⟨h x List.mem_cons_self, okStrs r fun y hy => h y (List.mem_cons_of_mem _ hy)⟩
theorem wdStrs {m : Nat} : ∀ xs : List Str, (∀ x ∈ xs, x.length ≤ m) → wdAll (xs.map PyData.str) ≤ (10 * m + 4) * xs.length
  | [], _ => by simp only [List.map_nil, wdAll, List.length_nil]; exact Nat.zero_le _
  | x :: r, h => by
    have h1 := h x List.mem_cons_self
    have h2 := wdStrs r fun y hy => h y (List.mem_cons_of_mem _ hy)
    simp only [List.map_cons, wdAll, wd, List.length_cons, Nat.mul_add, Nat.mul_one]
    omega
theorem shStrs {xs : List Str} (h : ∀ x ∈ xs, ∀ c ∈ x.cps.toList, c < 16 ^ 8) (hm : ∀ x ∈ xs, x.length ≤ 1000) (hl : xs.length ≤ 1000) : Sh (.tuple (xs.map PyData.str)) :=
  Sh.of (by simp only [okd]; exact okStrs xs h) (by simp [PyData.depth, depStrs]) (by
    have q := wdStrs (m := 1000) xs hm
    simp only [wd]
    have : (10 * 1000 + 4) * xs.length ≤ 10004 * 1000 := Nat.mul_le_mul_left _ hl
    omega)
end NB
set_option linter.all false
set_option maxRecDepth 100000
set_option maxHeartbeats 4000000
namespace PySem
namespace NBx
open Sem (wp)
open Builtin Builtin.List AutoSeq1
theorem ext_tup (l : Addr) (items : Array Value) (n : Nat) (b : Addr) (items2 : Array Value) (n2 : Nat) (dct : Option Addr) (slo : Array (Option Value)) (hs0 : ¬(!items.isEmpty && Builtin.List.listTooLong (items.size + items2.size)) = true) (hs1 : items.size ≤ sizeLine) (hs2 : items.size + items2.size ≤ sizeLine + 1) :
    Meets (Builtin.«list.extend» ⟨[.ref l, .ref b], []⟩) (fun _ R s => s.heap.get? l = some { cls := .type "list", dict := none, data := .seq items n, slots := #[] } ∧ s.heap.get? b = some { cls := .type "tuple", dict := dct, data := .seq items2 n2, slots := slo } ∧
      R (.ok (.ret Value.none)) { s with heap := s.heap.update l (Obj.mapSeq fun x => x ++ items2), toks := s.toks }) :=
  .of_wp fun prog w A R s h => by
    obtain ⟨hp, g, d, tk, os⟩ := s
    obtain ⟨hl, hb, h⟩ := h
    have f1 := idx_int
    have f2 := sub_tuple_tuple
    have f3 := sub_list_list
    have f4 := sub_tuple_list
    have f5 := sub_list_tuple
    have hz' : (items ++ items2).size ≤ sizeLine + 1 := by rw [Array.size_append]; exact hs2
    wp_walk using (wpAny_updateSeq hl rfl (hz := hs1) (_hz' := hz')), wpAny_loadPart' hl, wpAny_loadPart' hb
    exact ⟨_, rfl, h⟩
end NBx
end PySem
namespace NB
open PySem PySem.Spec PyProof.Rows L2
/-! ### xs.extend(a tuple that was made) -/
theorem mt_extendT {X : Cx} : MtM X "list.extend" (fun x vs H Q => ∃ l b xs zs, x = .ref l ∧ vs = [.ref b] ∧ H l = some (.lst xs) ∧ H b = some (.tup zs) ∧ xs.length + zs.length ≤ sizeLine ∧ Q .non (upd H l (.lst (xs ++ zs)))) := by
  intro pins s σ H x vs v us Q I rx rv h
  obtain ⟨l, b, xs, zs, rfl, rfl, hH, hB, hz, q⟩ := h
  cases rx
  obtain ⟨u, rfl, ru⟩ := rv.one
  cases ru
  obtain ⟨z, its, n, r, hl, e⟩ := I.lstM hH
  obtain ⟨its2, r2, ⟨⟨c2, dct, d2, slo⟩, e2, hc2, n2, hd2⟩, z2⟩ := I.tuple (SqT.of hB)
  cases hc2
  cases hd2
  have hl2 := r2.length
  have big : its.toArray.size + its2.toArray.size ≤ sizeLine := by rw [List.size_toArray, List.size_toArray]; omega
  have nlong : ¬ (!its.toArray.isEmpty && Builtin.List.listTooLong (its.toArray.size + its2.toArray.size)) = true := by
    rw [notLongL big, Bool.and_false]
    exact Bool.false_ne_true
  refine call_meets F.slot_list_extend ⟨_, e, rfl⟩ F.entry_list_extend (F.args_list_extend_2 _ _)
    (PySem.NBx.ext_tup l its.toArray n b its2.toArray n2 dct slo nlong (by rw [List.size_toArray]; omega) (by omega)) ⟨e, e2, ?_⟩
  exact ⟨.non, _, I.lset (its' := its ++ its2) hH e (by simp) (r.append r2) (by rw [List.length_append]; omega), rfl, q⟩
end NB
set_option linter.all false
set_option maxRecDepth 100000
set_option maxHeartbeats 4000000
namespace NB
open PySem PySem.Spec PyProof.Rows L2
/-! ### data made of tuples alone: it stays whatever is changed -/
mutual
inductive Tp (H : Hp) : V → PyData → Prop
  | non : Tp H .non .none
  | bl (b : Bool) : Tp H (.bl b) (.bool b)
  | int (i : Int) : Tp H (.int i) (.int i)
  | str (x : Str) : Tp H (.str x) (.str x)
  | tup {a : Addr} {xs : List V} {ds : List PyData} : H a = some (.tup xs) → TpAll H xs ds → Tp H (.ref a) (.tuple ds)
inductive TpAll (H : Hp) : List V → List PyData → Prop
  | nil : TpAll H [] []
  | cons {v : V} {vs : List V} {d : PyData} {ds : List PyData} : Tp H v d → TpAll H vs ds → TpAll H (v :: vs) (d :: ds)
end
/-- tuples stay -/
def TK (H H' : Hp) : Prop := ∀ b xs, H b = some (.tup xs) → H' b = some (.tup xs)
theorem TK.refl (H : Hp) : TK H H := fun _ _ h => h
theorem TK.trans {H H1 H2 : Hp} (a : TK H H1) (b : TK H1 H2) : TK H H2 := fun c xs h => b c xs (a c xs h)
theorem TK.of {H H' : Hp} (h : Same H H') : TK H H' := fun b xs e => h b _ e
theorem TK.new {H : Hp} {p : Addr} {o : HO} (h : H p = none) : TK H (upd H p o) := fun b xs e => by rw [upd_ne (ne_of_none e h)]; exact e
theorem TK.put {H : Hp} {p : Addr} {o o' : HO} (h : H p = some o) (hn : ∀ xs, o ≠ .tup xs) : TK H (upd H p o') := fun b xs e => by
  have : b ≠ p := ne_of e h (fun q => hn xs q.symm)
  rw [upd_ne this]; exact e
theorem Kp.tk {a l : Addr} {H H' : Hp} (k : Kp a l H H') (d : Deal H a l) : TK H H' := fun b xs e => k.tup d e
theorem Same.new {H : Hp} {p : Addr} {o : HO} (h : H p = none) : Same H (upd H p o) := fun b u e => by rw [upd_ne (ne_of_none e h)]; exact e
theorem Same.new1 {H H1 : Hp} {p : Addr} {o : HO} (s : Same H H1) (h : H1 p = none) : Same H (upd H1 p o) := s.trans (Same.new h)
theorem Same.put {H H1 : Hp} {p : Addr} {o : HO} (s : Same H H1) (h : H p = none) : Same H (upd H1 p o) := fun b u e => by rw [upd_ne (ne_of_none e h)]; exact s b u e
mutual
theorem Tp.mono {H H' : Hp} (k : TK H H') : ∀ (d : PyData) (v : V), Tp H v d → Tp H' v d
  | .none, _, h => by cases h; exact .non
  | .bool b, _, h => by cases h; exact .bl b
  | .int i, _, h => by cases h; exact .int i
  | .str x, _, h => by cases h; exact .str x
  | .tuple ds, _, h => by
    cases h with
    | tup h1 h2 => exact .tup (k _ _ h1) (TpAll.mono k ds _ h2)
  | .list _, _, h => by cases h
  | .dict _, _, h => by cases h
theorem TpAll.mono {H H' : Hp} (k : TK H H') : ∀ (ds : List PyData) (vs : List V), TpAll H vs ds → TpAll H' vs ds
  | [], _, h => by cases h; exact .nil
  | d :: r, _, h => by
    cases h with
    | cons h1 h2 => exact .cons (Tp.mono k d _ h1) (TpAll.mono k r _ h2)
end
theorem Tp.m {H H' : Hp} {v : V} {d : PyData} (h : Tp H v d) (k : TK H H') : Tp H' v d := Tp.mono k d v h
theorem TpAll.m {H H' : Hp} {vs : List V} {ds : List PyData} (h : TpAll H vs ds) (k : TK H H') : TpAll H' vs ds := TpAll.mono k ds vs h
mutual
theorem Tp.dp {K : PySem.W.Frag} {H : Hp} : ∀ (d : PyData) (v : V), Tp H v d → Dp K H v d
  | .none, _, h => by cases h; exact .non
  | .bool b, _, h => by cases h; exact .bl b
  | .int i, _, h => by cases h; exact .int i
  | .str x, _, h => by cases h; exact .str x
  | .tuple ds, _, h => by
    cases h with
    | tup h1 h2 => exact .tup (SqT.of h1) (TpAll.dp ds _ h2)
  | .list _, _, h => by cases h
  | .dict _, _, h => by cases h
theorem TpAll.dp {K : PySem.W.Frag} {H : Hp} : ∀ (ds : List PyData) (vs : List V), TpAll H vs ds → DpAll K H vs ds
  | [], _, h => by cases h; exact .nil
  | d :: r, _, h => by
    cases h with
    | cons h1 h2 => exact .cons (Tp.dp d _ h1) (TpAll.dp r _ h2)
end
theorem Tp.inv {H : Hp} {v : V} {ds : List PyData} (h : Tp H v (.tuple ds)) : ∃ a vs, v = .ref a ∧ H a = some (.tup vs) ∧ TpAll H vs ds := by
  cases h with
  | tup h1 h2 => exact ⟨_, _, rfl, h1, h2⟩
theorem TpAll.len {H : Hp} : ∀ {vs : List V} {ds : List PyData}, TpAll H vs ds → vs.length = ds.length
  | _, _, .nil => rfl
  | _, _, .cons _ h => by rw [List.length_cons, List.length_cons, h.len]
theorem TpAll.get {H : Hp} : ∀ {vs : List V} {ds : List PyData} {i : Nat} {v : V}, TpAll H vs ds → vs[i]? = some v → ∃ d, ds[i]? = some d ∧ Tp H v d
  | _, _, _, _, .nil, e => by simp at e
  | _, _, 0, _, .cons h _, e => by simp at e; subst e; exact ⟨_, rfl, h⟩
  | _, _, i + 1, _, .cons _ h, e => by
    obtain ⟨d, e1, e2⟩ := h.get (i := i) (by simpa using e)
    exact ⟨d, by simpa using e1, e2⟩
theorem TpAll.append {H : Hp} : ∀ {vs ws : List V} {ds es : List PyData}, TpAll H vs ds → TpAll H ws es → TpAll H (vs ++ ws) (ds ++ es)
  | _, _, _, _, .nil, h => h
  | _, _, _, _, .cons h t, q => .cons h (t.append q)
theorem TpAll.cons_inv {H : Hp} {vs : List V} {d : PyData} {ds : List PyData} (h : TpAll H vs (d :: ds)) : ∃ v r, vs = v :: r ∧ Tp H v d ∧ TpAll H r ds := by
  cases h with
  | cons h1 h2 => exact ⟨_, _, rfl, h1, h2⟩
theorem TpAll.snoc_inv {H : Hp} : ∀ {ds : List PyData} {vs : List V} {d : PyData}, TpAll H vs (ds ++ [d]) → ∃ pre v, vs = pre ++ [v] ∧ Tp H v d
  | [], _, _, h => by
    obtain ⟨v, r, rfl, h1, h2⟩ := h.cons_inv
    cases h2
    exact ⟨[], v, rfl, h1⟩
  | e :: ds, _, _, h => by
    obtain ⟨v, r, rfl, h1, h2⟩ := TpAll.cons_inv (d := e) (ds := ds ++ [_]) h
    obtain ⟨pre, v', rfl, h3⟩ := TpAll.snoc_inv h2
    exact ⟨v :: pre, v', rfl, h3⟩
theorem TpAll.nil_inv {H : Hp} {vs : List V} (h : TpAll H vs []) : vs = [] := by cases h; rfl
theorem Tp.int_inv {H : Hp} {v : V} {i : Int} (h : Tp H v (.int i)) : v = .int i := by cases h; rfl
theorem Tp.str_inv {H : Hp} {v : V} {i : Str} (h : Tp H v (.str i)) : v = .str i := by cases h; rfl
theorem TpAll.ints {H : Hp} : ∀ {ns : List Int} {vs : List V}, TpAll H vs (ns.map PyData.int) → vs = ns.map V.int
  | [], _, h => h.nil_inv
  | n :: r, _, h => by
    obtain ⟨v, vs, rfl, h1, h2⟩ := h.cons_inv
    rw [h1.int_inv, h2.ints]; rfl
theorem tpInts {H : Hp} : ∀ ns : List Int, TpAll H (ns.map V.int) (ns.map PyData.int)
  | [] => .nil
  | n :: r => .cons (.int n) (tpInts r)
theorem TpAll.drop {H : Hp} {vs : List V} {ds : List PyData} (h : TpAll H vs ds) : ∀ n : Nat, TpAll H (vs.drop n) (ds.drop n) := by
  intro n
  induction n generalizing vs ds with
  | zero => exact h
  | succ n ih =>
    cases h with
    | nil => exact .nil
    | cons _ h => exact ih h
theorem TpAll.take {H : Hp} {vs : List V} {ds : List PyData} (h : TpAll H vs ds) : ∀ n : Nat, TpAll H (vs.take n) (ds.take n) := by
  intro n
  induction n generalizing vs ds with
  | zero => exact .nil
  | succ n ih =>
    cases h with
    | nil => exact .nil
    | cons h1 h => exact .cons h1 (ih h)

theorem atI0 {v : V} {vs : List V} : atI (v :: vs) 0 = some v := atI_nat (xs := v :: vs) (j := 0) rfl
theorem atI1 {v u : V} {vs : List V} : atI (v :: u :: vs) 1 = some u := atI_nat (xs := v :: u :: vs) (j := 1) rfl
theorem atILast {vs : List V} {v : V} : atI (vs ++ [v]) (-1) = some v := by
  unfold atI ixN
  rw [List.length_append, List.length_singleton, if_neg (by omega), if_pos (by omega)]
  have q : ((-1 : Int) + ((vs.length + 1 : Nat) : Int)).toNat = vs.length := by omega
  simp only [Option.bind_some, q]
  simp
/-! ### rules -/
inductive LK | least | most | add deriving DecidableEq
inductive Un | times (m : Int) | part (d : Int) | clip (lo hi : Int) | frm (w : Int) | bar (k lo hi : Int) | row (ws : List Int)
inductive Rl
  | is (w : Int) | hear (j : Int) | lst (k : LK) (ps : List Rl) | mid (a b c : Rl) | un (u : Un) (a : Rl)
def LK.w : LK → Str | .least => "least" | .most => "most" | .add => "add"
def Un.w : Un → Str | .times _ => "times" | .part _ => "part" | .clip _ _ => "clip" | .frm _ => "from" | .bar _ _ _ => "bar" | .row _ => "row"
def Un.d : Un → List PyData
  | .times m => [.int m] | .part d => [.int d] | .clip a b => [.int a, .int b] | .frm w => [.int w] | .bar a b c => [.int a, .int b, .int c] | .row ws => [.tuple (ws.map PyData.int)]
namespace Rl
mutual
def toD : Rl → PyData
  | .is w => .tuple [.str "is", .int w]
  | .hear j => .tuple [.str "hear", .int j]
  | .lst k ps => .tuple [.str k.w, .tuple (toDs ps)]
  | .mid a b c => .tuple [.str "middle", toD a, toD b, toD c]
  | .un u a => .tuple (.str u.w :: (u.d ++ [toD a]))
def toDs : List Rl → List PyData
  | [] => []
  | r :: rs => toD r :: toDs rs
end
mutual
def brs : Rl → List Int
  | .is _ => []
  | .hear j => [j]
  | .lst _ ps => brsA ps
  | .mid a b c => brs a ++ (brs b ++ (brs c ++ []))
  | .un _ a => brs a ++ []
def brsA : List Rl → List Int
  | [] => []
  | r :: rs => brs r ++ brsA rs
end
mutual
def dep : Rl → Nat
  | .is _ => 0
  | .hear _ => 0
  | .lst _ ps => depA ps + 1
  | .mid a b c => max (dep a) (max (dep b) (max (dep c) 0)) + 1
  | .un _ a => max (dep a) 0 + 1
def depA : List Rl → Nat
  | [] => 0
  | r :: rs => max (dep r) (depA rs)
end
mutual
def cnt : Rl → Nat
  | .is _ => 1
  | .hear _ => 1
  | .lst _ ps => cntA ps + 1
  | .mid a b c => cnt a + (cnt b + (cnt c + 0)) + 1
  | .un _ a => (cnt a + 0) + 1
def cntA : List Rl → Nat
  | [] => 0
  | r :: rs => cnt r + cntA rs
end
def parts : Rl → List Rl
  | .is _ => [] | .hear _ => [] | .lst _ ps => ps | .mid a b c => [a, b, c] | .un _ a => [a]
def word : Rl → Str
  | .is _ => "is" | .hear _ => "hear" | .lst k _ => k.w | .mid _ _ _ => "middle" | .un u _ => u.w
def isLeaf : Rl → Bool | .is _ => true | .hear _ => true | _ => false
def isLst : Rl → Bool | .lst _ _ => true | _ => false
def isMid : Rl → Bool | .mid _ _ _ => true | _ => false
def isHear : Rl → Bool | .hear _ => true | _ => false
theorem noHear : ∀ {r : Rl}, (∀ j, r ≠ .hear j) → r.isHear = false
  | .is _, _ => rfl | .hear j, h => absurd rfl (h j) | .lst _ _, _ => rfl | .mid _ _ _, _ => rfl | .un _ _, _ => rfl
theorem depA_le {ps : List Rl} {p : Rl} (h : p ∈ ps) : dep p ≤ depA ps := by
  induction ps with
  | nil => cases h
  | cons q r ih =>
    simp only [depA]
    rcases List.mem_cons.mp h with e | e
    · rw [e]; omega
    · have := ih e; omega
theorem dep_parts : ∀ r : Rl, r.parts ≠ [] → r.dep = depA r.parts + 1
  | .is _, h => absurd rfl h
  | .hear _, h => absurd rfl h
  | .lst _ ps, _ => by simp only [dep, parts]
  | .mid a b c, _ => by simp only [dep, parts, depA]
  | .un _ a, _ => by simp only [dep, parts, depA]
theorem part_dep {r p : Rl} (h : p ∈ r.parts) : p.dep + 1 ≤ r.dep := by
  have h1 := depA_le h
  have h2 := dep_parts r (fun e => by rw [e] at h; cases h)
  omega
theorem brs_parts : ∀ r : Rl, (∀ j, r ≠ .hear j) → r.brs = brsA r.parts
  | .is _, _ => by simp only [brs, parts, brsA]
  | .hear j, h => absurd rfl (h j)
  | .lst _ ps, _ => by simp only [brs, parts]
  | .mid a b c, _ => by simp only [brs, parts, brsA]
  | .un _ a, _ => by simp only [brs, parts, brsA]
theorem cnt_parts : ∀ r : Rl, r.cnt = cntA r.parts + 1
  | .is _ => by simp only [cnt, parts, cntA]
  | .hear j => by simp only [cnt, parts, cntA]
  | .lst _ ps => by simp only [cnt, parts]
  | .mid a b c => by simp only [cnt, parts, cntA]
  | .un _ a => by simp only [cnt, parts, cntA]
theorem brsA_app : ∀ ps qs : List Rl, brsA (ps ++ qs) = brsA ps ++ brsA qs
  | [], qs => by simp only [List.nil_append, brsA]
  | p :: ps, qs => by simp only [List.cons_append, brsA, brsA_app ps qs, List.append_assoc]
theorem toDs_map : ∀ ps : List Rl, toDs ps = ps.map toD
  | [] => rfl
  | p :: ps => by simp only [toDs, toDs_map ps, List.map_cons]
mutual
theorem brs_cnt : ∀ r : Rl, r.brs.length ≤ r.cnt
  | .is _ => by simp only [brs, cnt, List.length_nil]; omega
  | .hear _ => by simp only [brs, cnt, List.length_cons, List.length_nil]; omega
  | .lst _ ps => by simp only [brs, cnt]; have := brsA_cnt ps; omega
  | .mid a b c => by
    simp only [brs, cnt, List.length_append, List.length_nil]
    have := brs_cnt a; have := brs_cnt b; have := brs_cnt c; omega
  | .un _ a => by simp only [brs, cnt, List.length_append, List.length_nil]; have := brs_cnt a; omega
theorem brsA_cnt : ∀ ps : List Rl, (brsA ps).length ≤ cntA ps
  | [] => by simp only [brsA, cntA, List.length_nil]; omega
  | p :: ps => by simp only [brsA, cntA, List.length_append]; have := brs_cnt p; have := brsA_cnt ps; omega
end
theorem len_cntA : ∀ ps : List Rl, ps.length ≤ cntA ps
  | [] => Nat.le_refl _
  | p :: ps => by
    simp only [cntA, List.length_cons]
    have := len_cntA ps
    have := cnt_parts p
    omega
theorem cntA_le {ps : List Rl} {p : Rl} (h : p ∈ ps) : cnt p ≤ cntA ps := by
  induction ps with
  | nil => cases h
  | cons q r ih =>
    simp only [cntA]
    rcases List.mem_cons.mp h with e | e
    · rw [e]; omega
    · have := ih e; omega
theorem part_cnt {r p : Rl} (h : p ∈ r.parts) : p.cnt + 1 ≤ r.cnt := by
  have h1 := cntA_le h
  have h2 := cnt_parts r
  omega
theorem cntA_app : ∀ ps qs : List Rl, cntA (ps ++ qs) = cntA ps + cntA qs
  | [], qs => by simp only [List.nil_append, cntA]; omega
  | p :: ps, qs => by simp only [List.cons_append, cntA, cntA_app ps qs]; omega
/-- its first two entries, whatever kind it is -/
theorem toD_word : ∀ r : Rl, ∃ ds, r.toD = .tuple (.str r.word :: ds)
  | .is w => ⟨[.int w], by simp only [toD, word]⟩
  | .hear j => ⟨[.int j], by simp only [toD, word]⟩
  | .lst k ps => ⟨[.tuple (toDs ps)], by simp only [toD, word]⟩
  | .mid a b c => ⟨[toD a, toD b, toD c], by simp only [toD, word]⟩
  | .un u a => ⟨u.d ++ [toD a], by simp only [toD, word]⟩
end Rl
theorem w_leaf : ∀ r : Rl, inV (.str r.word) [.str "is", .str "hear"] = r.isLeaf
  | .is _ => (by decide +kernel : inV (.str "is") [.str "is", .str "hear"] = true)
  | .hear _ => (by decide +kernel : inV (.str "hear") [.str "is", .str "hear"] = true)
  | .lst .least _ => (by decide +kernel : inV (.str "least") [.str "is", .str "hear"] = false)
  | .lst .most _ => (by decide +kernel : inV (.str "most") [.str "is", .str "hear"] = false)
  | .lst .add _ => (by decide +kernel : inV (.str "add") [.str "is", .str "hear"] = false)
  | .mid _ _ _ => (by decide +kernel : inV (.str "middle") [.str "is", .str "hear"] = false)
  | .un (.times _) _ => (by decide +kernel : inV (.str "times") [.str "is", .str "hear"] = false)
  | .un (.part _) _ => (by decide +kernel : inV (.str "part") [.str "is", .str "hear"] = false)
  | .un (.clip _ _) _ => (by decide +kernel : inV (.str "clip") [.str "is", .str "hear"] = false)
  | .un (.frm _) _ => (by decide +kernel : inV (.str "from") [.str "is", .str "hear"] = false)
  | .un (.bar _ _ _) _ => (by decide +kernel : inV (.str "bar") [.str "is", .str "hear"] = false)
  | .un (.row _) _ => (by decide +kernel : inV (.str "row") [.str "is", .str "hear"] = false)
theorem w_list : ∀ r : Rl, inV (.str r.word) [.str "least", .str "most", .str "add"] = r.isLst
  | .is _ => (by decide +kernel : inV (.str "is") [.str "least", .str "most", .str "add"] = false)
  | .hear _ => (by decide +kernel : inV (.str "hear") [.str "least", .str "most", .str "add"] = false)
  | .lst .least _ => (by decide +kernel : inV (.str "least") [.str "least", .str "most", .str "add"] = true)
  | .lst .most _ => (by decide +kernel : inV (.str "most") [.str "least", .str "most", .str "add"] = true)
  | .lst .add _ => (by decide +kernel : inV (.str "add") [.str "least", .str "most", .str "add"] = true)
  | .mid _ _ _ => (by decide +kernel : inV (.str "middle") [.str "least", .str "most", .str "add"] = false)
  | .un (.times _) _ => (by decide +kernel : inV (.str "times") [.str "least", .str "most", .str "add"] = false)
  | .un (.part _) _ => (by decide +kernel : inV (.str "part") [.str "least", .str "most", .str "add"] = false)
  | .un (.clip _ _) _ => (by decide +kernel : inV (.str "clip") [.str "least", .str "most", .str "add"] = false)
  | .un (.frm _) _ => (by decide +kernel : inV (.str "from") [.str "least", .str "most", .str "add"] = false)
  | .un (.bar _ _ _) _ => (by decide +kernel : inV (.str "bar") [.str "least", .str "most", .str "add"] = false)
  | .un (.row _) _ => (by decide +kernel : inV (.str "row") [.str "least", .str "most", .str "add"] = false)
theorem w_mid : ∀ r : Rl, decide (V.str r.word = V.str "middle") = r.isMid
  | .is _ => (by decide +kernel : decide (V.str "is" = V.str "middle") = false)
  | .hear _ => (by decide +kernel : decide (V.str "hear" = V.str "middle") = false)
  | .lst .least _ => (by decide +kernel : decide (V.str "least" = V.str "middle") = false)
  | .lst .most _ => (by decide +kernel : decide (V.str "most" = V.str "middle") = false)
  | .lst .add _ => (by decide +kernel : decide (V.str "add" = V.str "middle") = false)
  | .mid _ _ _ => (by decide +kernel : decide (V.str "middle" = V.str "middle") = true)
  | .un (.times _) _ => (by decide +kernel : decide (V.str "times" = V.str "middle") = false)
  | .un (.part _) _ => (by decide +kernel : decide (V.str "part" = V.str "middle") = false)
  | .un (.clip _ _) _ => (by decide +kernel : decide (V.str "clip" = V.str "middle") = false)
  | .un (.frm _) _ => (by decide +kernel : decide (V.str "from" = V.str "middle") = false)
  | .un (.bar _ _ _) _ => (by decide +kernel : decide (V.str "bar" = V.str "middle") = false)
  | .un (.row _) _ => (by decide +kernel : decide (V.str "row" = V.str "middle") = false)
theorem w_hear : ∀ r : Rl, decide (V.str r.word = V.str "hear") = r.isHear
  | .is _ => (by decide +kernel : decide (V.str "is" = V.str "hear") = false)
  | .hear _ => (by decide +kernel : decide (V.str "hear" = V.str "hear") = true)
  | .lst .least _ => (by decide +kernel : decide (V.str "least" = V.str "hear") = false)
  | .lst .most _ => (by decide +kernel : decide (V.str "most" = V.str "hear") = false)
  | .lst .add _ => (by decide +kernel : decide (V.str "add" = V.str "hear") = false)
  | .mid _ _ _ => (by decide +kernel : decide (V.str "middle" = V.str "hear") = false)
  | .un (.times _) _ => (by decide +kernel : decide (V.str "times" = V.str "hear") = false)
  | .un (.part _) _ => (by decide +kernel : decide (V.str "part" = V.str "hear") = false)
  | .un (.clip _ _) _ => (by decide +kernel : decide (V.str "clip" = V.str "hear") = false)
  | .un (.frm _) _ => (by decide +kernel : decide (V.str "from" = V.str "hear") = false)
  | .un (.bar _ _ _) _ => (by decide +kernel : decide (V.str "bar" = V.str "hear") = false)
  | .un (.row _) _ => (by decide +kernel : decide (V.str "row" = V.str "hear") = false)
/-- a rule's parts, as its tuple holds them -/
theorem rule_tup {H : Hp} {v : V} {r : Rl} (h : Tp H v r.toD) : ∃ a vs, v = .ref a ∧ H a = some (.tup (.str r.word :: vs)) ∧ Tp H v r.toD := by
  obtain ⟨ds, e⟩ := r.toD_word
  have h' := h
  rw [e] at h'
  obtain ⟨a, vs, rfl, h1, h2⟩ := h'.inv
  obtain ⟨v0, r0, rfl, h3, h4⟩ := h2.cons_inv
  rw [h3.str_inv] at h1
  exact ⟨a, r0, rfl, h1, h⟩
theorem TpAll.part {H : Hp} : ∀ {ps : List Rl} {vs : List V} {i : Nat} {v : V}, TpAll H vs (Rl.toDs ps) → vs[i]? = some v → ∃ p, ps[i]? = some p ∧ p ∈ ps ∧ Tp H v p.toD
  | [], _, _, _, h, e => by
    simp only [Rl.toDs] at h
    rw [h.nil_inv] at e; simp at e
  | p :: ps, _, i, _, h, e => by
    simp only [Rl.toDs] at h
    obtain ⟨v0, r, rfl, h1, h2⟩ := h.cons_inv
    cases i with
    | zero =>
      simp at e; subst e
      exact ⟨p, rfl, List.mem_cons_self, h1⟩
    | succ i =>
      obtain ⟨q, e1, e2, e3⟩ := TpAll.part h2 (i := i) (by simpa using e)
      exact ⟨q, by simpa using e1, List.mem_cons_of_mem _ e2, e3⟩
theorem Rl.brsA_take {ps : List Rl} {i : Nat} {p : Rl} (h : ps[i]? = some p) : brsA (ps.take (i + 1)) = brsA (ps.take i) ++ p.brs := by
  rw [List.take_add_one, h, Option.toList_some, brsA_app]
  simp only [brsA, List.append_nil]
theorem Rl.toDs_len : ∀ ps : List Rl, (toDs ps).length = ps.length
  | [] => rfl
  | p :: ps => by simp only [toDs, List.length_cons, toDs_len ps]
theorem Rl.brsA_take_le (ps : List Rl) (i : Nat) : (brsA (ps.take i)).length ≤ cntA ps := by
  have h := brsA_app (ps.take i) (ps.drop i)
  rw [List.take_append_drop] at h
  have h2 := brsA_cnt ps
  have h3 := congrArg List.length h
  rw [List.length_append] at h3
  omega
/-! ### what the text's defs of rules promise -/
def spIn : Sp := fun vs H Q _ => ∃ (v : V) (r : Rl), vs = [v] ∧ Tp H v r.toD ∧ ∀ (b : Addr) (xs : List V) (H' : Hp), Same H H' → H' b = some (.tup xs) → TpAll H' xs (Rl.toDs r.parts) → Q (.ref b) H'
def spBr (n : Nat) : Sp := fun vs H Q _ => ∃ (v : V) (r : Rl), vs = [v] ∧ Tp H v r.toD ∧ r.dep + 1 ≤ n ∧ r.cnt ≤ 100000 ∧ ∀ (b : Addr) (H' : Hp), Same H H' → H' b = some (.tup (r.brs.map V.int)) → Q (.ref b) H'
end NB
set_option linter.all false
set_option maxRecDepth 100000
set_option maxHeartbeats 4000000
namespace NB
open PySem PySem.Spec PyProof.Rows L2
/-! ### what a drawn rule is like -/
def Un.ok (n top : Int) (any : Bool) : Un → Prop
  | .times m => 0 ≤ m ∧ m < 3
  | .part d => 1 ≤ d ∧ d < 4
  | .clip a b => 0 ≤ a ∧ a ≤ top ∧ a ≤ b ∧ b < a + 3
  | .frm w => 0 ≤ w ∧ w ≤ top + 1
  | .bar k a b => 0 ≤ k ∧ k ≤ top + 1 ∧ 0 ≤ a ∧ a ≤ top ∧ 0 ≤ b ∧ b ≤ top
  | .row ws => ws ≠ [] ∧ (ws.length : Int) ≤ top + 1 ∧ (∀ x ∈ ws, 0 ≤ x ∧ x ≤ top) ∧ (any = false → ws.Pairwise (· ≤ ·))
namespace Rl
mutual
def ok (n top : Int) (any : Bool) : Rl → Prop
  | .is w => 0 ≤ w ∧ w ≤ top
  | .hear j => 0 ≤ j ∧ j < n
  | .lst _ ps => ps ≠ [] ∧ ps.length ≤ 2 ∧ okA n top any ps
  | .mid a b c => ok n top any a ∧ ok n top any b ∧ ok n top any c
  | .un u a => u.ok n top any ∧ ok n top any a
def okA (n top : Int) (any : Bool) : List Rl → Prop
  | [] => True
  | r :: rs => ok n top any r ∧ okA n top any rs
end
theorem okA_all {n top : Int} {any : Bool} : ∀ {ps : List Rl}, okA n top any ps ↔ ∀ p ∈ ps, ok n top any p
  | [] => by simp [okA]
  | p :: ps => by simp only [okA, List.mem_cons, forall_eq_or_imp, okA_all]
/-- a rule that a draw of a depth can give -/
structure Drawn (n top : Int) (any : Bool) (deep : Nat) (r : Rl) : Prop where
  ok : r.ok n top any
  dep : r.dep ≤ deep
  cnt : r.cnt ≤ 4 ^ deep
theorem cntA_two {ps : List Rl} {c : Nat} (h : ∀ p ∈ ps, p.cnt ≤ c) : cntA ps ≤ ps.length * c := by
  induction ps with
  | nil => simp [cntA]
  | cons p ps ih =>
    have h1 := h p List.mem_cons_self
    have h2 := ih fun q hq => h q (List.mem_cons_of_mem _ hq)
    simp only [cntA, List.length_cons]
    rw [Nat.add_mul]
    omega
theorem depA_all {ps : List Rl} {d : Nat} (h : ∀ p ∈ ps, p.dep ≤ d) : depA ps ≤ d := by
  induction ps with
  | nil => simp [depA]
  | cons p ps ih =>
    have h1 := h p List.mem_cons_self
    have h2 := ih fun q hq => h q (List.mem_cons_of_mem _ hq)
    simp only [depA]
    omega
theorem pow4 (d : Nat) : 1 ≤ 4 ^ d := Nat.pow_pos (by decide)
theorem Drawn.leafI {n top : Int} {any : Bool} {w : Int} (d : Nat) (h : 0 ≤ w ∧ w ≤ top) : Drawn n top any d (.is w) := ⟨by simpa only [Rl.ok] using h, by simp only [Rl.dep]; omega, by simp only [Rl.cnt]; exact pow4 d⟩
theorem Drawn.leafH {n top : Int} {any : Bool} {w : Int} (d : Nat) (h : 0 ≤ w ∧ w < n) : Drawn n top any d (.hear w) := ⟨by simpa only [Rl.ok] using h, by simp only [Rl.dep]; omega, by simp only [Rl.cnt]; exact pow4 d⟩
theorem Drawn.lst {n top : Int} {any : Bool} {d : Nat} {k : LK} {ps : List Rl} (h0 : ps ≠ []) (h2 : ps.length ≤ 2) (h : ∀ p ∈ ps, Drawn n top any d p) : Drawn n top any (d + 1) (.lst k ps) := by
  refine ⟨?_, ?_, ?_⟩
  · simp only [Rl.ok]
    exact ⟨h0, h2, okA_all.mpr fun p hp => (h p hp).ok⟩
  · simp only [Rl.dep]
    have := depA_all fun p hp => (h p hp).dep
    omega
  · simp only [Rl.cnt]
    have h3 := cntA_two fun p hp => (h p hp).cnt
    have h4 : ps.length * 4 ^ d ≤ 2 * 4 ^ d := Nat.mul_le_mul_right _ h2
    have h5 := pow4 d
    rw [Nat.pow_succ]
    omega
theorem Drawn.mid {n top : Int} {any : Bool} {a b c : Rl} (ha : Drawn n top any 0 a) (hb : Drawn n top any 0 b) (hc : Drawn n top any 0 c) : Drawn n top any 1 (.mid a b c) := by
  have a1 := ha.dep; have a2 := ha.cnt; have b1 := hb.dep; have b2 := hb.cnt; have c1 := hc.dep; have c2 := hc.cnt
  refine ⟨by simp only [Rl.ok]; exact ⟨ha.ok, hb.ok, hc.ok⟩, by simp only [Rl.dep]; omega, by simp only [Rl.cnt]; omega⟩
theorem Drawn.un {n top : Int} {any : Bool} {d : Nat} {u : Un} {a : Rl} (hu : u.ok n top any) (ha : Drawn n top any d a) : Drawn n top any (d + 1) (.un u a) := by
  have a1 := ha.dep; have a2 := ha.cnt; have h5 := pow4 d
  refine ⟨by simp only [Rl.ok]; exact ⟨hu, ha.ok⟩, by simp only [Rl.dep]; omega, ?_⟩
  simp only [Rl.cnt]
  rw [Nat.pow_succ]
  omega
theorem Drawn.mono {n top : Int} {any : Bool} {d e : Nat} {a : Rl} (h : Drawn n top any d a) (k : d ≤ e) : Drawn n top any e a := ⟨h.ok, Nat.le_trans h.dep k, Nat.le_trans h.cnt (Nat.pow_le_pow_right (by decide) k)⟩
end Rl
/-- _law_rule(deal, n, top, deep, any_row) -/
def spRule (m : Nat) : Sp := fun vs H Q _ => ∃ (a l : Addr) (n top : Int) (deep : Nat) (any : Bool), vs = [.ref a, .int n, .int top, .int deep, .bl any] ∧ Deal H a l ∧ 1 ≤ n ∧ n ≤ 1000 ∧ 0 ≤ top ∧ top ≤ 50 ∧ deep + 1 ≤ m ∧
  ∀ (v : V) (r : Rl) (H' : Hp), Tp H' v r.toD → r.Drawn n top any deep → Deal H' a l → Kp a l H H' → Q v H'
theorem Rl.toDs_app : ∀ ps qs : List Rl, toDs (ps ++ qs) = toDs ps ++ toDs qs
  | [], _ => rfl
  | p :: ps, qs => by simp only [List.cons_append, toDs, Rl.toDs_app ps qs]
theorem Deal.a_some {H : Hp} {a l : Addr} (d : Deal H a l) {p : Addr} (h : H p = none) : p ≠ a ∧ p ≠ l := by
  obtain ⟨_, _, d⟩ := d
  exact ⟨fun e => (by rw [e, d.ob] at h; cases h), fun e => (by rw [e, d.li] at h; cases h)⟩
theorem Deal.putO {a l : Addr} {H : Hp} {p : Addr} {o : HO} (d : Deal H a l) (h1 : p ≠ a) (h2 : p ≠ l) : Deal (upd H p o) a l := by
  obtain ⟨ns, b, d⟩ := d
  exact ⟨ns, b, by rw [upd_ne h1.symm]; exact d.ob, by rw [upd_ne h2.symm]; exact d.li, d.nn, d.ln, d.b0, d.b1⟩
/-- a list of rules, as it is drawn -/
def RuleL (n top : Int) (any : Bool) (d : Nat) (a l D : Addr) (H0 : Hp) (i : Nat) (H : Hp) : Prop := ∃ (vs : List V) (rs : List Rl), vs.length = i ∧ rs.length = i ∧ H D = some (.lst vs) ∧ TpAll H vs (Rl.toDs rs) ∧
  (∀ r ∈ rs, r.Drawn n top any d) ∧ Deal H a l ∧ Kp a l H0 H ∧ D ≠ a ∧ D ≠ l ∧ H0 D = none
theorem RuleL.start {n top : Int} {any : Bool} {d : Nat} {a l D : Addr} {H0 H1 : Hp} (h : H1 D = none) (dl : Deal H1 a l) (k : Kp a l H0 H1) (h0 : H0 D = none) : RuleL n top any d a l D H0 0 (upd H1 D (.lst [])) :=
  ⟨[], [], rfl, rfl, upd_same, .nil, by simp, dl.new h, k.new1 h, (dl.a_some h).1, (dl.a_some h).2, h0⟩
theorem RuleL.step {n top : Int} {any : Bool} {d : Nat} {a l D : Addr} {H0 H1 H2 : Hp} {i : Nat} (h : RuleL n top any d a l D H0 i H1) (hi : i < 1000) {v : V} {r : Rl} (tv : Tp H2 v r.toD) (dr : r.Drawn n top any d) (dl : Deal H2 a l) (k : Kp a l H1 H2) :
    ∃ acc, H2 D = some (.lst acc) ∧ acc.length < sizeLine ∧ RuleL n top any d a l D H0 (i + 1) (upd H2 D (.lst (acc ++ [v]))) := by
  obtain ⟨vs, rs, h1, h2, h3, h4, h5, h6, h7, h8, h9, h0⟩ := h
  have h3' := k D _ h3 h8 h9
  have tk := k.tk h6
  have tp : TK H2 (upd H2 D (.lst (vs ++ [v]))) := TK.put h3' (fun _ => by simp)
  refine ⟨vs, h3', by have := sizeLine_eq; rw [sizeLine_eq]; omega, vs ++ [v], rs ++ [r], by rw [List.length_append, h1]; rfl, by rw [List.length_append, h2]; rfl, upd_same, ?_, ?_, dl.putO h8 h9, ?_, h8, h9, h0⟩
  · rw [Rl.toDs_app]
    exact ((h4.m tk).m tp).append (.cons (tv.m tp) .nil)
  · intro x hx
    rcases List.mem_append.mp hx with q | q
    · exact h5 x q
    · rw [List.mem_singleton.mp q]; exact dr
  · intro c o e e1 e2
    have q : c ≠ D := fun e' => by rw [e', h0] at e; cases e
    rw [upd_ne q]
    exact k c o (h7 c o e e1 e2) e1 e2
/-- a list of numbers, as it is drawn -/
def IntL (lo hi : Int) (a l D : Addr) (H0 : Hp) (i : Nat) (H : Hp) : Prop := ∃ ns : List Int, ns.length = i ∧ H D = some (.lst (ns.map V.int)) ∧ (∀ n ∈ ns, lo ≤ n ∧ n ≤ hi) ∧ Deal H a l ∧ Kp a l H0 H ∧ D ≠ a ∧ D ≠ l ∧ H0 D = none
theorem IntL.start {lo hi : Int} {a l D : Addr} {H0 H1 : Hp} (h : H1 D = none) (dl : Deal H1 a l) (k : Kp a l H0 H1) (h0 : H0 D = none) : IntL lo hi a l D H0 0 (upd H1 D (.lst [])) :=
  ⟨[], rfl, upd_same, by simp, dl.new h, k.new1 h, (dl.a_some h).1, (dl.a_some h).2, h0⟩
theorem IntL.step {lo hi : Int} {a l D : Addr} {H0 H1 H2 : Hp} {i : Nat} (h : IntL lo hi a l D H0 i H1) (hlt : i < 1000) {v : Int} (hv : lo ≤ v ∧ v ≤ hi) (dl : Deal H2 a l) (k : Kp a l H1 H2) :
    ∃ acc, H2 D = some (.lst acc) ∧ acc.length < sizeLine ∧ IntL lo hi a l D H0 (i + 1) (upd H2 D (.lst (acc ++ [.int v]))) := by
  obtain ⟨ns, h1, h3, h5, h6, h7, h8, h9, h0⟩ := h
  have h3' := k D _ h3 h8 h9
  refine ⟨_, h3', by rw [List.length_map, sizeLine_eq]; omega, ns ++ [v], by rw [List.length_append, h1]; rfl, by rw [upd_same, List.map_append]; rfl, ?_, dl.putO h8 h9, ?_, h8, h9, h0⟩
  · intro x hx
    rcases List.mem_append.mp hx with q | q
    · exact h5 x q
    · rw [List.mem_singleton.mp q]; exact hv
  · intro c o e e1 e2
    have q : c ≠ D := fun e' => by rw [e', h0] at e; cases e
    rw [upd_ne q]
    exact k c o (h7 c o e e1 e2) e1 e2
theorem tpInt2 {H : Hp} {p : Addr} {x : Str} {i : Int} (h : H p = some (.tup [.str x, .int i])) : Tp H (.ref p) (.tuple [.str x, .int i]) := .tup h (.cons (.str x) (.cons (.int i) .nil))
end NB
set_option linter.all false
set_option maxRecDepth 100000
set_option maxHeartbeats 4000000
namespace NB
open PySem PySem.Spec PyProof.Rows L2
/-! ### a drawn net -/
/-- a net as its tuples hold it, at v -/
structure NetAt (H : Hp) (v : V) (tops : List Int) (rs : List Rl) : Prop where
  ex : ∃ (a t p : Addr) (vs : List V), v = .ref a ∧ H a = some (.tup [.ref t, .ref p]) ∧ H t = some (.tup (tops.map V.int)) ∧ H p = some (.tup vs) ∧ TpAll H vs (Rl.toDs rs)
theorem NetAt.m {H H' : Hp} {v : V} {tops : List Int} {rs : List Rl} (h : NetAt H v tops rs) (k : TK H H') : NetAt H' v tops rs := by
  obtain ⟨a, t, p, vs, rfl, h1, h2, h3, h4⟩ := h.ex
  exact ⟨a, t, p, vs, rfl, k _ _ h1, k _ _ h2, k _ _ h3, h4.m k⟩
structure NetOk (most top : Int) (any : Bool) (tops : List Int) (rs : List Rl) : Prop where
  n0 : 1 ≤ tops.length
  n1 : (tops.length : Int) ≤ most
  same : rs.length = tops.length
  tp : ∀ t ∈ tops, 1 ≤ t ∧ t ≤ top
  dr : ∀ r ∈ rs, r.Drawn tops.length top any 3
/-- _law_net(deal, most, top, any_row) -/
def spNet : Sp := fun vs H Q _ => ∃ (a l : Addr) (most top : Int) (any : Bool), vs = [.ref a, .int most, .int top, .bl any] ∧ Deal H a l ∧ 1 ≤ most ∧ most ≤ 50 ∧ 1 ≤ top ∧ top ≤ 50 ∧
  ∀ (v : V) (tops : List Int) (rs : List Rl) (H' : Hp), NetAt H' v tops rs → NetOk most top any tops rs → Deal H' a l → Kp a l H H' → Q v H'
end NB
set_option linter.all false
set_option maxRecDepth 100000
set_option maxHeartbeats 4000000
namespace NB
open PySem PySem.Spec PyProof.Rows L2
/-! ### for at, x in enumerate(tuple) -/
open PySem.AutoSeq1 (wpAny_loadPart') in
theorem enum_newT (t : Addr) (items : Array Value) (n : Nat) (dct : Option Addr) (sl : Array (Option Value)) :
    Meets (Builtin.«enumerate.__new__» ⟨[.type "enumerate", .ref t], []⟩) (fun _ R s => s.heap.get? t = some { cls := .type "tuple", dict := dct, data := .seq items n, slots := sl } ∧
      R (.ok (.ret (.ref (s.heap.push { cls := .type "tuple_iterator", data := .fields #[.ref t, .int 0 0] }).objs.size)))
        { s with heap := (s.heap.push { cls := .type "tuple_iterator", data := .fields #[.ref t, .int 0 0] }).push { cls := .type "enumerate", data := .fields #[.none, .bool false, .ref s.heap.objs.size, rawInt 0, .none, .none] } }) :=
  .of_wp fun prog w A R s h => by
    obtain ⟨hp, g, d, tk, os⟩ := s
    obtain ⟨ht, h⟩ := h
    have hsub := sub_enumerate
    have hT : Heap.IsTuple (Shared.heap ⟨hp, g, d, tk, os⟩) t items := ⟨_, ht, rfl, n, rfl⟩
    wp_walk using wpAny_loadPart' ht
    refine wpAny_stack_any fun st => wpAny_pure ?_
    split
    · rename_i c _ _ _ _ _
      cases (c == Value.type "enumerate") <;>
      · wp_walk using wpAny_loadPart' ht, wpAny_pyIter_tuple hT
        exact ⟨_, rfl, h⟩
    · wp_walk using wpAny_loadPart' ht, wpAny_pyIter_tuple hT
      exact ⟨_, rfl, h⟩
theorem enum_callT {prog : Program} {w : World} {A : Around} {E : Value → Shared → Prop} {s : Shared} {t : Addr} {items : Array Value} {Q : Value → Shared → Prop} (hT : s.heap.IsTuple t items)
    (h : ∀ h', IsEnum h' (s.heap.objs.size + 1) s.heap.objs.size 0 .none → h'.IsTupleIter s.heap.objs.size t 0 → (∀ b o, s.heap.get? b = some o → h'.get? b = some o) → Q (.ref (s.heap.objs.size + 1)) { s with heap := h' }) :
    wpAny (model prog w) A (call (.type "enumerate") [.ref t]) Q E s := by
  obtain ⟨⟨c, dct, dt, sl⟩, ht, hc, n, hd⟩ := hT
  obtain rfl : c = .type "tuple" := hc
  obtain rfl : dt = .seq items n := hd
  generalize eI : ({ cls := .type "tuple_iterator", data := .fields #[.ref t, .int 0 0] } : Obj) = oI
  generalize eE : ({ cls := .type "enumerate", data := .fields #[.none, .bool false, .ref s.heap.objs.size, rawInt 0, .none, .none] } : Obj) = oE
  have nw := enum_newT t items n dct sl
  refine callType_new F.called_enumerate (by decide) (F.typeCall_enumerate_1 _) (F.newCall_enumerate_1 _) (fun obj => F.args_object_init_2 obj _) F.entry_enumerate_new nw ⟨ht, ?_⟩
  show _ ∧ _
  rw [eI, eE]
  have fI : oI.isFreed = false := by rw [← eI]; rfl
  have fE : oE.isFreed = false := by rw [← eE]; rfl
  have z1 : (s.heap.push oI).objs.size = s.heap.objs.size + 1 := Heap.size_push ..
  have g1 : (s.heap.push oI).get? s.heap.objs.size = some oI := Heap.get?_push_size _ fI
  have g2 : ((s.heap.push oI).push oE).get? (s.heap.objs.size + 1) = some oE := by
    have q := Heap.get?_push_size (s.heap.push oI) (o := oE) fE
    rwa [z1] at q
  rw [z1]
  refine ⟨⟨_, g2, by rw [← eE]⟩, h _ (by rw [← eE] at g2 ⊢; exact g2) ⟨_, Heap.get?_push_of_some _ g1, by rw [← eI], by rw [← eI]; rfl⟩ fun b o q => Heap.get?_push_of_some _ (Heap.get?_push_of_some _ q)⟩
/-- the tuple at a, each item in a new pair -/
def Iet (K : PySem.W.Frag) (a : Addr) : It :=
  ⟨fun i H => ∃ (xs : List V) (x : V), SqT K H a xs ∧ xs[i]? = some x, fun i H v H' => ∃ T x, v = .ref T ∧ H T = none ∧ H' = upd H T (.tup [.int (i : Nat), x]) ∧ ∀ xs, SqT K H a xs → xs[i]? = some x, fun i H => ∃ xs : List V, SqT K H a xs ∧ xs.length ≤ i⟩
theorem turn_iet {P : Program} {w : World} {K : PySem.W.Frag} {elts : List Expr} {kk : Nat} {tpos : Pos} (a e it : Addr) :
    Turn P w K (.Tuple elts kk tpos) (Iet K a) [e, it] e (fun i h => (∃ old, IsEnum h e it ((i : Nat) : Int) old) ∧ h.IsTupleIter it a i ∧ e ≠ it ∧ a ≠ it ∧ e ≠ a) where
  mem := List.mem_cons_self
  obj := fun i h st b hb => by
    obtain ⟨⟨old, he⟩, ⟨o, ho, _, hd⟩, _⟩ := st
    rcases List.mem_cons.mp hb with z | z
    · exact ⟨_, z ▸ he, fun v q => by cases q⟩
    · exact ⟨o, (List.mem_singleton.mp z) ▸ ho, fun v q => by rw [hd] at q; cases q⟩
  keep := fun i h h' st k => by
    obtain ⟨⟨old, he⟩, ⟨o, ho, r⟩, ne⟩ := st
    exact ⟨⟨old, k e List.mem_cons_self _ he⟩, ⟨o, k it (List.mem_cons_of_mem _ List.mem_cons_self) _ ho, r⟩, ne⟩
  item := by
    intro X hP hw hK hc i pins s σ H E I hf st hg
    subst hP hw hK
    obtain ⟨⟨old, he⟩, hit, ne, na, nea⟩ := st
    obtain ⟨xs, x, hq, hx⟩ := hg
    obtain ⟨its, rv, p, hz⟩ := I.tuple hq
    obtain ⟨u, hu, ru⟩ := rv.get hx
    have D := Draws.tuple (prog := X.prog) (w := X.w) (A := X.A.in1) (show X.A.in1.handled = none from I.ok.hd hc) it a na its.toArray
    have lE : e < s.heap.objs.size := Heap.lt_size he
    have lI : it < s.heap.objs.size := by obtain ⟨_, q, _⟩ := hit; exact Heap.lt_size q
    have pt : s.heap.IsTuple a its.toArray := p
    have hi : i < its.toArray.size := by
      have q := (List.getElem?_eq_some_iff.mp hu).1
      simpa using q
    have ef : e ∉ [it, a] := fun q => by
      rcases List.mem_cons.mp q with z | z
      · exact ne z
      · exact nea (List.mem_singleton.mp z)
    refine wpAny_pyNext_enum_itemD D he ⟨hit, pt⟩ hi ne ef fun v h1 tk hv ho hit1 hT hsz hk => ?_
    obtain rfl : v = u := by
      have q : its[i]? = some v := by simpa using hv
      rw [hu] at q
      exact (Option.some.inj q).symm
    refine ⟨_, rfl, wpAny_letOwnedTupleGo_enum (s := { s with heap := h1, toks := tk + 1 }) ho fun h2 he2 sb => ?_⟩
    have hT2 := (sb.2 _ (Nat.ne_of_gt lE)).trans hT
    have new : ObjOk X.prog X.w (upd H s.heap.objs.size (.tup [.int (i : Nat), x])) h2 s.heap.objs.size (.tup [.int (i : Nat), x]) :=
      ⟨by show 2 ≤ sizeLine; decide, [_, _], .cons ⟨_, rfl⟩ (.cons ru .nil), ⟨_, hT2, rfl, _, rfl⟩⟩
    have I2 : Inv X pins σ (upd H s.heap.objs.size (.tup [.int (i : Nat), x])) { s with heap := h2, toks := tk + 1 } := by
      refine I.turnedNew (ch := [e, it]) (fun b o hb q => ?_) hf (Nat.le_refl _) new
      have b1 : b ≠ e := fun z => hb (z ▸ List.mem_cons_self)
      have b2 : b ≠ it := fun z => hb (z ▸ List.mem_cons_of_mem _ List.mem_cons_self)
      exact (sb.2 b b1).trans (hk b o b1 b2 q)
    refine ⟨.ref s.heap.objs.size, _, I2, rfl, ⟨_, x, rfl, I.hok.fresh (Nat.le_refl _), rfl, fun ys hy => by rw [I.tuple_inj hy hq]; exact hx⟩, ⟨⟨v, ?_⟩, ?_, ne, na, nea⟩, fun b hb => ?_⟩
    · have z : ((i + 1 : Nat) : Int) = (i : Int) + 1 := by omega
      rw [z]; exact he2
    · obtain ⟨⟨o, q1, q2⟩, _⟩ := hit1
      exact ⟨o, (sb.2 it ne.symm).trans q1, q2⟩
    · have lb : b < s.heap.objs.size := by
        rcases List.mem_cons.mp hb with z | z
        · rw [z]; exact lE
        · rw [List.mem_singleton.mp z]; exact lI
      rw [upd_ne (Nat.ne_of_lt lb)]
      exact (hf b hb).1
  done := by
    intro X hP hw hK hc i pins s σ H E I hf st hg
    subst hP hw hK
    obtain ⟨⟨old, he⟩, hit, ne, na, nea⟩ := st
    obtain ⟨xs, hq, hx⟩ := hg
    obtain ⟨its, rv, p, hz⟩ := I.tuple hq
    obtain ⟨f0, f1, f2, f3, f4, f5⟩ := hf it (List.mem_cons_of_mem _ List.mem_cons_self)
    have hl := rv.length
    have pt : s.heap.IsTuple a its.toArray := p
    have none_ : its.toArray[i]? = none := by simp; omega
    have hT : s.TypeIs (.ref e) "enumerate" := ⟨_, he, rfl⟩
    unfold pyNext
    refine wpAny_bind (wpAny_attempt (wpAny_callSpecial?_slot (name := Str.ofString "__next__") hT F.slot_enumerate_next
      (wpAny_call_entry F.slot_enumerate_next hT F.entry_enumerate_next ?_ (F.args_enumerate_next_1 _))))
    show wpAny _ _ (field (.ref e) 2 >>= _) _ _ _
    refine wpAny_bind (wpAny_field he rfl (x := .ref it) rfl ?_)
    refine wpAny_bind ?_
    refine wpAny_nextOf_tuple_end (show X.A.in1.handled = none from I.ok.hd hc) hit pt none_ fun h' ex eb hx' => ?_
    obtain ⟨o, ho, hcl⟩ := hx'
    refine wpAny_bind (wpAny_isInstance (T := "StopIteration") (b := true) ⟨o, ho, hcl⟩ isSubtype_stop ?_)
    exact wpAny_pure ⟨rfl, I.turned (t' := s.toks) (fun b o hb q => eb b o hb q) f0 f1 f3 f4 f5⟩
  self := fun A i s Q E st h => by
    obtain ⟨⟨_, he⟩, _⟩ := st
    exact wpAny_pyIter_enum he h
def iEnumT (K : PySem.W.Frag) (ta : TA) : TI := fun σ H R => ta σ H fun vs H1 => ∃ a xs, vs = [.ref a] ∧ SqT K H1 a xs ∧ R (Iet K a) H1
theorem pi_enumT {X : Cx} {e : Expr} {ta : TA} {p pos tpos : Pos} {elts : List Expr} {kk : Nat} (hg : Gl X "enumerate") (hm : X.mg "enumerate" = none) (ha : PA X [e] ta) (hs : starEach [e] X.env = [(false, eval e X.env)] := by rfl) :
    PI X (.Tuple elts kk tpos) (.Call (.Name "enumerate" p) [e] [] pos) (iEnumT X.K ta) := by
  refine ⟨fun pins s σ H R I h => ?_⟩
  refine Call_ (ld_blt I hg hm boot_enumerate (PyProof.Rows.callWith_type1 (thn (ha.run pos pins s σ H _ I h) fun us s1 hq => ?_) hs rfl))
  obtain ⟨vs, H1, I1, r1, a, xs, rfl, hx, q⟩ := hq
  obtain ⟨u, rfl, rx⟩ := vals1 r1
  obtain rfl : u = Value.ref a := rx
  obtain ⟨its, rv, p', hz⟩ := I1.tuple hx
  have pt : s1.heap.IsTuple a its.toArray := p'
  have la : a < s1.heap.objs.size := by obtain ⟨o, ho, _⟩ := pt; exact Heap.lt_size ho
  refine enum_callT pt fun h' he hit hk => wpAny_pyIter_enum he ?_
  have I2 : Inv X pins σ H1 { s1 with heap := h' } := I1.kept (t' := s1.toks) hk
  refine ⟨s1.heap.objs.size + 1, [s1.heap.objs.size + 1, s1.heap.objs.size], _, _, H1, rfl, I2, turn_iet a (s1.heap.objs.size + 1) s1.heap.objs.size, ⟨⟨.none, he⟩, hit, Nat.succ_ne_self _, Nat.ne_of_lt la, Nat.ne_of_gt (Nat.lt_succ_of_lt la)⟩, fun b hb => ?_, q⟩
  have le : s1.heap.objs.size ≤ b := by
    rcases List.mem_cons.mp hb with z | z
    · rw [z]; exact Nat.le_succ _
    · rw [List.mem_singleton.mp z]; exact Nat.le_refl _
  exact I1.fpOk le (I1.hok.fresh le)
/-- a comprehension over it -/
theorem lcE {K : PySem.W.Frag} {a : Addr} {xs : List V} {H0 : Hp} {Qd : Hp → Prop} {body : (Hp → Prop) → V → Hp → Prop} (Pv : Nat → Hp → Prop) (h0 : Pv 0 H0) (hl : ∀ i H, i ≤ xs.length → Pv i H → SqT K H a xs)
    (hs : ∀ i x T H, xs[i]? = some x → Pv i H → H T = none → body (Pv (i + 1)) (.ref T) (upd H T (.tup [.int (i : Nat), x]))) (hd : ∀ H, Pv xs.length H → Qd H) :
    ∃ W : Nat → Nat → Hp → Prop, (∃ m, W 0 m H0) ∧ ∀ i m H, W i m H → ((Iet K a).stop i H ∧ Qd H) ∨ ((Iet K a).go i H ∧ ∃ Nx : Hp → Prop, (∀ H', Nx H' → ∃ m', m' < m ∧ W (i + 1) m' H') ∧ ∀ x H', (Iet K a).yld i H x H' → body Nx x H') := by
  refine ⟨fun i m H => m = xs.length - i ∧ i ≤ xs.length ∧ Pv i H, ⟨_, rfl, Nat.zero_le _, h0⟩, ?_⟩
  rintro i m H ⟨rfl, hi, p⟩
  have q := hl i H hi p
  rcases Nat.lt_or_ge i xs.length with c | c
  · have e : xs[i]? = some xs[i] := List.getElem?_eq_getElem c
    refine .inr ⟨⟨xs, xs[i], q, e⟩, Pv (i + 1), fun H' p' => ⟨_, by omega, rfl, c, p'⟩, fun v H' y => ?_⟩
    obtain ⟨T, x, rfl, hT, rfl, hx⟩ := y
    exact hs i x T H (hx xs q) p hT
  · obtain rfl : i = xs.length := by omega
    exact .inl ⟨⟨xs, q, Nat.le_refl _⟩, hd H p⟩
end NB
set_option linter.all false
set_option maxRecDepth 100000
set_option maxHeartbeats 4000000
namespace NB
open PySem PySem.Spec PyProof.Rows L2
/-! ### who hears whom -/
theorem inV_int (h : Int) : ∀ ns : List Int, inV (.int h) (ns.map V.int) = decide (h ∈ ns)
  | [] => rfl
  | n :: ns => by
    have ih := inV_int h ns
    unfold inV at ih ⊢
    rw [List.map_cons, List.any_cons, ih]
    have e : eqV (.int n) (.int h) = decide (n = h) := by
      show (n == h) = _
      by_cases q : n = h
      · subst q; simp
      · simp [q]
    rw [e]
    by_cases q : n = h
    · simp [q]
    · have q' : h ≠ n := fun e => q e.symm
      simp [q, q']
theorem flat_ints : ∀ ns : List Int, (ns.map V.int).all flatV = true
  | [] => rfl
  | n :: ns => by rw [List.map_cons, List.all_cons, flat_ints ns]; rfl
/-- house o hears house h -/
def ear (rs : List Rl) (o : Nat) (h : Int) : Bool := match rs[o]? with
  | some r => decide (h ∈ r.brs)
  | none => false
theorem ear_at {rs : List Rl} {o : Nat} {r : Rl} (e : rs[o]? = some r) (h : Int) : ear rs o h = decide (h ∈ r.brs) := by unfold ear; rw [e]
theorem ear_lt {rs : List Rl} {o : Nat} {h : Int} (e : ear rs o h = true) : o < rs.length := by
  unfold ear at e
  cases q : rs[o]? with
  | none => rw [q] at e; cases e
  | some r => exact (List.getElem?_eq_some_iff.mp q).1
/-- those below i that hear h -/
def hearsTo (rs : List Rl) (h : Int) (i : Nat) : List Nat := (List.range i).filter fun o => ear rs o h
theorem hearsTo_succ (rs : List Rl) (h : Int) (i : Nat) : hearsTo rs h (i + 1) = if ear rs i h = true then hearsTo rs h i ++ [i] else hearsTo rs h i := by
  unfold hearsTo
  rw [List.range_succ, List.filter_append]
  by_cases q : ear rs i h = true
  · simp [q]
  · simp [q]
theorem hearsTo_len (rs : List Rl) (h : Int) (i : Nat) : (hearsTo rs h i).length ≤ i := by
  have := List.length_filter_le (fun o => ear rs o h) (List.range i)
  rw [List.length_range] at this
  exact this
def ofN (ns : List Nat) : List Int := ns.map fun (n : Nat) => (n : Int)
abbrev hears (rs : List Rl) (h : Int) : List Nat := hearsTo rs h rs.length
/-- hearers(net, house) -/
def spHear : Sp := fun vs H Q _ => ∃ (v : V) (h : Int) (tops : List Int) (rs : List Rl), vs = [v, .int h] ∧ NetAt H v tops rs ∧ (∀ r ∈ rs, r.dep ≤ 3 ∧ r.cnt ≤ 100000) ∧ rs.length ≤ 1000 ∧
  ∀ (b : Addr) (H' : Hp), Same H H' → H' b = some (.tup ((ofN (hears rs h)).map V.int)) → Q (.ref b) H'
end NB
set_option linter.all false
set_option maxRecDepth 100000
set_option maxHeartbeats 4000000
namespace NB
open PySem PySem.Spec PyProof.Rows L2
/-- news of house h comes to house o, in one step or more -/
inductive Rch (rs : List Rl) (h : Int) : Nat → Prop
  | one {o : Nat} : ear rs o h = true → Rch rs h o
  | step {m o : Nat} : Rch rs h m → ear rs o (m : Int) = true → Rch rs h o
theorem Rch.lt {rs : List Rl} {h : Int} {o : Nat} (r : Rch rs h o) : o < rs.length := by
  cases r with
  | one e => exact ear_lt e
  | step _ e => exact ear_lt e
theorem Rch.trans {rs : List Rl} {h : Int} {m o : Nat} (a : Rch rs h m) (b : Rch rs (m : Int) o) : Rch rs h o := by
  induction b with
  | one e => exact .step a e
  | step _ e ih => exact .step ih e
theorem mem_hears {rs : List Rl} {h : Int} {o : Nat} : o ∈ hears rs h ↔ ear rs o h = true := by
  unfold hears hearsTo
  rw [List.mem_filter, List.mem_range]
  exact ⟨fun e => e.2, fun e => ⟨ear_lt e, e⟩⟩
def cntS (N : Nat) (S : Int → Bool) : Nat := ((List.range N).filter fun o => S (o : Nat)).length
theorem cntS_le (N : Nat) (S : Int → Bool) : cntS N S ≤ N := by
  have := List.length_filter_le (fun (o : Nat) => S (o : Nat)) (List.range N)
  rw [List.length_range] at this
  exact this
theorem cntS_succ (N : Nat) (S : Int → Bool) : cntS (N + 1) S = cntS N S + if S (N : Nat) = true then 1 else 0 := by
  unfold cntS
  rw [List.range_succ, List.filter_append, List.length_append]
  by_cases q : S (N : Nat) = true
  · simp [q]
  · simp [q]
theorem cntS_same {S : Int → Bool} {o : Nat} : ∀ N, N ≤ o → cntS N (fun j => S j || decide (j = (o : Int))) = cntS N S
  | 0, _ => rfl
  | N + 1, h => by
    rw [cntS_succ, cntS_succ, cntS_same N (by omega)]
    have e : decide ((N : Int) = (o : Int)) = false := decide_eq_false (by omega)
    simp only [e, Bool.or_false]
theorem cntS_add {S : Int → Bool} {o : Nat} (hS : S o = false) : ∀ N, o < N → cntS N (fun j => S j || decide (j = (o : Int))) = cntS N S + 1
  | 0, h => by omega
  | N + 1, h => by
    rw [cntS_succ, cntS_succ]
    by_cases e : o = N
    · subst e
      rw [cntS_same o (Nat.le_refl _), hS]
      simp
    · rw [cntS_add hS N (by omega)]
      have e : decide ((N : Int) = (o : Int)) = false := decide_eq_false (by omega)
      simp only [e, Bool.or_false]
      omega
/-- what stands of a search: found, waiting, and the house at hand -/
structure RI (rs : List Rl) (h : Int) (S : Int → Bool) (n : Nat) (ws : List Int) (at_ : Int → Prop) : Prop where
  sub : ∀ k, S k = true → ∃ o : Nat, k = o ∧ Rch rs h o
  wsub : ∀ x ∈ ws, x = h ∨ S x = true
  cnt : n = cntS rs.length S
  cl : ∀ m, (m = h ∨ S m = true) → m ∈ ws ∨ at_ m ∨ ∀ o, ear rs o m = true → S (o : Nat) = true
theorem RI.start (rs : List Rl) (h : Int) : RI rs h (fun _ => false) 0 [h] (fun _ => False) where
  sub := fun _ e => by cases e
  wsub := fun x hx => .inl (List.mem_singleton.mp hx)
  cnt := by
    unfold cntS
    rw [List.filter_eq_nil_iff.mpr (fun _ _ e => by cases e)]; rfl
  cl := fun m e => by
    rcases e with e | e
    · exact .inl (by rw [e]; exact List.mem_singleton.mpr rfl)
    · cases e
theorem RI.pop {rs : List Rl} {h : Int} {S : Int → Bool} {n : Nat} {ws : List Int} {z : Int} (r : RI rs h S n (ws ++ [z]) (fun _ => False)) : RI rs h S n ws (fun m => m = z) ∧ (z = h ∨ S z = true) := by
  refine ⟨⟨r.sub, fun x hx => r.wsub x (List.mem_append_left _ hx), r.cnt, fun m e => ?_⟩, r.wsub z (by simp)⟩
  rcases r.cl m e with q | q | q
  · rcases List.mem_append.mp q with q | q
    · exact .inl q
    · exact .inr (.inl (List.mem_singleton.mp q))
  · exact q.elim
  · exact .inr (.inr q)
theorem RI.add {rs : List Rl} {h z : Int} {S : Int → Bool} {n : Nat} {ws : List Int} {o : Nat} (r : RI rs h S n ws (fun m => m = z)) (hz : z = h ∨ S z = true) (e : ear rs o z = true) (hS : S o = false) :
    RI rs h (fun j => S j || decide (j = (o : Int))) (n + 1) (ws ++ [(o : Int)]) (fun m => m = z) ∧ n + 1 ≤ rs.length := by
  have ol := ear_lt e
  have hc := cntS_add hS rs.length ol
  have ro : Rch rs h o := by
    rcases hz with q | q
    · exact .one (by rw [← q]; exact e)
    · obtain ⟨m, rfl, rm⟩ := r.sub z q
      exact .step rm e
  refine ⟨⟨fun k hk => ?_, fun x hx => ?_, by rw [hc, ← r.cnt], fun m hm => ?_⟩, ?_⟩
  · rw [Bool.or_eq_true, decide_eq_true_eq] at hk
    rcases hk with q | q
    · exact r.sub k q
    · exact ⟨o, q, ro⟩
  · rcases List.mem_append.mp hx with q | q
    · rcases r.wsub x q with y | y
      · exact .inl y
      · exact .inr (by rw [y]; rfl)
    · exact .inr (by rw [List.mem_singleton.mp q]; simp)
  · by_cases mo : m = (o : Int)
    · exact .inl (by rw [mo]; simp)
    · have hm' : m = h ∨ S m = true := by
        rcases hm with q | q
        · exact .inl q
        · rw [Bool.or_eq_true, decide_eq_true_eq] at q
          rcases q with q | q
          · exact .inr q
          · exact absurd q mo
      rcases r.cl m hm' with q | q | q
      · exact .inl (List.mem_append_left _ q)
      · exact .inr (.inl q)
      · exact .inr (.inr fun o' e' => by rw [q o' e']; rfl)
  · have := cntS_le rs.length (fun j => S j || decide (j = (o : Int)))
    rw [hc, ← r.cnt] at this
    exact this
theorem RI.next {rs : List Rl} {h z : Int} {S : Int → Bool} {n : Nat} {ws : List Int} (r : RI rs h S n ws (fun m => m = z)) (hL : ∀ o, ear rs o z = true → S (o : Nat) = true) : RI rs h S n ws (fun _ => False) :=
  ⟨r.sub, r.wsub, r.cnt, fun m hm => by
    rcases r.cl m hm with q | q | q
    · exact .inl q
    · exact .inr (.inr fun o e => hL o (by rw [← q]; exact e))
    · exact .inr (.inr q)⟩
theorem RI.done {rs : List Rl} {h : Int} {S : Int → Bool} {n : Nat} (r : RI rs h S n [] (fun _ => False)) (o : Nat) : Rch rs h o → S (o : Nat) = true := by
  have c : ∀ m, (m = h ∨ S m = true) → ∀ o, ear rs o m = true → S (o : Nat) = true := fun m hm => by
    rcases r.cl m hm with q | q | q
    · cases q
    · exact q.elim
    · exact q
  intro k
  induction k with
  | one e => exact c h (.inl rfl) _ e
  | step _ e ih => exact c _ (.inr ih) _ e
/-- reached(net, house) -/
def spReach : Sp := fun vs H Q _ => ∃ (v : V) (h : Int) (tops : List Int) (rs : List Rl), vs = [v, .int h] ∧ NetAt H v tops rs ∧ (∀ r ∈ rs, r.dep ≤ 3 ∧ r.cnt ≤ 100000) ∧ rs.length ≤ 50 ∧
  ∀ (b : Addr) (ns : List Nat) (H' : Hp), Same H H' → H' b = some (.tup ((ofN ns).map V.int)) → ns.Pairwise (· < ·) → (∀ o, o ∈ ns ↔ Rch rs h o) → Q (.ref b) H'
theorem nats_of : ∀ {ns : List Int}, (∀ k ∈ ns, ∃ o : Nat, k = o) → ∃ ms : List Nat, ns = ofN ms
  | [], _ => ⟨[], rfl⟩
  | n :: ns, h => by
    obtain ⟨o, rfl⟩ := h n List.mem_cons_self
    obtain ⟨ms, rfl⟩ := nats_of (ns := ns) fun k hk => h k (List.mem_cons_of_mem _ hk)
    exact ⟨o :: ms, rfl⟩
theorem ofN_mem {ms : List Nat} {o : Nat} : (o : Int) ∈ ofN ms ↔ o ∈ ms := by
  unfold ofN
  rw [List.mem_map]
  constructor
  · rintro ⟨x, hx, e⟩
    obtain rfl : x = o := by omega
    exact hx
  · intro h; exact ⟨o, h, rfl⟩
theorem ofN_lt {ms : List Nat} (h : (ofN ms).Pairwise (· < ·)) : ms.Pairwise (· < ·) := by
  unfold ofN at h
  rw [List.pairwise_map] at h
  exact h.imp fun q => by omega
theorem cxW {CX : CXT} {P : Program} {w : World} {K : PySem.W.Frag} {mg : Str → Option Value} {base : Heap} {N : List Str} {qual : Str} {scope : Scope} {f : Addr} {cd : Value} {A : Around} {outer : List Env} {s : Shared} {H : Hp} {E : XK} :
  (cxOf CX P w K mg base N qual scope f cd A outer s H E).w = w := rfl
end NB
set_option linter.all false
set_option maxRecDepth 100000
set_option maxHeartbeats 4000000
namespace NB
open PySem PySem.Spec PyProof.Rows L2
/-! ### a range held by a name, and walked -/
theorem cr_range1 {X : Cx} : CallR X (.type "range") (fun vs H Q => ∃ j, vs = [V.int j] ∧ ∀ p, H p = none → Q (.ref p) (upd H p (.rng 0 j))) := by
  intro pins s σ H vs us Q I r h
  obtain ⟨j, rfl, q⟩ := h
  obtain ⟨u, rfl, t, rfl⟩ := vals1 r
  refine call_range_1 ⟨.ref s.heap.objs.size, upd H s.heap.objs.size (.rng 0 j), I.laid (t' := s.toks + 1 + 1) (fun b o e => Heap.get?_push_of_some _ e) (Nat.le_refl _) ?_, rfl, q _ (I.hok.fresh (Nat.le_refl _))⟩
  exact ⟨_, _, _, Heap.get?_push_size _ rfl⟩
def iRngV (tl : TE) : TI := fun σ H R => tl σ H fun x H1 => ∃ (a : Addr) (n : Nat), x = .ref a ∧ H1 a = some (.rng 0 (n : Int)) ∧ n < 1000000 ∧ R (Itr 0 n) H1
theorem pi_rngV {X : Cx} {tg l : Expr} {tl : TE} (hl : PE X l tl) : PI X tg l (iRngV tl) := by
  refine ⟨fun pins s σ H R I h => ?_⟩
  refine thn (hl.run pins s σ H _ I h) fun v s1 hq => ?_
  obtain ⟨x, H1, I1, r1, a, n, rfl, ha, hn, q⟩ := hq
  obtain rfl : v = Value.ref a := r1
  obtain ⟨t, u, v, ho⟩ := I1.hok a _ ha
  refine wpAny_pyIter_range (show IsRange s1.heap a 0 (n : Int) 1 t u v from ho) (small_one (by decide) (by decide) (by omega) (by omega)) ?_
  refine ⟨s1.heap.objs.size, [s1.heap.objs.size], _, _, H1, rfl, I1.kept (t' := s1.toks) fun b o e => Heap.get?_push_of_some _ e, turn_range _ 0 n, ?_, fun b hb => ?_, q⟩
  · have e1 : (0 : Int) + ((0 : Nat) : Int) * 1 = 0 := by simp
    have e2 : ((n : Nat) : Int) - ((0 : Nat) : Int) = Builtin.Range.rangeSize 0 (n : Int) 1 := by rw [rangeSize_one]; split <;> omega
    show IsRangeIter _ _ ((0 : Int) + ((0 : Nat) : Int) * 1) (((n : Nat) : Int) - ((0 : Nat) : Int)) 1
    rw [e1, e2]
    exact Heap.get?_push_size _ rfl
  · obtain rfl : b = s1.heap.objs.size := List.mem_singleton.mp hb
    exact I1.fpOk (Nat.le_refl _) (I1.hok.fresh (Nat.le_refl _))
/-! ### houses that hear one another -/
/-- the lot of a house: itself, and those that it reaches and that reach it -/
def Mate (rs : List Rl) (h o : Nat) : Prop := o = h ∨ (Rch rs (h : Int) o ∧ Rch rs (o : Int) h)
theorem Mate.refl {rs : List Rl} (h : Nat) : Mate rs h h := .inl rfl
theorem Mate.symm {rs : List Rl} {h o : Nat} (m : Mate rs h o) : Mate rs o h := by
  rcases m with rfl | ⟨a, b⟩
  · exact .inl rfl
  · exact .inr ⟨b, a⟩
theorem Mate.trans {rs : List Rl} {h o k : Nat} (m : Mate rs h o) (p : Mate rs o k) : Mate rs h k := by
  rcases m with rfl | ⟨a, b⟩
  · exact p
  · rcases p with rfl | ⟨c, d⟩
    · exact .inr ⟨a, b⟩
    · exact .inr ⟨a.trans c, d.trans b⟩
/-- ns are the members below N of a lot, in their order -/
structure Lot (rs : List Rl) (N h : Nat) (ns : List Nat) : Prop where
  srt : ns.Pairwise (· < ·)
  mem : ∀ o, o ∈ ns ↔ o < N ∧ Mate rs h o
theorem sorted_ext : ∀ {xs ys : List Nat}, xs.Pairwise (· < ·) → ys.Pairwise (· < ·) → (∀ o, o ∈ xs ↔ o ∈ ys) → xs = ys
  | [], [], _, _, _ => rfl
  | [], y :: ys, _, _, h => by have := (h y).mpr List.mem_cons_self; cases this
  | x :: xs, [], _, _, h => by have := (h x).mp List.mem_cons_self; cases this
  | x :: xs, y :: ys, hx, hy, h => by
    obtain ⟨x1, x2⟩ := List.pairwise_cons.mp hx
    obtain ⟨y1, y2⟩ := List.pairwise_cons.mp hy
    have e : x = y := by
      rcases List.mem_cons.mp ((h x).mp List.mem_cons_self) with q | q
      · exact q
      · rcases List.mem_cons.mp ((h y).mpr List.mem_cons_self) with z | z
        · exact z.symm
        · have := y1 x q; have := x1 y z; omega
    subst e
    rw [sorted_ext x2 y2 fun o => ?_]
    constructor
    · intro q
      rcases List.mem_cons.mp ((h o).mp (List.mem_cons_of_mem _ q)) with z | z
      · subst z; have := x1 o q; omega
      · exact z
    · intro q
      rcases List.mem_cons.mp ((h o).mpr (List.mem_cons_of_mem _ q)) with z | z
      · subst z; have := y1 o q; omega
      · exact z
theorem Lot.same {rs : List Rl} {N h k : Nat} {xs ys : List Nat} (a : Lot rs N h xs) (b : Lot rs N k ys) (m : Mate rs h k) : xs = ys :=
  sorted_ext a.srt b.srt fun o => by
    rw [a.mem, b.mem]
    exact ⟨fun q => ⟨q.1, m.symm.trans q.2⟩, fun q => ⟨q.1, m.trans q.2⟩⟩
end NB
set_option linter.all false
set_option maxRecDepth 100000
set_option maxHeartbeats 4000000
namespace NB
open PySem PySem.Spec PyProof.Rows L2
/-! ### sorted(set) of tuples of unlike lengths that their first numbers tell apart -/
theorem perm_map_inv {α β : Type} {f : α → β} {xs ys : List β} (h : xs.Perm ys) : ∀ L : List α, ys = L.map f → ∃ L1 : List α, L1.Perm L ∧ xs = L1.map f := by
  induction h with
  | nil =>
    intro L e
    exact ⟨L, .refl _, e⟩
  | @cons x l1 l2 _ ih =>
    intro L e
    match L, e with
    | y :: L, e =>
      rw [List.map_cons] at e
      obtain ⟨e1, e2⟩ := List.cons.inj e
      obtain ⟨L1, p, q⟩ := ih L e2
      exact ⟨y :: L1, p.cons y, by rw [List.map_cons, e1, q]⟩
  | swap x y l =>
    intro L e
    match L, e with
    | a :: b :: L, e =>
      rw [List.map_cons, List.map_cons] at e
      obtain ⟨e1, e2⟩ := List.cons.inj e
      obtain ⟨e3, e4⟩ := List.cons.inj e2
      exact ⟨b :: a :: L, .swap a b L, by rw [List.map_cons, List.map_cons, e1, e3, e4]⟩
    | [a], e => simp at e
  | trans _ _ ih1 ih2 =>
    intro L e
    obtain ⟨L1, p1, q1⟩ := ih2 L e
    obtain ⟨L2, p2, q2⟩ := ih1 L1 q1
    exact ⟨L2, p2.trans p1, q2⟩
section
variable {prog : Program} {w : World} {A : Around} {E : Value → Shared → Prop} {s : Shared}
theorem lex_same {Q : Bool → Shared → Prop} {b : Bool} (hQ : Q false s) : ∀ {xs ys : List Value} {ns : List Int} (i : Nat), IntsAre xs ns → IntsAre ys ns → PySem.W.KatLex prog w A b false Q (xs.zip ys) i s
  | _, _, _, _, .nil, .nil => PySem.W.kat_nil hQ
  | _, _, _, i, .cons p t hx, .cons _ u hy => by
    refine PySem.W.kat_cons (wpAny_eqBool_int ?_)
    rw [beq_self_eq_true]
    exact PySem.W.kat_yes (lex_same hQ (i + 1) hx hy)
theorem lex_heads {Q : Bool → Shared → Prop} {b c : Bool} {xs ys : List Value} {p q : Int} {ns ms : List Int} (i : Nat) (hx : IntsAre xs (p :: ns)) (hy : IntsAre ys (q :: ms)) (he : p = q → ns = ms) (hc : ns = ms → c = false)
    (hQ : Q (decide (p < q)) s) : PySem.W.KatLex prog w A b c Q (xs.zip ys) i s := by
  cases hx with
  | cons _ t hx =>
    cases hy with
    | cons _ u hy =>
      refine PySem.W.kat_cons (wpAny_eqBool_int ?_)
      by_cases e : p = q
      · have e2 := he e
        subst e e2
        rw [beq_self_eq_true, hc rfl]
        rw [show decide (p < p) = false from decide_eq_false (Int.lt_irrefl _)] at hQ
        exact PySem.W.kat_yes (lex_same hQ _ hx hy)
      · rw [show (p == q) = false from beq_eq_false_iff_ne.mpr e]
        exact PySem.W.kat_no (TS.oneLt_ints _ hQ)
/-- the tuples of a list, told apart by their first numbers -/
structure Told (h : Heap) (vs : List Value) : Prop where
  one : ∀ v ∈ vs, ∃ p ns, TS.TupInts h v (p :: ns)
  two : ∀ v ∈ vs, ∀ u ∈ vs, ∀ p ns ms, TS.TupInts h v (p :: ns) → TS.TupInts h u (p :: ms) → ns = ms
theorem Told.keeps {h h' : Heap} {vs : List Value} (x : Told h vs) (k : ∀ b o, h.get? b = some o → o.cls = .type "tuple" → h'.get? b = some o) : Told h' vs where
  one := fun v hv => by
    obtain ⟨p, ns, t⟩ := x.one v hv
    exact ⟨p, ns, t.keeps k⟩
  two := fun v hv u hu p ns ms t1 t2 => by
    obtain ⟨p1, ns1, s1⟩ := x.one v hv
    obtain ⟨p2, ns2, s2⟩ := x.one u hu
    have e1 := t1.ints.symm.trans (s1.keeps k).ints
    have e2 := t2.ints.symm.trans (s2.keeps k).ints
    obtain ⟨a1, a2⟩ := List.cons.inj e1
    obtain ⟨b1, b2⟩ := List.cons.inj e2
    rw [a2, b2]
    refine x.two v hv u hu p ns1 ns2 ?_ ?_
    · rw [a1]; exact s1
    · rw [b1]; exact s2
def headI (h : Heap) (v : Value) : Int := (TS.intsOf h v).headD 0
theorem firsts_told {h : Heap} : ∀ vs : List Value, (∀ v ∈ vs, ∃ p ns, TS.TupInts h v (p :: ns)) → ∃ fs, PySem.W.KatTups h vs fs ∧ fs.length = vs.length ∧ ∀ f ∈ fs, ∃ n t, f = Value.int n t
  | [], _ => ⟨[], .nil, rfl, fun f hf => by cases hf⟩
  | v :: vs, x => by
    obtain ⟨fs, k, hl, hi⟩ := firsts_told vs fun u hu => x u (List.mem_cons_of_mem _ hu)
    obtain ⟨p, ns, a, xs, rfl, ⟨o, ho, hc, n, hdt⟩, i⟩ := x v List.mem_cons_self
    cases e : xs.toList with
    | nil => rw [e] at i; cases i
    | cons y ys =>
      rw [e] at i
      cases i with
      | cons _ t _ =>
        refine ⟨.int p t :: fs, .cons ho hc hdt ?_ k, by rw [List.length_cons, List.length_cons, hl], fun f hf => ?_⟩
        · have z := congrArg (fun l : List Value => l[0]?) e
          simpa using z
        · rcases List.mem_cons.mp hf with rfl | hf
          · exact ⟨p, t, rfl⟩
          · exact hi f hf
theorem kind_told {vs : List Value} (h2 : 2 ≤ vs.length) (x : Told s.heap vs) (r : Value → Int) (hr : ∀ v ∈ vs, r v = headI s.heap v) (Q : SortKind → Shared → Prop) (h : ∀ κ, TS.Cmp prog w A s κ (pairsOf vs) r → Q κ s) :
    wpAny (model prog w) A (keyKind' vs.toArray) Q E s := by
  obtain ⟨fs, k, hl, hi⟩ := firsts_told vs x.one
  refine PySem.W.kat_kind (T := Value.type "int") k (by omega) (fun f hf => ?_) rfl (h _ ?_)
  · obtain ⟨n, t, rfl⟩ := hi f hf
    exact PySem.W.Looks.of_pure rfl
  intro p q hp hq Q' E' hQ
  rw [pairsOf_toList] at hp hq
  have mp := (mem_zip_self hp).2
  have mq := (mem_zip_self hq).2
  obtain ⟨n1, ns, tp⟩ := x.one _ mp
  obtain ⟨n2, ms, tq⟩ := x.one _ mq
  have e1 : r p.1 = n1 := by rw [hr _ mp]; unfold headI; rw [tp.ints]; rfl
  have e2 : r q.1 = n2 := by rw [hr _ mq]; unfold headI; rw [tq.ints]; rfl
  rw [e1, e2] at hQ
  have same : n1 = n2 → ns = ms := fun e => by
    subst e
    exact x.two _ mp _ mq n1 ns ms tp tq
  obtain ⟨a, xs, f1, ⟨o, ho, hc, n, hdt⟩, i⟩ := tp
  obtain ⟨a', ys, f2, ⟨o', ho', hc', n', hdt'⟩, i'⟩ := tq
  rw [f1, f2]
  refine PySem.W.kat_lt ho hdt ho' hdt' (lex_heads 0 i i' same (fun e => ?_) hQ)
  have l1 := i.length
  have l2 := i'.length
  rw [Array.length_toList] at l1 l2
  rw [List.length_cons] at l1 l2
  rw [e] at l1
  exact decide_eq_false (by omega)
theorem Told.of_mem {h : Heap} {vs us : List Value} (x : Told h us) (k : ∀ v ∈ vs, v ∈ us) : Told h vs := ⟨fun v hv => x.one v (k v hv), fun v hv u hu => x.two v (k v hv) u (k u hu)⟩
theorem Told.headI {h h' : Heap} {vs : List Value} (x : Told h vs) (k : ∀ b o, h.get? b = some o → o.cls = .type "tuple" → h'.get? b = some o) {v : Value} (hv : v ∈ vs) : NB.headI h' v = NB.headI h v := by
  obtain ⟨p, ns, t⟩ := x.one v hv
  unfold NB.headI
  rw [t.ints, (t.keeps k).ints]
theorem call_sort_told {a : Addr} {vs : List Value} {n : Nat} {Q : Value → Shared → Prop} (ho : s.heap.get? a = some (seqObj "list" vs.toArray n)) (h64 : vs.length < 64) (x : Told s.heap vs)
    (h : ∀ out : Array Value, out.toList.Perm vs → out.toList.Pairwise (fun u v => NB.headI s.heap u ≤ NB.headI s.heap v) → Q .none { s with heap := sortedHeap s.heap a vs out }) :
    wpAny (model prog w) A (call (.builtin "list.sort") [.ref a]) Q E s := by
  have keep : ∀ b o, s.heap.get? b = some o → o.cls = .type "tuple" → (TS.midHeap s.heap a vs).get? b = some o := fun b o e hc => by
    refine TS.midHeap_old (fun q => ?_) e
    subst q
    rw [ho] at e
    obtain rfl := Option.some.inj e
    exact absurd hc (by intro z; injection z with z; exact absurd z (by decide))
  refine wpAny_call_entry slot_list_sort ⟨_, ho, rfl⟩ entry_list_sort (SK.plain_sort (r := NB.headI s.heap) ho h64 (fun h2 Q' hQ => kind_told (s := { s with heap := TS.midHeap s.heap a vs }) h2 (x.keeps keep) _ (fun v hv => ?_) Q' hQ) fun ps out h1 h2 h3 => ?_) (args_list_sort _)
  · exact (x.headI keep hv).symm
  · obtain ⟨p, o⟩ := TS.out_rank h1 h2 h3
    exact ⟨_, rfl, h out p o⟩
end
def rSortedL (K : PySem.W.Frag) (P : Program) (w : World) : List V → Hp → VK → Prop := fun vs H Q => ∃ (a : Addr) (L : List (Addr × List Int)), vs = [V.ref a] ∧ H a = some (SetTO P w a L) ∧ (∀ p ∈ L, SqT K H p.1 (p.2.map V.int)) ∧ (∀ p ∈ L, p.2 ≠ []) ∧
  (∀ p ∈ L, ∀ q ∈ L, p.2.headD 0 = q.2.headD 0 → p.2 = q.2) ∧
  ∀ (L' : List (Addr × List Int)) (p : Addr), L'.Perm L → (L'.map (·.2)).Nodup → L'.length < 64 → L'.Pairwise (fun q r => q.2.headD 0 ≤ r.2.headD 0) → H p = none → Q (.ref p) (upd H p (.lst (L'.map fun q => V.ref q.1)))
theorem cr_sortedL {X : Cx} (hc : X.calm = true) : CallR X (.builtin "sorted") (rSortedL X.K X.prog X.w) := by
  intro pins s σ H vs us Q I r h
  obtain ⟨a, L, rfl, ha, hk, hne, htw, q⟩ := h
  have R0 : SetT0 X.prog X.w s.heap a L := (I.hok a _ ha).1
  have isT : ∀ p ∈ L, L2.IsT X.prog X.w s.heap p.2 p.1 := fun p hp => I.isT (hk p hp)
  obtain ⟨es, ep, t, R⟩ := R0.full isT
  rw [Vals.ref1 r]
  have hh := I.ok.hd hc
  obtain ⟨o, ho, hex, hd⟩ := R.ob
  have hsz := R.size
  have hfew := R.few
  have ti : ∀ p ∈ L, TS.TupInts s.heap (.ref p.1) p.2 := fun p hp => tupInts_of (P := X.prog) (w := X.w) (isT p hp)
  have told : Told s.heap (L.map fun p => Value.ref p.1) := by
    refine ⟨fun v hv => ?_, fun v hv u hu p ns ms t1 t2 => ?_⟩
    · obtain ⟨p, hp, rfl⟩ := List.mem_map.mp hv
      cases e : p.2 with
      | nil => exact absurd e (hne p hp)
      | cons m ns => exact ⟨m, ns, by rw [← e]; exact ti p hp⟩
    · obtain ⟨x, hx, rfl⟩ := List.mem_map.mp hv
      obtain ⟨y, hy, rfl⟩ := List.mem_map.mp hu
      have e1 : x.2 = p :: ns := (ti x hx).ints.symm.trans t1.ints
      have e2 : y.2 = p :: ms := (ti y hy).ints.symm.trans t2.ints
      have e3 := htw x hx y hy (by rw [e1, e2]; rfl)
      rw [e1, e2] at e3
      exact (List.cons.inj e3).2
  refine Calls.call_function_entry kind_sorted plain_sorted entry_sorted (args_sorted1 _) ?_
  unfold Builtin.«sorted»
  refine wpAny_bind (m := checkCount "sorted" 1 1 _) (wpAny_pure ?_)
  refine wpAny_bind (collect_set (A := X.A.in1) hh ⟨o, ho, hex.1, hd⟩ R.fits (by unfold scanBound; omega) R.tab.ris R.led fun s1 vs k1 hz g1 o1 pm => ?_)
  have hes : es.toList.map (·.2) = L.map fun q => Value.ref q.1 := by
    rw [R.rows]
    unfold rowsOf
    rw [List.map_map] <;> rfl
  rw [hes] at pm
  have hvl : vs.length < 64 := by rw [pm.length_eq, List.length_map]; exact hfew
  refine wpAny_bind (wpAny_newList ?_ (by rw [sizeLine_eq]; omega))
  have hoL : (s1.heap.push (seqObj "list" vs.toArray 0)).get? s1.heap.objs.size = some (seqObj "list" vs.toArray 0) := Heap.get?_push_size _ rfl
  have kp : ∀ b o, s.heap.get? b = some o → (s1.heap.push (seqObj "list" vs.toArray 0)).get? b = some o := fun b o e => Heap.get?_push_of_some _ (k1 b o e)
  have x : Told (s1.heap.push (seqObj "list" vs.toArray 0)) vs := (told.keeps fun b o e _ => kp b o e).of_mem fun v hv => pm.mem_iff.mp hv
  refine wpAny_bind (wpAny_holding (call_sort_told (s := { s1 with heap := s1.heap.push (seqObj "list" vs.toArray 0) }) hoL hvl x fun out a1 a2 => ?_))
  obtain ⟨c, hcc⟩ := sortedHeap_at (vs := vs) (out := out) hoL
  obtain ⟨L', pL, hout⟩ := perm_map_inv (a1.trans pm) L rfl
  have hin : ∀ q ∈ L', q ∈ L := fun q hq => pL.mem_iff.mp hq
  have hd2 : ∀ q ∈ L', NB.headI (s1.heap.push (seqObj "list" vs.toArray 0)) (.ref q.1) = q.2.headD 0 := fun q hq => by
    have q1 := told.headI (h' := s1.heap.push (seqObj "list" vs.toArray 0)) (fun b o e _ => kp b o e) (List.mem_map_of_mem (f := fun p : Addr × List Int => Value.ref p.1) (hin q hq))
    refine q1.trans ?_
    unfold NB.headI
    rw [(ti q (hin q hq)).ints]
  have pw : L'.Pairwise (fun q r => q.2.headD 0 ≤ r.2.headD 0) := by
    rw [hout] at a2
    refine List.Pairwise.imp_of_mem (fun {q r} hq hr hle => ?_) (List.pairwise_map.mp a2)
    rw [← hd2 q hq, ← hd2 r hr]
    exact hle
  have hfew' : L'.length < 64 := by rw [pL.length_eq]; exact hfew
  have hlen : (L'.map fun q => V.ref q.1).length ≤ sizeLine := by rw [List.length_map, sizeLine_eq]; omega
  have hn : H s1.heap.objs.size = none := I.hok.fresh hz
  have hv : Vals (L'.map fun q => V.ref q.1) out.toList := by rw [hout]; exact vals_of_refs L'
  have k2 : ∀ b u, s.heap.get? b = some u → (sortedHeap (s1.heap.push (seqObj "list" vs.toArray 0)) s1.heap.objs.size vs out).get? b = some u := fun b u e => by
    have e1 := k1 b u e
    have hlt := Heap.lt_size e1
    rw [sortedHeap_old (Nat.ne_of_lt hlt) (by rw [size_push']; exact Nat.lt_succ_of_lt hlt)]
    exact Heap.get?_push_of_some _ e1
  have J : Inv X pins σ (upd H s1.heap.objs.size (.lst (L'.map fun q => V.ref q.1))) { s with heap := sortedHeap (s1.heap.push (seqObj "list" vs.toArray 0)) s1.heap.objs.size vs out, gens := s1.gens, drawn := s1.drawn, toks := s1.toks } :=
    I.call (ch := []) (Un.laid k2 hz hn) (I.hok.laid k2 hz ⟨hlen, out.toList, c, hv, hcc⟩) (by rw [g1]; exact I.bare) (fun _ z => nomatch z)
  refine wpAny_pure ⟨_, rfl, .ref s1.heap.objs.size, _, ?_, rfl, q L' s1.heap.objs.size pL ((pL.map (·.2)).nodup_iff.mpr R.nd) hfew' pw hn⟩
  have e : ({ s1 with heap := sortedHeap (s1.heap.push (seqObj "list" vs.toArray 0)) s1.heap.objs.size vs out } : Shared) = { s with heap := sortedHeap (s1.heap.push (seqObj "list" vs.toArray 0)) s1.heap.objs.size vs out, gens := s1.gens, drawn := s1.drawn, toks := s1.toks } := by
    cases s1
    cases s
    cases o1
    rfl
  rw [e]
  exact J
end NB
set_option linter.all false
set_option maxRecDepth 100000
set_option maxHeartbeats 4000000
namespace NB
open PySem PySem.Spec PyProof.Rows L2
/-! ### a table closed, middle by middle -/
/-- a way whose middle houses lie below m -/
inductive Wk (rs : List Rl) (m : Nat) (h : Nat) : Nat → Prop
  | one {o : Nat} : ear rs o (h : Int) = true → Wk rs m h o
  | step {k o : Nat} : Wk rs m h k → k < m → ear rs o (k : Int) = true → Wk rs m h o
theorem Wk.zero {rs : List Rl} {h o : Nat} (w : Wk rs 0 h o) : ear rs o (h : Int) = true := by
  cases w with
  | one e => exact e
  | step _ l _ => omega
theorem Wk.succ {rs : List Rl} {m h o : Nat} (w : Wk rs (m + 1) h o) : Wk rs m h o ∨ (Wk rs m h m ∧ Wk rs m m o) := by
  induction w with
  | one e => exact .inl (.one e)
  | @step k o _ l e ih =>
    by_cases c : k = m
    · subst c
      rcases ih with q | ⟨q, _⟩
      · exact .inr ⟨q, .one e⟩
      · exact .inr ⟨q, .one e⟩
    · rcases ih with q | ⟨q, p⟩
      · exact .inl (.step q (by omega) e)
      · exact .inr ⟨q, .step p (by omega) e⟩
theorem Rch.wk {rs : List Rl} {N h o : Nat} (hN : rs.length ≤ N) (r : Rch rs (h : Int) o) : Wk rs N h o := by
  induction r with
  | one e => exact .one e
  | step r e ih => exact .step ih (Nat.lt_of_lt_of_le r.lt hN) e
structure Cl (rs : List Rl) (N m : Nat) (T : Nat → Nat → Bool) : Prop where
  snd : ∀ h o, h < N → o < N → T h o = true → Rch rs (h : Int) o
  cpl : ∀ h o, h < N → o < N → Wk rs m h o → T h o = true
structure ClI (rs : List Rl) (N m h o : Nat) (T : Nat → Nat → Bool) : Prop where
  cl : Cl rs N m T
  dn : ∀ h' o', h' < N → o' < N → (h' < h ∨ (h' = h ∧ o' < o)) → Wk rs m h' m → Wk rs m m o' → T h' o' = true
def setT (T : Nat → Nat → Bool) (h o : Nat) (b : Bool) : Nat → Nat → Bool := fun h' o' => if h' = h ∧ o' = o then b else T h' o'
theorem Cl.start (rs : List Rl) : Cl rs rs.length 0 (fun h o => ear rs o (h : Nat)) := ⟨fun _ _ _ _ e => .one e, fun _ _ _ _ w => w.zero⟩
theorem Cl.begin {rs : List Rl} {N m : Nat} {T : Nat → Nat → Bool} (c : Cl rs N m T) : ClI rs N m 0 0 T := ⟨c, fun _ _ _ _ z _ _ => by omega⟩
theorem ClI.line {rs : List Rl} {N m h : Nat} {T : Nat → Nat → Bool} (c : ClI rs N m h N T) : ClI rs N m (h + 1) 0 T :=
  ⟨c.cl, fun h' o' a b z w1 w2 => c.dn h' o' a b (by omega) w1 w2⟩
theorem ClI.next {rs : List Rl} {N m : Nat} {T : Nat → Nat → Bool} (hm : m < N) (c : ClI rs N m N 0 T) : Cl rs N (m + 1) T :=
  ⟨c.cl.snd, fun h o a b w => by
    rcases w.succ with q | ⟨q, p⟩
    · exact c.cl.cpl h o a b q
    · exact c.dn h o a b (.inl a) q p⟩
theorem ClI.set {rs : List Rl} {N m h o : Nat} {T : Nat → Nat → Bool} (hm : m < N) (hh : h < N) (ho : o < N) (c : ClI rs N m h o T) : ClI rs N m h (o + 1) (setT T h o (T h o || (T h m && T m o))) := by
  have up : ∀ h' o', T h' o' = true → setT T h o (T h o || (T h m && T m o)) h' o' = true := fun h' o' e => by
    unfold setT
    split
    · rename_i z
      rw [z.1, z.2] at e
      rw [e]; rfl
    · exact e
  refine ⟨⟨fun h' o' a b e => ?_, fun h' o' a b w => up h' o' (c.cl.cpl h' o' a b w)⟩, fun h' o' a b z w1 w2 => ?_⟩
  · unfold setT at e
    split at e
    · rename_i z
      rw [z.1, z.2]
      rw [Bool.or_eq_true, Bool.and_eq_true] at e
      rcases e with e | ⟨e1, e2⟩
      · exact c.cl.snd h o hh ho e
      · exact (c.cl.snd h m hh hm e1).trans (c.cl.snd m o hm ho e2)
    · exact c.cl.snd h' o' a b e
  · by_cases y : h' = h ∧ o' = o
    · obtain ⟨rfl, rfl⟩ := y
      unfold setT
      rw [if_pos ⟨rfl, rfl⟩, c.cl.cpl h' m hh hm w1, c.cl.cpl m o' hm ho w2]
      simp
    · exact up h' o' (c.dn h' o' a b (by omega) w1 w2)
/-- lists in one order by a number of each -/
theorem keys_ext {α : Type} {f : α → Nat} : ∀ {xs ys : List α}, (xs.map f).Pairwise (· < ·) → (ys.map f).Pairwise (· < ·) → (∀ o, o ∈ xs ↔ o ∈ ys) → xs = ys
  | [], [], _, _, _ => rfl
  | [], y :: ys, _, _, h => by have := (h y).mpr List.mem_cons_self; cases this
  | x :: xs, [], _, _, h => by have := (h x).mp List.mem_cons_self; cases this
  | x :: xs, y :: ys, hx, hy, h => by
    rw [List.map_cons] at hx hy
    obtain ⟨x1, x2⟩ := List.pairwise_cons.mp hx
    obtain ⟨y1, y2⟩ := List.pairwise_cons.mp hy
    have x3 : ∀ z ∈ xs, f x < f z := fun z hz => x1 _ (List.mem_map_of_mem hz)
    have y3 : ∀ z ∈ ys, f y < f z := fun z hz => y1 _ (List.mem_map_of_mem hz)
    have e : x = y := by
      rcases List.mem_cons.mp ((h x).mp List.mem_cons_self) with q | q
      · exact q
      · rcases List.mem_cons.mp ((h y).mpr List.mem_cons_self) with z | z
        · exact z.symm
        · have := y3 x q; have := x3 y z; omega
    subst e
    rw [keys_ext x2 y2 fun o => ?_]
    constructor
    · intro q
      rcases List.mem_cons.mp ((h o).mp (List.mem_cons_of_mem _ q)) with z | z
      · subst z; have := x3 o q; omega
      · exact z
    · intro q
      rcases List.mem_cons.mp ((h o).mpr (List.mem_cons_of_mem _ q)) with z | z
      · subst z; have := y3 o q; omega
      · exact z
end NB
set_option linter.all false
set_option maxRecDepth 100000
set_option maxHeartbeats 4000000
namespace K04
open PySem PySem.Spec PyProof.Rows L2 NB
local macro_rules | `(tactic| walk_at "rd") => `(tactic| simp only [cxK, rIn, rSlT, rCatA, Bool.false_eq_true, tCallK0, gLst, iRng1, tIf, tChain, tAug, ipI, rSlS, tThru, iRng1, iRng2, iEnumS, iStr, tPar, tPar3, gTup, gNil, gCons, tRetN, tCall, tLc, iList, iTup, tRevL, tSl, tNoPart, tPart, rSlL, tYes, L2.start, List.map_cons, List.map_nil, List.length_cons, List.length_nil, List.replicate_succ, List.replicate_zero, Nat.reduceAdd, Nat.reduceSub, List.cons_append, List.nil_append, wipe, List.foldl_cons, List.foldl_nil, tAnd, tOr, tNot, tTest, tB, tOp, tUn, tVar, tC, tCB, tCons, tNil, tLst, tTup, tSeq, tNext, tAsg, tIfS, tRet, tDrop, gName, gSub, tBM0, tBM, rI, rI0, rU, rIxL, rIxT, rIxS, ↓reduceIte, rNeD, rEqD, rEq, rNe, rPop, rAppend, rSetL,
  List.getElem?_cons_zero, List.getElem?_cons_succ, List.set_cons_zero, List.set_cons_succ, Option.some.injEq, V.ref.injEq, V.int.injEq, V.bl.injEq, V.str.injEq, List.cons.injEq, exists_eq_left, exists_eq_left', exists_and_left, reduceCtorEq, false_and, and_false, exists_false, or_false, false_or, and_true, true_and])
def topS (i : Nat) : Stmt := PySem.Challenge.pw_newsbehind_k04_who_hears_whom.main.body.getD i (.Pass ⟨0, 0, 0, 0⟩)
abbrev sAny : Stmt := topS 12
section
variable {P : Program} {w : World} {K : PySem.W.Frag} {mg : Str → Option Value} {base : Heap}
theorem scAny : FnScope ["deal", "bound", "rest"] ["deal", "bound"] (defScope sAny) := ⟨rfl, rfl, rfl, by decide +kernel, rfl, by decide +kernel, by decide +kernel⟩
theorem ok_any {f : Addr} {fd : FuncData} (F : Fun K "_law_any" "_law_any" sAny f fd) (mI : mg "int" = none) : FnOk P w K mg base CX0 1 f fd ["deal", "bound"] spAny := by
  refine F.ok scAny (fun vs H Q E h => ?_) (fun cdv A outer s H vs Q E hr h => ?_)
  · obtain ⟨a, l, m, rfl, _⟩ := h
    rfl
  obtain ⟨a, l, m, rfl, D, m1, m2, k⟩ := h
  have hu := Room.units hr
  obtain ⟨ns0, b0, D0⟩ := D
  refine ⟨_, Evl.pss_cut (ps_while PassesOwn.never (PW.pt (pw_and (pt_cmpR (op_neD hu) (pe_ix ix_list (pv 0) pe_int (fun _ _ => rfl)) (pe_lst pa_nil) (nomark _))
        (pw_and1 (pt_cmpR op_eq (pe_ix ix_list (pe_ix ix_list (pv 0) pe_int (fun _ _ => rfl)) (pe_un un_neg pe_int) (fun _ _ => rfl)) pe_int (nomark _)))))
      (pss_one (ps_expr (pe_bm0 PySem.F.plainAttrs_list PySem.F.slot_list_pop PySem.F.type_list_pop mt_pop (pe_ix ix_list (pv 0) pe_int (fun _ _ => rfl))))))
    (pss_cons (ps_if (pt_cmpR (op_neD hu) (pe_ix ix_list (pv 0) pe_int (fun _ _ => rfl)) (pe_lst pa_nil) (nomark _))
      (pss_cons (ps_set (i := 2) scAny.nd rfl (Or.inl rfl) (pe_callTy call_intI (by rfl) mI boot_int (pa_cons (pe_bm0 PySem.F.plainAttrs_list PySem.F.slot_list_pop PySem.F.type_list_pop mt_pop (pe_ix ix_list (pv 0) pe_int (fun _ _ => rfl))) pa_nil)))
      (pss_cons (ps_expr (pe_bm PySem.F.plainAttrs_list PySem.F.slot_list_append PySem.F.type_list_append mt_append (pe_ix ix_list (pv 0) pe_int (fun _ _ => rfl)) (pa_cons (pe_op op_fdiv (pv 2) (pv 1)) pa_nil)))
      (pss_one (ps_ret (pe_op op_mod (pv 2) (pv 1)))))) pss_nil)
    (pss_cons (ps_asg (pe_op op_mod (pe_callTy call_intI (by rfl) mI boot_int (pa_cons (pe_op op_add (pe_op op_mul (pe_ix ix_list (pv 0) pe_int (fun _ _ => rfl)) pe_int) pe_int) pa_nil)) pe_int) (pg_sub (pv 0) pe_int set_list))
    (pss_one (ps_ret (pe_op op_mod (pe_callTy call_intI (by rfl) mI boot_int (pa_cons (pe_op op_fdiv (pe_ix ix_list (pv 0) pe_int (fun _ _ => rfl)) pe_int) pa_nil)) (pv 1)))))), ?_⟩
  refine ⟨fun σ H' => ∃ ns, σ = [some (.ref a), some (.int m), none] ∧ DealAt H' a l ns b0 ∧ Kp a l H H', ?_, ?_⟩
  · refine ⟨fun n σ H' => ∃ ns, n = ns.length ∧ σ = [some (.ref a), some (.int m), none] ∧ DealAt H' a l ns b0 ∧ Kp a l H H', ⟨_, ns0, rfl, rfl, D0, Kp.refl _ _ _⟩, ?_⟩
    rintro _ σ H1 ⟨ns, rfl, rfl, D1, K1⟩
    walk_at "rd"
    refine ⟨_, SqL.of D1.ob, _, rfl, Nat.zero_le _, fun p hp => ?_⟩
    have D2 := D1.new (o := .lst []) hp
    have K2 := K1.new1 (o := .lst []) hp
    refine ⟨.list (ns.map PyData.int), .lst (SqL.of D2.li) (dpInts ns), .list [], .lst (SqL.of upd_same) .nil, shapedInts ns, shapedInts [], ?_⟩
    rw [eqvNil]
    cases ns with
    | nil =>
      refine iteF ?_
      exact ⟨[], D2, K2⟩
    | cons n r =>
      obtain ⟨z, e1, e2, e3, e4⟩ := last_int (ns := n :: r) (by simp)
      refine iteT ⟨_, SqL.of D2.ob, _, rfl, l, rfl, _, SqL.of D2.li, _, e2, rfl, ?_⟩
      refine ite2 (fun _ => ?_) (fun _ => ?_)
      · refine ⟨fun σ' H' => ∃ ms : List Int, ms.length < (n :: r).length ∧ σ' = [some (.ref a), some (.int m), none] ∧ DealAt H' a l ms b0 ∧ Kp a l H H', fun σ' H' ⟨ms, h1, h2⟩ => ⟨_, h1, ms, rfl, h2⟩, _, SqL.of D2.ob, _, rfl, .inl ⟨rfl, _, SqL.of D2.li⟩, l, rfl, _, D2.li, _, e3, (n :: r).dropLast, by simp, rfl, ?_, K2.putL⟩
        rw [e4]
        exact D2.put (fun x hx => D2.nn x (List.dropLast_subset _ hx)) (by have := D2.ln; rw [List.length_dropLast]; omega)
      · exact ⟨_, D2, K2⟩
  · rintro σ H1 ⟨ns, rfl, D1, K1⟩
    walk_at "rd"
    refine ⟨_, SqL.of D1.ob, _, rfl, Nat.zero_le _, fun p hp => ?_⟩
    have D2 := D1.new (o := .lst []) hp
    have K2 := K1.new1 (o := .lst []) hp
    refine ⟨.list (ns.map PyData.int), .lst (SqL.of D2.li) (dpInts ns), .list [], .lst (SqL.of upd_same) .nil, shapedInts ns, shapedInts [], ?_⟩
    rw [eqvNil]
    have mod : ∀ x : Int, 0 ≤ x % m ∧ x % m < m := fun x => ⟨Int.emod_nonneg _ (by omega), Int.emod_lt_of_pos _ (by omega)⟩
    cases ns with
    | nil =>
      refine iteF ⟨_, SqL.of D2.ob, _, rfl, b0, rfl, ?_⟩
      refine ⟨.inl ⟨by have := D2.b0; omega, by have := D2.b1; omega⟩, by decide, _, D2.ob, 1, rfl, ?_⟩
      have t0 : 0 ≤ (b0 * 40693 + 71) % 2147483647 := Int.emod_nonneg _ (by decide)
      have t1 : (b0 * 40693 + 71) % 2147483647 < 2147483647 := Int.emod_lt_of_pos _ (by decide)
      have D3 := D2.turn t0 t1
      refine ⟨_, SqL.of D3.ob, _, rfl, _, rfl, ⟨by decide, by decide⟩, by omega, ?_⟩
      exact k _ _ (mod _).1 (mod _).2 ⟨_, _, D3⟩ K2.putA
    | cons n r =>
      obtain ⟨z, e1, e2, e3, e4⟩ := last_int (ns := n :: r) (by simp)
      have z0 : 0 ≤ z := D2.nn z (by rw [e1]; simp)
      have D3 : DealAt _ a l (n :: r).dropLast b0 := D2.put (fun x hx => D2.nn x (List.dropLast_subset _ hx)) (by have := D2.ln; rw [List.length_dropLast]; omega)
      rw [← e4] at D3
      refine iteT ⟨_, SqL.of D2.ob, _, rfl, .inl ⟨rfl, _, SqL.of D2.li⟩, l, rfl, _, D2.li, _, e3, z, rfl, _, SqL.of D3.ob, _, rfl, .inl ⟨rfl, _, SqL.of upd_same⟩, ?_⟩
      refine ⟨⟨by omega, by omega⟩, l, rfl, _, upd_same, ?_, by omega, ?_⟩
      · have := D2.ln
        rw [List.length_dropLast, List.length_map]
        exact small1000 (by omega)
      · refine k _ _ (mod _).1 (mod _).2 ⟨(n :: r).dropLast ++ [z / m], b0, ?_⟩ K2.putL.putL
        have e : (List.map V.int (n :: r)).dropLast ++ [V.int (z / m)] = ((n :: r).dropLast ++ [z / m]).map V.int := by rw [e4, List.map_append]; rfl
        rw [e]
        refine D3.put (fun x hx => ?_) ?_
        · rcases List.mem_append.mp hx with q | q
          · exact D2.nn x (List.dropLast_subset _ q)
          · rw [List.mem_singleton.mp q]
            exact Int.ediv_nonneg z0 (by omega)
        · have := D2.ln
          have h1 : (n :: r).length = (n :: r).dropLast.length + 1 := by rw [List.length_dropLast]; simp
          rw [List.length_append, List.length_singleton]
          omega

abbrev s_law_of : Stmt := topS 13
theorem sc_law_of : FnScope ["deal", "some"] ["deal", "some"] (defScope s_law_of) := ⟨rfl, rfl, rfl, by decide +kernel, rfl, by decide +kernel, by decide +kernel⟩
theorem ok_of {f fA : Addr} {fd fdA : FuncData} (F : Fun K "_law_of" "_law_of" s_law_of f fd) (FA : FnOk P w K mg base CX0 1 fA fdA ["deal", "bound"] spAny) (gA : mg "_law_any" = some (.ref fA)) (kA : PySem.W.keepIn K (.ref fA) = true)
    (bA : Binds K fdA ["deal", "bound"] []) (mL : mg "len" = none) : FnOk P w K mg base CX0 2 f fd ["deal", "some"] (spOf K) := by
  refine F.ok sc_law_of (fun vs H Q E h => ?_) (fun cdv A outer s H vs Q E hr h => ?_)
  · obtain ⟨a, l, p, xs, rfl, _⟩ := h
    rfl
  obtain ⟨a, l, p, xs, rfl, D, hp, na, nl, ne, hz, k⟩ := h
  refine ⟨_, pss_one (ps_ret (pe_ix (IxR.or ix_list ix_tup) (pv 1) (pe_call FA hr rfl gA kA bA .nil pass0 (pa_cons (pv 0) (pa_cons (pe_callB call_len_seq (by rfl) mL PySem.boot_len (pa_cons (pv 1) pa_nil)) pa_nil))) (fun _ _ => rfl))), ?_⟩
  walk_at "rd"
  have hl : 0 < xs.length := List.length_pos_iff.mpr ne
  refine ⟨xs, ?_, a, l, _, rfl, D, by omega, by omega, fun r H' r0 r1 D' K' => ?_⟩
  · rcases hp with h | h
    · exact .inl (SqL.of h)
    · exact .inr (SqT.of h)
  have hi : r.toNat < xs.length := by omega
  have er : r = (r.toNat : Int) := by omega
  have at_ : atI xs r = some xs[r.toNat] := by
    have q := atI_nat (List.getElem?_eq_getElem hi)
    rw [← er] at q
    exact q
  have q := k r.toNat _ H' (List.getElem?_eq_getElem hi) D' K'
  rcases hp with h | h
  · exact .inl ⟨xs, r, rfl, SqL.of (K' _ _ h na nl), _, at_, q⟩
  · exact .inr ⟨xs, r, rfl, SqT.of (K' _ _ h na nl), _, at_, q⟩

abbrev s_law_draw : Stmt := topS 11
theorem sc_law_draw : FnScope ["script", "salt", "cell", "cells", "blend"] ["script", "salt"] (defScope s_law_draw) := ⟨rfl, rfl, rfl, by decide +kernel, rfl, by decide +kernel, by decide +kernel⟩
theorem ok_draw {f : Addr} {fd : FuncData} (F : Fun K "_law_draw" "_law_draw" s_law_draw f fd) (mI : mg "int" = none) (mA : mg "abs" = none) : FnOk P w K mg base CX0 1 f fd ["script", "salt"] (spDraw K) := by
  refine F.ok sc_law_draw (fun vs H Q E h => ?_) (fun cdv A outer s H vs Q E hr h => ?_)
  · obtain ⟨a, ns, z, rfl, _⟩ := h
    rfl
  obtain ⟨a, ns, z, rfl, hS, z0, z1, k⟩ := h
  refine ⟨_, (pss_cons (ps_setLc (i := 3) (own := [("cell", 2)]) (g := gName 2) rfl sc_law_draw.nd rfl rfl (sw_true rfl rfl rfl (by decide +kernel)) (pi_list (pe_slice sl_list (pv 0) po_none (po_some pe_int))) (blkOk_by (N := ["script", "salt", "cell", "cells", "blend"]) (sc := defScope s_law_draw) (by decide +kernel)) (fun _ _ _ _ _ => pg_name (i := 2) sc_law_draw.nd rfl (Or.inl rfl)) (fun _ _ _ _ _ => pts_nil) (fun _ _ _ _ _ => (pe_callB call_abs (by rfl) mA boot_abs (pa_cons (pe_callTy call_intI (by rfl) mI boot_int (pa_cons (pv 2) pa_nil)) pa_nil))))
  (pss_cons (ps_set (i := 4) sc_law_draw.nd rfl (by first | exact Or.inl rfl | exact Or.inr rfl) (pe_op op_add pe_int (pe_op op_mul pe_int (pv 1))))
  (pss_cons (ps_for PassesOwn.never rfl (pi_list (pv 3)) (pg_name (i := 2) sc_law_draw.nd rfl (by first | exact Or.inl rfl | exact Or.inr rfl))
    (pss_one (ps_set (i := 4) sc_law_draw.nd rfl (by first | exact Or.inl rfl | exact Or.inr rfl) (pe_op op_mod (pe_callTy call_intI (by rfl) mI boot_int (pa_cons (pe_op op_add (pe_op op_add (pe_op op_mul (pv 4) pe_int) (pe_op op_mod (pv 2) pe_int)) pe_int) pa_nil)) pe_int))))
  (pss_one (ps_ret (pe_lst (pa_cons (pe_revL (pe_lc (own := [("cell", 2)]) (g := gName 2) (tt := tTest (tOp (rI0 fun i j => .bl (decide (j ≤ i))) (tVar 2) (tOp (rI CPow fun i j => .int (i ^ j.toNat)) (tC (.int 10)) (tC (.int 18))))) rfl sc_law_draw.nd (pi_list (pv 3)) (blkOk_by (N := ["script", "salt", "cell", "cells", "blend"]) (sc := defScope s_law_draw) (by decide +kernel)) (fun _ _ _ _ _ => pg_name (i := 2) sc_law_draw.nd rfl (Or.inl rfl)) (fun _ _ _ _ _ => (pts_one (pt_cmpR op_ge (pv 2) (pe_op op_pow pe_int pe_int) (nomark _)))) (fun _ _ _ _ _ => (pv 2)))) (pa_cons (pv 4) pa_nil)))))))), ?_⟩
  walk_at "rd"
  refine ⟨_, hS, fun p hp => ⟨⟨_, SqL.of upd_same⟩, fun D hD => ?_⟩⟩
  have cut : cutV (ns.map V.int) none (some 48) = (ns.take 48).map V.int := by
    rw [List.map_take]
    unfold cutV
    rw [HT.sIx_none, show (some (48 : Int)) = some ((48 : Nat) : Int) from rfl, HT.sIx_nat, List.drop_zero, Nat.sub_zero, List.take_eq_take_iff]
    omega
  rw [cut]
  rw [cut] at hD
  have nD : D ≠ p := fun e => by rw [e, upd_same] at hD; cases hD
  have dH : H D = none := by rw [upd_ne nD] at hD; exact hD
  have hlen : (ns.take 48).length ≤ 48 := by rw [List.length_take]; omega
  refine lcL (xs := (ns.take 48).map V.int) (fun i H' => ∃ acc : List Int, acc.length = i ∧ (∀ n ∈ acc, 0 ≤ n) ∧ H' D = some (.lst (acc.map V.int)) ∧ H' p = some (.lst ((ns.take 48).map V.int)) ∧ Same H H') ?_ ?_ ?_ ?_
  · refine ⟨[], rfl, by simp, upd_same, by rw [upd_ne nD.symm, upd_same], fun c o e => ?_⟩
    rw [upd_ne (ne_of_none e dH), upd_ne (ne_of_none e hp)]
    exact e
  · rintro i H' _ ⟨acc, _, _, _, h, _⟩
    exact SqL.of h
  · rintro i x H' hx ⟨acc, h1, h2, h3, h4, h5⟩
    rw [List.getElem?_map] at hx
    obtain ⟨n, hn, rfl⟩ := Option.map_eq_some_iff.mp hx
    have hi := (List.getElem?_eq_some_iff.mp hn).1
    refine ⟨n, rfl, _, h3, by rw [List.length_map]; exact small1000 (by omega), acc ++ [if n < 0 then -n else n], by simp [h1], ?_, by rw [upd_same, List.map_append]; rfl, by rw [upd_ne nD.symm]; exact h4, fun c o e => by rw [upd_ne (ne_of_none e dH)]; exact h5 c o e⟩
    intro m hm
    rcases List.mem_append.mp hm with q | q
    · exact h2 m q
    · rw [List.mem_singleton.mp q]
      split <;> omega
  · rintro H1 ⟨acc, h1, h2, h3, h4, h5⟩
    rw [List.length_map] at h1
    refine ⟨.inl (by decide), ?_⟩
    refine ⟨_, rfl, D, rfl, ⟨_, SqL.of h3⟩, for_list (K := K) (a := D) (xs := acc.map V.int) (fun i σ H2 => ∃ v b, σ = [some (.ref a), some (.int z), v, some (.ref D), some (.int b)] ∧ 0 ≤ b ∧ b < 2147483647 ∧ H2 = H1) ⟨none, _, rfl, by omega, by omega, rfl⟩ (fun i σ H2 _ ⟨_, _, _, _, _, e⟩ => by rw [e]; exact SqL.of h3) ?_ ?_⟩
    · rintro i x σ H2 hx ⟨v, b, rfl, b0, b1, rfl⟩
      rw [List.getElem?_map] at hx
      obtain ⟨n, hn, rfl⟩ := Option.map_eq_some_iff.mp hx
      walk_at "rd"
      refine ⟨.inr (by decide), by decide, by decide, _, _, ⟨rfl, rfl⟩, Int.emod_nonneg _ (by decide), Int.emod_lt_of_pos _ (by decide)⟩
    · rintro σ H2 ⟨v, b, rfl, b0, b1, rfl⟩
      walk_at "rd"
      refine ⟨⟨_, SqL.of h3⟩, fun B hB => ?_⟩
      have nB : B ≠ D := fun e => by rw [e, h3] at hB; cases hB
      refine lcL (xs := acc.map V.int) (fun i H' => ∃ out : List Int, out.length ≤ i ∧ (∀ n ∈ out, 0 ≤ n) ∧ H' B = some (.lst (out.map V.int)) ∧ H' D = some (.lst (acc.map V.int)) ∧ Same H H') ?_ ?_ ?_ ?_
      · exact ⟨[], Nat.zero_le _, by simp, upd_same, by rw [upd_ne nB.symm]; exact h3, fun c o e => by rw [upd_ne (ne_of_none (h5 c o e) hB)]; exact h5 c o e⟩
      · rintro i H' _ ⟨_, _, _, _, h, _⟩
        exact SqL.of h
      · rintro i x H' hx ⟨out, o1, o2, o3, o4, o5⟩
        rw [List.getElem?_map] at hx
        obtain ⟨n, hn, rfl⟩ := Option.map_eq_some_iff.mp hx
        have hi := (List.getElem?_eq_some_iff.mp hn).1
        refine ⟨⟨by decide, by decide, by decide⟩, n, rfl, ?_⟩
        refine ite2 (fun _ => ?_) (fun _ => ⟨out, Nat.le_succ_of_le o1, o2, o3, o4, o5⟩)
        refine ⟨_, o3, by rw [List.length_map]; exact small1000 (by omega), out ++ [n], by rw [List.length_append]; exact Nat.add_le_add_right o1 1, ?_, by rw [upd_same, List.map_append]; rfl, by rw [upd_ne nB.symm]; exact o4, fun c o e => ?_⟩
        · intro m hm
          rcases List.mem_append.mp hm with q | q
          · exact o2 m q
          · rw [List.mem_singleton.mp q]
            exact h2 n (List.mem_of_getElem? hn)
        · rw [upd_ne (ne_of_none (h5 c o e) hB)]
          exact o5 c o e
      · rintro H3 ⟨out, o1, o2, o3, o4, o5⟩
        rw [List.length_map] at o1
        refine ⟨_, SqL.of o3, fun l hl => ⟨by decide, fun d hd => ?_⟩⟩
        have nd : l ≠ d := fun e => by rw [← e, upd_same] at hd; cases hd
        have hd3 : H3 d = none := by rw [upd_ne nd.symm] at hd; exact hd
        refine k d l _ ⟨out.reverse, b, upd_same, by rw [upd_ne nd, upd_same, List.map_reverse], fun n hn => o2 n (List.mem_reverse.mp hn), by rw [List.length_reverse]; omega, b0, b1⟩ (Same.free o5 hd3) (Same.free o5 hl) fun c o e => ?_
        rw [upd_ne (ne_of_none (o5 c o e) hd3), upd_ne (ne_of_none (o5 c o e) hl)]
        exact o5 c o e
end
end K04
set_option linter.all false
set_option maxRecDepth 100000
set_option maxHeartbeats 4000000
namespace K04
open PySem PySem.Spec PyProof.Rows L2 NB
local macro_rules | `(tactic| walk_at "rd") => `(tactic| simp only [cxK, rIn, rSlT, rCatA, Bool.false_eq_true, tCallK0, gLst, iRng1, tIf, tChain, tAug, ipI, rSlS, tThru, iRng1, iRng2, iEnumS, iStr, tPar, tPar3, gTup, gNil, gCons, tRetN, tCall, tLc, iList, iTup, tRevL, tSl, tNoPart, tPart, rSlL, tYes, L2.start, List.map_cons, List.map_nil, List.length_cons, List.length_nil, List.replicate_succ, List.replicate_zero, Nat.reduceAdd, Nat.reduceSub, List.cons_append, List.nil_append, wipe, List.foldl_cons, List.foldl_nil, tAnd, tOr, tNot, tTest, tB, tOp, tUn, tVar, tC, tCB, tCons, tNil, tLst, tTup, tSeq, tNext, tAsg, tIfS, tRet, tDrop, gName, gSub, tBM0, tBM, rI, rI0, rU, rIxL, rIxT, rIxS, ↓reduceIte, rNeD, rEqD, rEq, rNe, rPop, rAppend, rSetL,
  List.getElem?_cons_zero, List.getElem?_cons_succ, List.set_cons_zero, List.set_cons_succ, Option.some.injEq, V.ref.injEq, V.int.injEq, V.bl.injEq, V.str.injEq, List.cons.injEq, exists_eq_left, exists_eq_left', exists_and_left, reduceCtorEq, false_and, and_false, exists_false, or_false, false_or, and_true, true_and])
/-! ### inner_rules, branches -/
theorem cut1 {v : V} {vs : List V} : cutV (v :: vs) (some 1) none = vs := by
  unfold cutV
  rw [HT.sIx_none, show (some (1 : Int)) = some ((1 : Nat) : Int) from rfl, HT.sIx_nat]
  simp only [List.length_cons]
  rw [Nat.min_eq_left (by omega)]
  simp
theorem cutLast {vs : List V} {v : V} : cutV (vs ++ [v]) (some (-1)) none = [v] := by
  unfold cutV
  rw [HT.sIx_none]
  have e : HT.sIx (vs ++ [v]).length 0 (some (-1)) = vs.length := by
    show (if (-1 : Int) < 0 then ((-1 : Int) + (((vs ++ [v]).length : Nat) : Int)).toNat else min (-1 : Int).toNat (vs ++ [v]).length) = _
    rw [if_pos (by decide), List.length_append, List.length_singleton]
    omega
  rw [e]
  simp
section
variable {P : Program} {w : World} {K : PySem.W.Frag} {mg : Str → Option Value} {base : Heap}
/-- the tables of words -/
structure Wds (K : PySem.W.Frag) (mg : Str → Option Value) (aE aL : Addr) : Prop where
  gE : mg "LEAF_WORDS" = some (.ref aE)
  gL : mg "LIST_WORDS" = some (.ref aL)
  tE : ∃ (o : Obj) (its : Array Value) (n : Nat), K.lookup aE = some o ∧ o.cls = .type "tuple" ∧ o.data = .seq its n ∧ its.size ≤ sizeLine ∧ Vals [.str "is", .str "hear"] its.toList
  tL : ∃ (o : Obj) (its : Array Value) (n : Nat), K.lookup aL = some o ∧ o.cls = .type "tuple" ∧ o.data = .seq its n ∧ its.size ≤ sizeLine ∧ Vals [.str "least", .str "most", .str "add"] its.toList
theorem Wds.sE {aE aL : Addr} (T : Wds K mg aE aL) (H : Hp) : SqT K H aE [.str "is", .str "hear"] := .inr T.tE
theorem Wds.sL {aE aL : Addr} (T : Wds K mg aE aL) (H : Hp) : SqT K H aL [.str "least", .str "most", .str "add"] := .inr T.tL
abbrev s_inner_rules : Stmt := topS 3
theorem sc_inner_rules : FnScope ["rule", "word"] ["rule"] (defScope s_inner_rules) := ⟨rfl, rfl, rfl, by decide +kernel, rfl, by decide +kernel, by decide +kernel⟩
theorem ok_inner_rules {f aE aL : Addr} {fd : FuncData} (F : Fun K "inner_rules" "inner_rules" s_inner_rules f fd) (T : Wds K mg aE aL) : FnOk P w K mg base CX0 1 f fd ["rule"] spIn := by
  refine F.ok sc_inner_rules (fun vs H Q E h => ?_) (fun cdv A outer s H vs Q E hr h => ?_)
  · obtain ⟨v, r, rfl, _⟩ := h
    rfl
  obtain ⟨v, r, rfl, hv, q⟩ := h
  have hu := Room.units hr
  refine ⟨_, (pss_cons (ps_set (i := 1) sc_inner_rules.nd rfl (by first | exact Or.inl rfl | exact Or.inr rfl) (pe_ix ix_tup (pv 0) pe_int (fun _ _ => rfl)))
  (pss_cons (ps_if (pt_cmpR op_in_seq (pv 1) (pe_glob (v := .ref aE) rfl T.gE rfl) (by rfl)) (pss_one (ps_ret (pe_tup pa_nil)))
    pss_nil)
  (pss_cons (ps_if (pt_cmpR op_in_seq (pv 1) (pe_glob (v := .ref aL) rfl T.gL rfl) (by rfl)) (pss_one (ps_ret (pe_ix ix_tup (pv 0) pe_int (fun _ _ => rfl))))
    pss_nil)
  (pss_cons (ps_if (pt_cmpR op_eq (pv 1) pe_str (nomark _)) (pss_one (ps_ret (pe_slice sl_tup (pv 0) (po_some pe_int) po_none)))
    pss_nil)
  (pss_one (ps_ret (pe_slice sl_tup (pv 0) (po_some (pe_un un_neg pe_int)) po_none))))))), ?_⟩
  obtain ⟨a, vs, rfl, ha, _⟩ := rule_tup hv
  walk_at "rd"
  refine ⟨_, SqT.of ha, _, atI0, _, .inr (T.sE H), rfl, by decide, ?_⟩
  rw [w_leaf]
  have sc : scal (V.str r.word) (V.str (Str.ofString "middle")) = true := rfl
  obtain ⟨ds, eD⟩ := r.toD_word
  cases r with
  | is z => exact iteT ⟨Nat.zero_le _, fun p hp => q p [] _ (Same.new hp) upd_same .nil⟩
  | hear z => exact iteT ⟨Nat.zero_le _, fun p hp => q p [] _ (Same.new hp) upd_same .nil⟩
  | lst k ps =>
    refine iteF ⟨_, .inr (T.sL H), rfl, by decide, ?_⟩
    rw [w_list]
    simp only [Rl.toD] at hv
    obtain ⟨_, _, e, h1, h2⟩ := hv.inv
    cases e
    obtain ⟨v1, r1, rfl, h3, h4⟩ := h2.cons_inv
    obtain ⟨v2, r2, rfl, h5, h6⟩ := h4.cons_inv
    obtain ⟨b, xs, rfl, h7, h8⟩ := h5.inv
    exact iteT ⟨_, SqT.of h1, _, atI1, q b xs H (Same.refl H) h7 h8⟩
  | mid x y z =>
    refine iteF ⟨_, .inr (T.sL H), rfl, by decide, ?_⟩
    rw [w_list]
    refine iteF ⟨sc, ?_⟩
    rw [w_mid]
    simp only [Rl.toD] at hv
    obtain ⟨_, _, e, h1, h2⟩ := hv.inv
    cases e
    obtain ⟨v1, r1, rfl, h3, h4⟩ := h2.cons_inv
    have hl := h4.len
    refine iteT ⟨_, SqT.of h1, fun e => ?_, fun p hp => ?_⟩
    · have e1 := e.1
      rw [show (some (1 : Int)) = some ((1 : Nat) : Int) from rfl, HT.sIx_nat, List.length_cons] at e1
      omega
    · rw [cut1]
      exact q p r1 _ (Same.new hp) upd_same (h4.m (TK.new hp))
  | un u x =>
    refine iteF ⟨_, .inr (T.sL H), rfl, by decide, ?_⟩
    rw [w_list]
    refine iteF ⟨sc, ?_⟩
    rw [w_mid]
    simp only [Rl.toD] at hv
    obtain ⟨_, ws, e, h1, h2⟩ := hv.inv
    cases e
    rw [← List.cons_append] at h2
    obtain ⟨pre, v, rfl, h3⟩ := h2.snoc_inv
    have hl := h2.len
    simp only [List.length_append, List.length_cons, List.length_nil] at hl
    refine iteF ⟨_, SqT.of h1, fun e => ?_, fun p hp => ?_⟩
    · have e1 : (if (-1 : Int) < 0 then ((-1 : Int) + (((pre ++ [v]).length : Nat) : Int)).toNat else min (-1 : Int).toNat (pre ++ [v]).length) = 0 := e.1
      rw [if_pos (by decide)] at e1
      simp only [List.length_append, List.length_cons, List.length_nil] at e1
      omega
    · rw [cutLast]
      exact q p [v] _ (Same.new hp) upd_same (.cons (h3.m (TK.new hp)) .nil)

abbrev s_branches : Stmt := topS 5
theorem sc_branches : FnScope ["rule", "houses", "part"] ["rule"] (defScope s_branches) := ⟨rfl, rfl, rfl, by decide +kernel, rfl, by decide +kernel, by decide +kernel⟩
theorem ok_branches {f fI : Addr} {fd fdI : FuncData} {n : Nat} (F : Fun K "branches" "branches" s_branches f fd) (G : FnOk P w K mg base CX0 (n + 1) f fd ["rule"] (spBr n)) (FI : FnOk P w K mg base CX0 1 fI fdI ["rule"] spIn)
    (g : mg "branches" = some (.ref f)) (b : Binds K fd ["rule"] []) (gI : mg "inner_rules" = some (.ref fI)) (kI : PySem.W.keepIn K (.ref fI) = true) (bI : Binds K fdI ["rule"] []) (mT : mg "tuple" = none) :
    FnOk P w K mg base CX0 (n + 2) f fd ["rule"] (spBr (n + 1)) := by
  refine F.ok sc_branches (fun vs H Q E h => ?_) (fun cdv A outer s H vs Q E hr h => ?_)
  · obtain ⟨v, r, rfl, _⟩ := h
    rfl
  obtain ⟨v, r, rfl, hv, hd, hc, q⟩ := h
  have hr1 : Room 1 _ := hr.mono (by omega : 1 ≤ n + 1)
  refine ⟨_, (pss_cons (ps_if (pt_cmpR op_eq (pe_ix ix_tup (pv 0) pe_int (fun _ _ => rfl)) pe_str (nomark _)) (pss_one (ps_ret (pe_tup (pa_cons (pe_ix ix_tup (pv 0) pe_int (fun _ _ => rfl)) pa_nil))))
    pss_nil)
  (pss_cons (ps_set (i := 1) sc_branches.nd rfl (by first | exact Or.inl rfl | exact Or.inr rfl) (pe_lst pa_nil))
  (pss_cons (ps_for PassesOwn.never rfl (pi_tup (pe_call FI hr1 rfl gI kI bI .nil pass0 (pa_cons (pv 0) pa_nil))) (pg_name (i := 2) sc_branches.nd rfl (by first | exact Or.inl rfl | exact Or.inr rfl))
    (pss_one (ps_expr (pe_bm PySem.F.plainAttrs_list PySem.F.slot_list_extend PySem.F.type_list_extend mt_extendT (pv 1) (pa_cons (pe_call G hr rfl g F.kp b .nil pass0 (pa_cons (pv 2) pa_nil)) pa_nil)))))
  (pss_one (ps_ret (pe_callTy call_tupleL (by rfl) mT boot_tuple (pa_cons (pv 1) pa_nil))))))), ?_⟩
  obtain ⟨a, vs, rfl, ha, _⟩ := rule_tup hv
  walk_at "rd"
  refine ⟨_, SqT.of ha, _, atI0, rfl, ?_⟩
  rw [w_hear]
  by_cases hh : ∃ j, r = .hear j
  · obtain ⟨j, rfl⟩ := hh
    simp only [Rl.toD] at hv
    obtain ⟨_, _, e, h1, h2⟩ := hv.inv
    cases e
    obtain ⟨v1, r1, rfl, h3, h4⟩ := h2.cons_inv
    obtain ⟨v2, r2, rfl, h5, h6⟩ := h4.cons_inv
    rw [h5.int_inv] at h1
    exact iteT ⟨_, SqT.of h1, _, atI1, by decide, fun p hp => q p _ (Same.new hp) (by rw [upd_same]; simp only [Rl.brs, List.map_cons, List.map_nil])⟩
  have nh : ∀ j, r ≠ .hear j := fun j e => hh ⟨j, e⟩
  rw [Rl.noHear nh]
  refine iteF ⟨Nat.zero_le _, fun l hl => ?_⟩
  have hv' := hv.m (TK.new (o := .lst []) hl)
  have hla : l ≠ a := fun e => by rw [e, ha] at hl; cases hl
  refine ⟨_, rfl, _, r, rfl, hv', fun b xs H1 s1 hb hx => ?_⟩
  have hbl : H1 l = some (.lst []) := s1 _ _ upd_same
  have nb : b ≠ l := fun e => by rw [e, hbl] at hb; cases hb
  have lx := hx.len
  have lp := Rl.len_cntA r.parts
  have cp := Rl.cnt_parts r
  rw [Rl.toDs_len] at lx
  have szl : 200000 < sizeLine := by rw [sizeLine_eq]; decide
  have sm0 : Same H H1 := fun c u e => s1 _ _ (by rw [upd_ne (ne_of_none e hl)]; exact e)
  refine ⟨b, rfl, ⟨_, SqT.of hb⟩, for_tup (K := K) (a := b) (xs := xs) (fun i σ H2 => ∃ v2, σ = [some (.ref a), some (.ref l), v2] ∧ Same H H2 ∧ TpAll H2 xs (Rl.toDs r.parts) ∧ H2 b = some (.tup xs) ∧ H2 l = some (.lst ((Rl.brsA (r.parts.take i)).map V.int))) ⟨none, rfl, sm0, hx, hb, by rw [List.take_zero]; simp only [Rl.brsA, List.map_nil]; exact hbl⟩ (fun i σ H2 _ ⟨_, _, _, _, e, _⟩ => SqT.of e) ?_ ?_⟩
  · rintro i x σ H2 hi ⟨v2, rfl, sm, hp, hb2, hl2⟩
    obtain ⟨p, e1, e2, e3⟩ := hp.part hi
    have d1 := Rl.part_dep e2
    have c1 := Rl.part_cnt e2
    have b1 := Rl.brs_cnt p
    have b2 := Rl.brsA_take_le r.parts i
    walk_at "rd"
    refine ⟨.inl ⟨rfl, _, SqL.of hl2⟩, _, p, rfl, e3, by omega, by omega, fun t H3 s3 ht => ?_⟩
    have hl3 := s3 _ _ hl2
    have hb3 := s3 _ _ hb2
    refine ⟨t, rfl, _, hl3, _, ht, by simp only [List.length_map]; omega, Same.put (sm.trans s3) hl, ?_, by rw [upd_ne nb]; exact hb3, by rw [upd_same, Rl.brsA_take e1, List.map_append]⟩
    exact (hp.m (TK.of s3)).m (TK.put hl3 (fun _ => by simp))
  · rintro σ H2 ⟨v2, rfl, sm, hp, hb2, hl2⟩
    walk_at "rd"
    rw [hp.len, Rl.toDs_len, List.take_length] at hl2
    refine ⟨_, SqL.of hl2, fun t ht => ?_⟩
    rw [← Rl.brs_parts r nh]
    exact q t _ (Same.new1 sm ht) upd_same
/-- the text's branches, for rules of any depth below n -/
theorem ok_branchesN {f fI : Addr} {fd fdI : FuncData} (F : Fun K "branches" "branches" s_branches f fd) (FI : FnOk P w K mg base CX0 1 fI fdI ["rule"] spIn)
    (g : mg "branches" = some (.ref f)) (b : Binds K fd ["rule"] []) (gI : mg "inner_rules" = some (.ref fI)) (kI : PySem.W.keepIn K (.ref fI) = true) (bI : Binds K fdI ["rule"] []) (mT : mg "tuple" = none) :
    ∀ n, FnOk P w K mg base CX0 (n + 1) f fd ["rule"] (spBr n) := by
  intro n
  induction n with
  | zero =>
    refine F.ok sc_branches (fun vs H Q E h => ?_) (fun cdv A outer s H vs Q E hr h => ?_)
    · obtain ⟨v, r, rfl, _⟩ := h; rfl
    · obtain ⟨v, r, rfl, _, hd, _⟩ := h; omega
  | succ n ih => exact ok_branches F ih FI g b gI kI bI mT
end
end K04
set_option linter.all false
set_option maxRecDepth 100000
set_option maxHeartbeats 4000000
namespace K04
open PySem PySem.Spec PyProof.Rows L2 NB
local macro_rules | `(tactic| walk_at "rd") => `(tactic| simp only [cxK, rCat, rSorted, rIn, rSlT, rCatA, Bool.false_eq_true, tCallK0, gLst, iRng1, tIf, tChain, tAug, ipI, rSlS, tThru, iRng1, iRng2, iEnumS, iStr, tPar, tPar3, gTup, gNil, gCons, tRetN, tCall, tLc, iList, iTup, tRevL, tSl, tNoPart, tPart, rSlL, tYes, L2.start, List.map_cons, List.map_nil, List.length_cons, List.length_nil, List.replicate_succ, List.replicate_zero, Nat.reduceAdd, Nat.reduceSub, List.cons_append, List.nil_append, wipe, List.foldl_cons, List.foldl_nil, tAnd, tOr, tNot, tTest, tB, tOp, tUn, tVar, tC, tCB, tCons, tNil, tLst, tTup, tSeq, tNext, tAsg, tIfS, tRet, tDrop, gName, gSub, tBM0, tBM, rI, rI0, rU, rIxL, rIxT, rIxS, ↓reduceIte, rNeD, rEqD, rEq, rNe, rPop, rAppend, rSetL,
  List.getElem?_cons_zero, List.getElem?_cons_succ, List.set_cons_zero, List.set_cons_succ, Option.some.injEq, V.ref.injEq, V.int.injEq, V.bl.injEq, V.str.injEq, List.cons.injEq, exists_eq_left, exists_eq_left', exists_and_left, reduceCtorEq, false_and, and_false, exists_false, or_false, false_or, and_true, true_and])
/-! ### the law's own parts and branches -/
section
variable {P : Program} {w : World} {K : PySem.W.Frag} {mg : Str → Option Value} {base : Heap}
theorem new_of {H H1 : Hp} {b : Addr} (h : H1 b = none) (s : Same H H1) : H b = none := by
  cases e : H b with
  | none => rfl
  | some o => rw [s b o e] at h; cases h
def spParts : Sp := fun vs H Q _ => ∃ (v : V) (r : Rl), vs = [v] ∧ Tp H v r.toD ∧ r.cnt ≤ 100000 ∧ ∀ (b : Addr) (xs : List V) (H' : Hp), Same H H' → H b = none → H' b = some (.lst xs) → TpAll H' xs (Rl.toDs r.parts) → Q (.ref b) H'
def spLBr (n : Nat) : Sp := fun vs H Q _ => ∃ (v : V) (r : Rl), vs = [v] ∧ Tp H v r.toD ∧ r.dep + 1 ≤ n ∧ r.cnt ≤ 100000 ∧ ∀ (b : Addr) (H' : Hp), Same H H' → H b = none → H' b = some (.lst (r.brs.map V.int)) → Q (.ref b) H'
abbrev s_law_parts : Stmt := topS 17
theorem sc_law_parts : FnScope ["rule"] ["rule"] (defScope s_law_parts) := ⟨rfl, rfl, rfl, by decide +kernel, rfl, by decide +kernel, by decide +kernel⟩
theorem ok_law_parts {f : Addr} {fd : FuncData} (F : Fun K "_law_parts" "_law_parts" s_law_parts f fd) (mL : mg "list" = none) : FnOk P w K mg base CX0 1 f fd ["rule"] spParts := by
  refine F.ok sc_law_parts (fun vs H Q E h => ?_) (fun cdv A outer s H vs Q E hr h => ?_)
  · obtain ⟨v, r, rfl, _⟩ := h
    rfl
  obtain ⟨v, r, rfl, hv, hc, q⟩ := h
  refine ⟨_, (pss_cons (ps_if (pt_cmpR op_in_seq (pe_ix ix_tup (pv 0) pe_int (fun _ _ => rfl)) (pe_lst (pa_cons pe_str (pa_cons pe_str pa_nil))) (by rfl)) (pss_one (ps_ret (pe_lst pa_nil)))
    pss_nil)
  (pss_cons (ps_if (pt_cmpR op_in_seq (pe_ix ix_tup (pv 0) pe_int (fun _ _ => rfl)) (pe_lst (pa_cons pe_str (pa_cons pe_str (pa_cons pe_str pa_nil)))) (by rfl)) (pss_one (ps_ret (pe_callTy call_list_of (by rfl) mL boot_list (pa_cons (pe_ix ix_tup (pv 0) pe_int (fun _ _ => rfl)) pa_nil))))
    pss_nil)
  (pss_one (ps_ret (pe_ifExp (pt_cmpR op_eq (pe_ix ix_tup (pv 0) pe_int (fun _ _ => rfl)) pe_str (nomark _)) (pe_callTy call_list_of (by rfl) mL boot_list (pa_cons (pe_slice sl_tup (pv 0) (po_some pe_int) po_none) pa_nil)) (pe_lst (pa_cons (pe_ix ix_tup (pv 0) (pe_un un_neg pe_int) (fun _ _ => rfl)) pa_nil))))))), ?_⟩
  obtain ⟨a, vs, rfl, ha, _⟩ := rule_tup hv
  walk_at "rd"
  have sz : 3 ≤ sizeLine := by rw [sizeLine_eq]; decide
  refine ⟨_, SqT.of ha, _, atI0, by omega, fun p hp => ⟨_, .inl (SqL.of upd_same), rfl, by decide, ?_⟩⟩
  rw [w_leaf]
  generalize eH1 : upd H p (.lst _) = H1
  have s1 : Same H H1 := by rw [← eH1]; exact Same.new hp
  clear eH1
  have ha1 := s1 _ _ ha
  cases r with
  | is z => exact iteT ⟨Nat.zero_le _, fun b hb => q b [] _ (Same.new1 s1 hb) (new_of hb s1) upd_same (by simp only [Rl.parts, Rl.toDs]; exact .nil)⟩
  | hear z => exact iteT ⟨Nat.zero_le _, fun b hb => q b [] _ (Same.new1 s1 hb) (new_of hb s1) upd_same (by simp only [Rl.parts, Rl.toDs]; exact .nil)⟩
  | lst k ps =>
    refine iteF ⟨_, SqT.of ha1, _, atI0, by omega, fun p2 hp2 => ⟨_, .inl (SqL.of upd_same), rfl, by decide, ?_⟩⟩
    rw [w_list]
    have s2 := Same.new1 s1 (o := .lst [.str "least", .str "most", .str "add"]) hp2
    simp only [Rl.toD] at hv
    obtain ⟨_, _, e, h1, h2⟩ := hv.inv
    cases e
    obtain ⟨v1, r1, rfl, h3, h4⟩ := h2.cons_inv
    obtain ⟨v2, r2, rfl, h5, h6⟩ := h4.cons_inv
    obtain ⟨b, xs, rfl, h7, h8⟩ := h5.inv
    refine iteT ⟨_, SqT.of (s2 _ _ h1), _, atI1, b, rfl, xs, .inr (SqT.of (s2 _ _ h7)), fun l hl => q l xs _ (Same.new1 s2 hl) (new_of hl s2) upd_same ((h8.m (TK.of s2)).m (TK.new hl))⟩
  | mid x y z =>
    refine iteF ⟨_, SqT.of ha1, _, atI0, by omega, fun p2 hp2 => ⟨_, .inl (SqL.of upd_same), rfl, by decide, ?_⟩⟩
    rw [w_list]
    have s2 := Same.new1 s1 (o := .lst [.str "least", .str "most", .str "add"]) hp2
    have sc : scal (V.str (Rl.mid x y z).word) (V.str (Str.ofString "middle")) = true := rfl
    refine iteF ⟨_, SqT.of (s2 _ _ ha), _, atI0, sc, ?_⟩
    rw [w_mid]
    simp only [Rl.toD] at hv
    obtain ⟨_, _, e, h1, h2⟩ := hv.inv
    cases e
    obtain ⟨v1, r1, rfl, h3, h4⟩ := h2.cons_inv
    have hl := h4.len
    refine iteT ⟨_, SqT.of (s2 _ _ h1), fun e => ?_, fun p3 hp3 => ?_⟩
    · have e1 := e.1
      rw [show (some (1 : Int)) = some ((1 : Nat) : Int) from rfl, HT.sIx_nat, List.length_cons] at e1
      omega
    · rw [cut1]
      have s3 := Same.new1 s2 (o := .tup r1) hp3
      exact ⟨r1, .inr (SqT.of upd_same), fun l hl => q l r1 _ (Same.new1 s3 hl) (new_of hl s3) upd_same ((h4.m (TK.of s3)).m (TK.new hl))⟩
  | un u x =>
    refine iteF ⟨_, SqT.of ha1, _, atI0, by omega, fun p2 hp2 => ⟨_, .inl (SqL.of upd_same), rfl, by decide, ?_⟩⟩
    rw [w_list]
    have s2 := Same.new1 s1 (o := .lst [.str "least", .str "most", .str "add"]) hp2
    have sc : scal (V.str (Rl.un u x).word) (V.str (Str.ofString "middle")) = true := rfl
    refine iteF ⟨_, SqT.of (s2 _ _ ha), _, atI0, sc, ?_⟩
    rw [w_mid]
    simp only [Rl.toD] at hv
    obtain ⟨_, ws, e, h1, h2⟩ := hv.inv
    cases e
    rw [← List.cons_append] at h2
    obtain ⟨pre, v, rfl, h3⟩ := h2.snoc_inv
    refine iteF ⟨_, SqT.of (s2 _ _ h1), _, atILast, by omega, fun l hl => ?_⟩
    exact q l [v] _ (Same.new1 s2 hl) (new_of hl s2) upd_same (by simp only [Rl.parts, Rl.toDs]; exact .cons ((h3.m (TK.of s2)).m (TK.new hl)) .nil)
abbrev s_law_branches : Stmt := topS 18
theorem sc_law_branches : FnScope ["rule", "found", "part"] ["rule"] (defScope s_law_branches) := ⟨rfl, rfl, rfl, by decide +kernel, rfl, by decide +kernel, by decide +kernel⟩
theorem ok_law_branches {f fI : Addr} {fd fdI : FuncData} {n : Nat} (F : Fun K "_law_branches" "_law_branches" s_law_branches f fd) (G : FnOk P w K mg base CX0 (n + 1) f fd ["rule"] (spLBr n)) (FI : FnOk P w K mg base CX0 1 fI fdI ["rule"] spParts)
    (g : mg "_law_branches" = some (.ref f)) (b : Binds K fd ["rule"] []) (gI : mg "_law_parts" = some (.ref fI)) (kI : PySem.W.keepIn K (.ref fI) = true) (bI : Binds K fdI ["rule"] []) :
    FnOk P w K mg base CX0 (n + 2) f fd ["rule"] (spLBr (n + 1)) := by
  refine F.ok sc_law_branches (fun vs H Q E h => ?_) (fun cdv A outer s H vs Q E hr h => ?_)
  · obtain ⟨v, r, rfl, _⟩ := h
    rfl
  obtain ⟨v, r, rfl, hv, hd, hc, q⟩ := h
  have hr1 : Room 1 _ := hr.mono (by omega : 1 ≤ n + 1)
  refine ⟨_, (pss_cons (ps_set (i := 1) sc_law_branches.nd rfl (by first | exact Or.inl rfl | exact Or.inr rfl) (pe_ifExp (pt_cmpR op_eq (pe_ix ix_tup (pv 0) pe_int (fun _ _ => rfl)) pe_str (nomark _)) (pe_lst (pa_cons (pe_ix ix_tup (pv 0) pe_int (fun _ _ => rfl)) pa_nil)) (pe_lst pa_nil)))
  (pss_cons (ps_for PassesOwn.never rfl (pi_list (pe_call FI hr1 rfl gI kI bI .nil pass0 (pa_cons (pv 0) pa_nil))) (pg_name (i := 2) sc_law_branches.nd rfl (by first | exact Or.inl rfl | exact Or.inr rfl))
    (pss_one (ps_set (i := 1) sc_law_branches.nd rfl (by first | exact Or.inl rfl | exact Or.inr rfl) (pe_op op_cat (pv 1) (pe_call G hr rfl g F.kp b .nil pass0 (pa_cons (pv 2) pa_nil))))))
  (pss_one (ps_ret (pv 1))))), ?_⟩
  obtain ⟨a, vs, rfl, ha, _⟩ := rule_tup hv
  have szl : 500000 < sizeLine := by rw [sizeLine_eq]; decide
  have lp := Rl.len_cntA r.parts
  have cp := Rl.cnt_parts r
  have key : ∀ (l : Addr) (H0 : Hp), Same H H0 → H l = none → H0 l = some (.lst ((if r.isHear = true then r.brs else []).map V.int)) → tFor (iList K (tCall spParts [] E0 (tCons (tVar 0) tNil))) (gName 2)
    (tAsg (tOp rCat (tVar 1) (tCall (spLBr n) [] E0 (tCons (tVar 2) tNil))) (gName 1))
    { nx := tRet (tVar 1) { nx := fun x H' => Q V.non H', rt := Q }, rt := Q } [some (.ref a), some (.ref l), none] H0 := by
    intro l H0 sm0 nl hl0
    have hv' := hv.m (TK.of sm0)
    refine ⟨_, rfl, _, r, rfl, hv', hc, fun b xs H1 s1 nb hb hx => ?_⟩
    have lx := hx.len
    rw [Rl.toDs_len] at lx
    have nbl : b ≠ l := fun e => by rw [e, hl0] at nb; cases nb
    refine ⟨b, rfl, ⟨_, SqL.of hb⟩, for_list (K := K) (a := b) (xs := xs) (fun i σ H2 => ∃ v2 l2, σ = [some (.ref a), some (.ref l2), v2] ∧ Same H H2 ∧ H l2 = none ∧ TpAll H2 xs (Rl.toDs r.parts) ∧ H2 b = some (.lst xs) ∧ H2 l2 = some (.lst (((if r.isHear = true then r.brs else []) ++ Rl.brsA (r.parts.take i)).map V.int))) ⟨none, l, rfl, sm0.trans s1, nl, hx, hb, ?_⟩ (fun i σ H2 _ ⟨_, _, _, _, _, _, e, _⟩ => SqL.of e) ?_ ?_⟩
    · rw [List.take_zero]
      simp only [Rl.brsA, List.append_nil]
      exact s1 _ _ hl0
    · rintro i x σ H2 hi ⟨v2, l2, rfl, sm, nl2, hp, hb2, hl2⟩
      obtain ⟨p, e1, e2, e3⟩ := hp.part hi
      have d1 := Rl.part_dep e2
      have c1 := Rl.part_cnt e2
      have b1 := Rl.brs_cnt p
      have b2 := Rl.brsA_take_le r.parts i
      have b3 := Rl.brs_cnt r
      have b4 : (if r.isHear = true then r.brs else []).length ≤ 100000 := by
        split
        · omega
        · exact Nat.zero_le _
      walk_at "rd"
      refine ⟨_, p, rfl, e3, by omega, by omega, fun t H3 s3 nt ht => ?_⟩
      refine ⟨t, rfl, _, s3 _ _ hl2, _, ht, by simp only [List.length_map, List.length_append]; omega, fun y hy => ?_⟩
      refine ⟨_, _, ⟨rfl, rfl⟩, Same.new1 (Same.trans sm s3) hy, new_of hy (Same.trans sm s3), (hp.m (TK.of s3)).m (TK.new hy), ?_, ?_⟩
      · rw [upd_ne (ne_of_none (s3 _ _ hb2) hy)]
        exact s3 _ _ hb2
      · rw [upd_same, Rl.brsA_take e1, ← List.append_assoc]
        simp only [List.map_append]
    · rintro σ H2 ⟨v2, l2, rfl, sm, nl2, hp, hb2, hl2⟩
      walk_at "rd"
      refine q l2 H2 sm nl2 ?_
      rw [hl2, hp.len, Rl.toDs_len, List.take_length]
      cases hh : r.isHear with
      | true =>
        cases r with
        | hear j => simp only [Rl.parts, Rl.brsA, List.append_nil, ↓reduceIte]
        | _ => cases hh
      | false =>
        rw [← Rl.brs_parts r (fun j e => by rw [e] at hh; cases hh)]
        rfl
  walk_at "rd"
  refine ⟨_, SqT.of ha, _, atI0, rfl, ?_⟩
  rw [w_hear]
  cases hh : r.isHear with
  | true =>
    obtain ⟨j, rfl⟩ : ∃ j, r = .hear j := by
      cases r with
      | hear j => exact ⟨j, rfl⟩
      | _ => cases hh
    have hv2 := hv
    simp only [Rl.toD] at hv2
    obtain ⟨_, _, e, h1, h2⟩ := hv2.inv
    cases e
    obtain ⟨v1, r1, rfl, h3, h4⟩ := h2.cons_inv
    obtain ⟨v2, r2, rfl, h5, h6⟩ := h4.cons_inv
    rw [h5.int_inv] at h1
    exact iteT ⟨_, SqT.of h1, _, atI1, by omega, fun l hl => key l _ (Same.new hl) hl upd_same⟩
  | false => exact iteF ⟨Nat.zero_le _, fun l hl => key l _ (Same.new hl) hl (by rw [upd_same, if_neg (by rw [hh]; decide)]; rfl)⟩
theorem ok_law_branchesN {f fI : Addr} {fd fdI : FuncData} (F : Fun K "_law_branches" "_law_branches" s_law_branches f fd) (FI : FnOk P w K mg base CX0 1 fI fdI ["rule"] spParts)
    (g : mg "_law_branches" = some (.ref f)) (b : Binds K fd ["rule"] []) (gI : mg "_law_parts" = some (.ref fI)) (kI : PySem.W.keepIn K (.ref fI) = true) (bI : Binds K fdI ["rule"] []) :
    ∀ n, FnOk P w K mg base CX0 (n + 1) f fd ["rule"] (spLBr n) := by
  intro n
  induction n with
  | zero =>
    refine F.ok sc_law_branches (fun vs H Q E h => ?_) (fun cdv A outer s H vs Q E hr h => ?_)
    · obtain ⟨v, r, rfl, _⟩ := h; rfl
    · obtain ⟨v, r, rfl, _, hd, _⟩ := h; omega
  | succ n ih => exact ok_law_branches F ih FI g b gI kI bI
end
end K04
set_option linter.all false
set_option maxRecDepth 100000
set_option maxHeartbeats 4000000
namespace K04
open PySem PySem.Spec PyProof.Rows L2 NB
local macro_rules | `(tactic| walk_at "rd") => `(tactic| simp only [cxK, rCat, rSorted, rIn, rSlT, rCatA, Bool.false_eq_true, tCallK0, gLst, iRng1, tIf, tChain, tAug, ipI, rSlS, tThru, iRng1, iRng2, iEnumS, iStr, tPar, tPar3, gTup, gNil, gCons, tRetN, tCall, tLc, iList, iTup, tRevL, tSl, tNoPart, tPart, rSlL, tYes, L2.start, List.map_cons, List.map_nil, List.length_cons, List.length_nil, List.replicate_succ, List.replicate_zero, Nat.reduceAdd, Nat.reduceSub, List.cons_append, List.nil_append, wipe, List.foldl_cons, List.foldl_nil, tAnd, tOr, tNot, tTest, tB, tOp, tUn, tVar, tC, tCB, tCons, tNil, tLst, tTup, tSeq, tNext, tAsg, tIfS, tRet, tDrop, gName, gSub, tBM0, tBM, rI, rI0, rU, rIxL, rIxT, rIxS, ↓reduceIte, rNeD, rEqD, rEq, rNe, rPop, rAppend, rSetL,
  List.getElem?_cons_zero, List.getElem?_cons_succ, List.set_cons_zero, List.set_cons_succ, Option.some.injEq, V.ref.injEq, V.int.injEq, V.bl.injEq, V.str.injEq, List.cons.injEq, exists_eq_left, exists_eq_left', exists_and_left, reduceCtorEq, false_and, and_false, exists_false, or_false, false_or, and_true, true_and])
section
variable {P : Program} {w : World} {K : PySem.W.Frag} {mg : Str → Option Value} {base : Heap}
abbrev s_law_rule : Stmt := topS 15
theorem sc_law_rule : FnScope ["deal", "n", "top", "deep", "any_row", "form", "turn", "parts", "inner", "low", "row"] ["deal", "n", "top", "deep", "any_row"] (defScope s_law_rule) := ⟨rfl, rfl, rfl, by decide +kernel, rfl, by decide +kernel, by decide +kernel⟩
theorem ok_law_rule {f fA fO : Addr} {fd fdA fdO : FuncData} {n : Nat} (F : Fun K "_law_rule" "_law_rule" s_law_rule f fd) (G : FnOk P w K mg base CX0 (n + 2) f fd ["deal", "n", "top", "deep", "any_row"] (spRule n))
    (FA : FnOk P w K mg base CX0 1 fA fdA ["deal", "bound"] spAny) (gA : mg "_law_any" = some (.ref fA)) (kA : PySem.W.keepIn K (.ref fA) = true) (bA : Binds K fdA ["deal", "bound"] [])
    (FO : FnOk P w K mg base CX0 2 fO fdO ["deal", "some"] (spOf K)) (gO : mg "_law_of" = some (.ref fO)) (kO : PySem.W.keepIn K (.ref fO) = true) (bO : Binds K fdO ["deal", "some"] [])
    (g : mg "_law_rule" = some (.ref f)) (b : Binds K fd ["deal", "n", "top", "deep", "any_row"] []) (mT : mg "tuple" = none) (mR : mg "range" = none) (mS : mg "sorted" = none) :
    FnOk P w K mg base CX0 (n + 3) f fd ["deal", "n", "top", "deep", "any_row"] (spRule (n + 1)) := by
  refine F.ok sc_law_rule (fun vs H Q E h => ?_) (fun cdv A outer s H vs Q E hr h => ?_)
  · obtain ⟨_, _, _, _, _, _, rfl, _⟩ := h
    rfl
  obtain ⟨a, l, N, top, deep, any, rfl, D, n1, n2, t0, t1, hd, q⟩ := h
  have hr1 : Room 1 _ := hr.mono (by omega : 1 ≤ n + 2)
  have hr2 : Room 2 _ := hr.mono (by omega : 2 ≤ n + 2)
  refine ⟨_, (Evl.pss_cut (ps_set (i := 5) sc_law_rule.nd rfl (by first | exact Or.inl rfl | exact Or.inr rfl) (pe_ifExp (pt_cmpR op_gt (pv 3) pe_int (nomark _)) (pe_call FA hr1 rfl gA kA bA .nil pass0 (pa_cons (pv 0) (pa_cons pe_int pa_nil))) (pe_call FA hr1 rfl gA kA bA .nil pass0 (pa_cons (pv 0) (pa_cons pe_int pa_nil)))))
  (pss_cons (ps_if (pt_cmpR op_eq (pv 5) pe_int (nomark _)) (pss_one (ps_ret (pe_tup (pa_cons pe_str (pa_cons (pe_call FA hr1 rfl gA kA bA .nil pass0 (pa_cons (pv 0) (pa_cons (pe_op op_add (pv 2) pe_int) pa_nil))) pa_nil)))))
    pss_nil)
  (pss_cons (ps_if (pt_cmpR op_lt (pv 5) pe_int (nomark _)) (pss_one (ps_ret (pe_tup (pa_cons pe_str (pa_cons (pe_call FA hr1 rfl gA kA bA .nil pass0 (pa_cons (pv 0) (pa_cons (pv 1) pa_nil))) pa_nil)))))
    pss_nil)
  (pss_cons (ps_if (pt_cmpR op_lt (pv 5) pe_int (nomark _)) (pss_cons (ps_set (i := 7) sc_law_rule.nd rfl (by first | exact Or.inl rfl | exact Or.inr rfl) (pe_callTy call_tupleL (by rfl) mT boot_tuple (pa_cons (pe_lc (own := [("turn", 6)]) (g := gName 6) rfl sc_law_rule.nd (pi_range1 rfl mR (pa_cons (pe_op op_add pe_int (pe_call FA hr1 rfl gA kA bA .nil pass0 (pa_cons (pv 0) (pa_cons pe_int pa_nil)))) pa_nil)) (blkOk_by (N := ["deal", "n", "top", "deep", "any_row", "form", "turn", "parts", "inner", "low", "row"]) (sc := defScope s_law_rule) (by decide +kernel)) (fun _ _ _ _ _ => pg_name (i := 6) sc_law_rule.nd rfl (Or.inl rfl)) (fun _ _ _ _ _ => pts_nil) (fun _ _ _ _ _ => (pe_call G hr rfl g F.kp b .nil pass0 (pa_cons (pv 0) (pa_cons (pv 1) (pa_cons (pv 2) (pa_cons (pe_op op_sub (pv 3) pe_int) (pa_cons (pv 4) pa_nil)))))))) pa_nil)))
    (pss_one (ps_ret (pe_tup (pa_cons (pe_call FO hr2 rfl gO kO bO .nil pass0 (pa_cons (pv 0) (pa_cons (pe_lst (pa_cons pe_str (pa_cons pe_str (pa_cons pe_str pa_nil)))) pa_nil))) (pa_cons (pv 7) pa_nil))))))
    pss_nil)
  (Evl.pss_cut (ps_if (PW.pt (pw_and (pt_cmpR op_eq (pv 5) pe_int (nomark _)) (pw_and1 (pt_cmpR op_eq (pv 3) pe_int (nomark _))))) (pss_one (ps_ret (pe_op op_catA (pe_tup (pa_cons pe_str pa_nil)) (pe_callTy call_tupleL (by rfl) mT boot_tuple (pa_cons (pe_lc (own := [("turn", 6)]) (g := gName 6) rfl sc_law_rule.nd (pi_range1 rfl mR (pa_cons pe_int pa_nil)) (blkOk_by (N := ["deal", "n", "top", "deep", "any_row", "form", "turn", "parts", "inner", "low", "row"]) (sc := defScope s_law_rule) (by decide +kernel)) (fun _ _ _ _ _ => pg_name (i := 6) sc_law_rule.nd rfl (Or.inl rfl)) (fun _ _ _ _ _ => pts_nil) (fun _ _ _ _ _ => (pe_call G hr rfl g F.kp b .nil pass0 (pa_cons (pv 0) (pa_cons (pv 1) (pa_cons (pv 2) (pa_cons pe_int (pa_cons (pv 4) pa_nil)))))))) pa_nil)))))
    pss_nil)
  (pss_cons (ps_set (i := 8) sc_law_rule.nd rfl (by first | exact Or.inl rfl | exact Or.inr rfl) (pe_call G hr rfl g F.kp b .nil pass0 (pa_cons (pv 0) (pa_cons (pv 1) (pa_cons (pv 2) (pa_cons (pe_op op_sub (pv 3) pe_int) (pa_cons (pv 4) pa_nil)))))))
  (pss_cons (ps_if (pt_cmpR op_eq (pv 5) pe_int (nomark _)) (pss_one (ps_ret (pe_tup (pa_cons pe_str (pa_cons (pe_call FA hr1 rfl gA kA bA .nil pass0 (pa_cons (pv 0) (pa_cons pe_int pa_nil))) (pa_cons (pv 8) pa_nil))))))
    pss_nil)
  (pss_cons (ps_if (pt_cmpR op_eq (pv 5) pe_int (nomark _)) (pss_one (ps_ret (pe_tup (pa_cons pe_str (pa_cons (pe_op op_add pe_int (pe_call FA hr1 rfl gA kA bA .nil pass0 (pa_cons (pv 0) (pa_cons pe_int pa_nil)))) (pa_cons (pv 8) pa_nil))))))
    pss_nil)
  (pss_cons (ps_if (pt_cmpR op_eq (pv 5) pe_int (nomark _)) (pss_cons (ps_set (i := 9) sc_law_rule.nd rfl (by first | exact Or.inl rfl | exact Or.inr rfl) (pe_call FA hr1 rfl gA kA bA .nil pass0 (pa_cons (pv 0) (pa_cons (pe_op op_add (pv 2) pe_int) pa_nil))))
    (pss_one (ps_ret (pe_tup (pa_cons pe_str (pa_cons (pv 9) (pa_cons (pe_op op_add (pv 9) (pe_call FA hr1 rfl gA kA bA .nil pass0 (pa_cons (pv 0) (pa_cons pe_int pa_nil)))) (pa_cons (pv 8) pa_nil))))))))
    pss_nil)
  (pss_cons (ps_if (pt_cmpR op_eq (pv 5) pe_int (nomark _)) (pss_one (ps_ret (pe_tup (pa_cons pe_str (pa_cons (pe_call FA hr1 rfl gA kA bA .nil pass0 (pa_cons (pv 0) (pa_cons (pe_op op_add (pv 2) pe_int) pa_nil))) (pa_cons (pe_call FA hr1 rfl gA kA bA .nil pass0 (pa_cons (pv 0) (pa_cons (pe_op op_add (pv 2) pe_int) pa_nil))) (pa_cons (pe_call FA hr1 rfl gA kA bA .nil pass0 (pa_cons (pv 0) (pa_cons (pe_op op_add (pv 2) pe_int) pa_nil))) (pa_cons (pv 8) pa_nil))))))))
    pss_nil)
  (pss_cons (ps_if (pt_cmpR op_eq (pv 5) pe_int (nomark _)) (pss_cons (ps_setLc (i := 10) (own := [("turn", 6)]) (g := gName 6) rfl sc_law_rule.nd rfl rfl (sw_true rfl rfl rfl (by decide +kernel)) (pi_range1 rfl mR (pa_cons (pe_op op_add pe_int (pe_call FA hr1 rfl gA kA bA .nil pass0 (pa_cons (pv 0) (pa_cons (pe_op op_add (pv 2) pe_int) pa_nil)))) pa_nil)) (blkOk_by (N := ["deal", "n", "top", "deep", "any_row", "form", "turn", "parts", "inner", "low", "row"]) (sc := defScope s_law_rule) (by decide +kernel)) (fun _ _ _ _ _ => pg_name (i := 6) sc_law_rule.nd rfl (Or.inl rfl)) (fun _ _ _ _ _ => pts_nil) (fun _ _ _ _ _ => (pe_call FA hr1 rfl gA kA bA .nil pass0 (pa_cons (pv 0) (pa_cons (pe_op op_add (pv 2) pe_int) pa_nil)))))
    (pss_one (ps_ret (pe_tup (pa_cons pe_str (pa_cons (pe_callTy call_tupleL (by rfl) mT boot_tuple (pa_cons (pe_ifExp (pt_val (pv 4)) (pv 10) (pe_callB cr_sorted (by rfl) mS boot_sorted (pa_cons (pv 10) pa_nil))) pa_nil)) (pa_cons (pv 8) pa_nil)))))))
    pss_nil)
  (pss_one (ps_ret (pe_tup (pa_cons pe_str (pa_cons (pe_call FA hr1 rfl gA kA bA .nil pass0 (pa_cons (pv 0) (pa_cons (pe_op op_add (pv 2) pe_int) pa_nil))) (pa_cons (pv 8) pa_nil))))))))))))))))), ?_⟩
  have szl : 500000 < sizeLine := by rw [sizeLine_eq]; decide
  refine ⟨fun σ H' => ∃ form : Int, σ = [some (.ref a), some (.int N), some (.int top), some (.int deep), some (.bl any), some (.int form), none, none, none, none, none] ∧ 0 ≤ form ∧ form < 14 ∧ (deep = 0 → form < 4) ∧ Deal H' a l ∧ Kp a l H H', ?_, ?_⟩
  · walk_at "rd"
    refine ite2 (fun c => ?_) (fun c => ?_)
    · exact ⟨a, l, 14, rfl, D, by decide, by decide, fun r H1 r0 r1 D1 K1 => ⟨r, rfl, r0, r1, fun e => by simp [e] at c, D1, K1⟩⟩
    · exact ⟨a, l, 4, rfl, D, by decide, by decide, fun r H1 r0 r1 D1 K1 => ⟨r, rfl, r0, by omega, fun _ => r1, D1, K1⟩⟩
  · rintro σ H1 ⟨form, rfl, f0, f1, f2, D1, K1⟩
    walk_at "rd"
    refine ⟨rfl, ite2 (fun c => ?_) (fun c => ?_)⟩
    · refine ⟨a, l, _, rfl, D1, by omega, by omega, fun r H2 r0 r1 D2 K2 => ⟨by omega, fun p hp => ?_⟩⟩
      exact q (.ref p) (.is r) _ (by simp only [Rl.toD]; exact tpInt2 upd_same) (Rl.Drawn.leafI _ ⟨r0, by omega⟩) (D2.new hp) ((K1.trans K2).new1 hp)
    refine ite2 (fun c1 => ?_) (fun c1 => ?_)
    · refine ⟨a, l, _, rfl, D1, by omega, by omega, fun r H2 r0 r1 D2 K2 => ⟨by omega, fun p hp => ?_⟩⟩
      exact q (.ref p) (.hear r) _ (by simp only [Rl.toD]; exact tpInt2 upd_same) (Rl.Drawn.leafH _ ⟨r0, by omega⟩) (D2.new hp) ((K1.trans K2).new1 hp)
    have c1' : 4 ≤ form := by simp at c1; omega
    have nz : deep ≠ 0 := fun e => by
      have := f2 e
      omega
    obtain ⟨d, rfl⟩ : ∃ d, deep = d + 1 := ⟨deep - 1, by omega⟩
    have ed : ((d + 1 : Nat) : Int) - 1 = (d : Int) := by omega
    rw [ed]
    refine ite2 (fun c2 => ?_) (fun c2 => ?_)
    · refine ⟨a, l, 2, rfl, D1, by omega, by omega, fun r H2 r0 r1 D2 K2 => ⟨r, rfl, by omega, by omega, fun B hB => ?_⟩⟩
      refine lcR (lo := 0) (n := (1 + r).toNat) (RuleL N top any d a l B H2) (RuleL.start hB D2 (Kp.refl _ _ _) hB) ?_ ?_
      · intro i H3 hi R
        have R' := R
        obtain ⟨vs, rs, h1, h2, h3, h4, h5, h6, h7, h8, h9, h0⟩ := R'
        exact ⟨a, l, N, top, d, any, by first | rfl | rw [ed], h6, n1, n2, t0, t1, by omega, fun v r H4 tv dr D4 K4 => R.step (by omega) tv dr D4 K4⟩
      · rintro H3 ⟨vs, rs, h1, h2, h3, h4, h5, h6, h7, h8, h9, h0⟩
        refine ⟨vs, SqL.of h3, fun t ht => ⟨by omega, fun p hp => ?_⟩⟩
        have D4 := (h6.new (o := .tup vs) ht).new (o := .lst [V.str (Str.ofString "least"), V.str (Str.ofString "most"), V.str (Str.ofString "add")]) hp
        have D3 := h6.new (o := .tup vs) ht
        refine ⟨a, l, p, _, rfl, D4, .inl upd_same, (D3.a_some hp).1, (D3.a_some hp).2, by simp, by simp, fun i x H5 hx D5 K5 => ⟨by omega, fun z hz => ?_⟩⟩
        have tk : TK (upd H3 t (.tup vs)) H5 := (TK.new hp).trans (K5.tk D4)
        have e1 : H5 t = some (.tup vs) := tk _ _ upd_same
        have e2 : TpAll H5 vs (Rl.toDs rs) := (h4.m (TK.new ht)).m tk
        have kk : Kp a l H (upd H5 z (.tup [x, .ref t])) := ((((K1.trans K2).trans h7).new1 ht).new1 hp |>.trans K5).new1 hz
        have ne : rs ≠ [] := fun e => by rw [e] at h2; simp at h2; omega
        have fin : ∀ k : LK, x = .str k.w → Q (.ref z) (upd H5 z (.tup [x, .ref t])) := fun k ek => by
          rw [ek] at kk ⊢
          refine q (.ref z) (.lst k rs) _ ?_ (Rl.Drawn.lst ne (by omega) h5) (D5.new hz) kk
          simp only [Rl.toD]
          exact .tup upd_same (.cons (.str _) (.cons (.tup (by rw [upd_ne (ne_of_none e1 hz)]; exact e1) (e2.m (TK.new hz))) .nil))
        match i, hx with
        | 0, hx => exact fin .least (Option.some.inj hx).symm
        | 1, hx => exact fin .most (Option.some.inj hx).symm
        | 2, hx => exact fin .add (Option.some.inj hx).symm
        | i + 3, hx => simp at hx
    have c2' : 8 ≤ form := by simp at c2; omega
    refine ⟨fun σ H' => ∃ form : Int, σ = [some (.ref a), some (.int N), some (.int top), some (.int (d + 1 : Nat)), some (.bl any), some (.int form), none, none, none, none, none] ∧ Deal H' a l ∧ Kp a l H H', ?_, ?_⟩
    · walk_at "rd"
      refine ⟨rfl, ite2 (fun c3 => ⟨rfl, ite2 (fun c4 => ?_) (fun c4 => ⟨D1, K1⟩)⟩) (fun c3 => ⟨D1, K1⟩)⟩
      refine ⟨by omega, fun p hp => ⟨by omega, by omega, fun B hB => ?_⟩⟩
      obtain rfl : d = 0 := by simp at c4; omega
      have D2 := D1.new (o := .tup [V.str (Str.ofString "middle")]) hp
      refine lcR (lo := 0) (n := Int.toNat 3) (RuleL N top any 0 a l B (upd H1 p (.tup [V.str (Str.ofString "middle")]))) (RuleL.start hB D2 (Kp.refl _ _ _) hB) ?_ ?_
      · intro i H3 hi R
        have R' := R
        obtain ⟨vs, rs, h1, h2, h3, h4, h5, h6, h7, h8, h9, h0⟩ := R'
        have hi3 : i < 3 := hi
        exact ⟨a, l, N, top, 0, any, rfl, h6, n1, n2, t0, t1, by omega, fun v r H4 tv dr D4 K4 => R.step (by omega) tv dr D4 K4⟩
      · rintro H3 ⟨vs, rs, h1, h2, h3, h4, h5, h6, h7, h8, h9, h0⟩
        refine ⟨vs, SqL.of h3, fun t ht => ?_⟩
        have hp3 : H3 p = some (.tup [V.str (Str.ofString "middle")]) := h7.tup D2 upd_same
        have nv : vs ≠ [] := fun e => by rw [e] at h1; cases h1
        refine ⟨_, SqT.of (by rw [upd_ne (ne_of_none hp3 ht)]; exact hp3), vs, SqT.of upd_same, by rw [h1]; simp only [List.length_cons, List.length_nil, show Int.toNat 3 = 3 from rfl]; omega, fun e => by simp at e, fun _ e => absurd e nv, fun _ _ z hz => ?_⟩
        match rs, h2, h4, h5 with
        | [x, y, z'], h2, h4, h5 =>
          refine q (.ref z) (.mid x y z') _ ?_ (Rl.Drawn.mid (h5 x (by simp)) (h5 y (by simp)) (h5 z' (by simp))) ((h6.new ht).new hz) ((((K1.new1 hp).trans h7).new1 ht).new1 hz)
          simp only [Rl.toD]
          refine .tup upd_same (.cons (.str _) ?_)
          have := (h4.m (TK.new (o := .tup vs) ht)).m (TK.new (o := .tup ([V.str (Str.ofString "middle")] ++ vs)) hz)
          simp only [Rl.toDs] at this
          exact this
        | [], h2, _, _ => cases h2
        | [_], h2, _, _ => cases h2
        | [_, _], h2, _, _ => cases h2
        | _ :: _ :: _ :: _ :: _, h2, _, _ => exact absurd h2 (by simp only [List.length_cons, show Int.toNat 3 = 3 from rfl]; omega)
    · rintro σ H2 ⟨form, rfl, D2, K2⟩
      walk_at "rd"
      refine ⟨a, l, N, top, d, any, by rw [ed], D2, n1, n2, t0, t1, by omega, fun v r H3 tv dr D3 K3 => ?_⟩
      have fin : ∀ (u : Un) (H5 : Hp) (ws : List V) (z : Addr), H5 z = none → u.ok N top any → Deal H5 a l → Kp a l H3 H5 → TpAll H5 ws u.d → Q (.ref z) (upd H5 z (.tup (.str u.w :: (ws ++ [v])))) := fun u H5 ws z hz hu D5 K5 tw => by
        refine q (.ref z) (.un u r) _ ?_ (Rl.Drawn.un hu dr) (D5.new hz) (((K2.trans K3).trans K5).new1 hz)
        simp only [Rl.toD]
        exact .tup upd_same (.cons (.str _) ((tw.m (TK.new hz)).append (.cons ((tv.m (K5.tk D3)).m (TK.new hz)) .nil)))
      refine ⟨rfl, ite2 (fun c => ?_) (fun c => ⟨rfl, ite2 (fun c => ?_) (fun c => ⟨rfl, ite2 (fun c => ?_) (fun c => ⟨rfl, ite2 (fun c => ?_) (fun c => ⟨rfl, ite2 (fun c => ?_) (fun c => ?_)⟩)⟩)⟩)⟩)⟩
      · refine ⟨a, l, 3, rfl, D3, by omega, by omega, fun r0 H4 r1 r2 D4 K4 => ⟨by omega, fun z hz => ?_⟩⟩
        exact fin (.times r0) _ [.int r0] z hz ⟨r1, r2⟩ D4 K4 (.cons (.int _) .nil)
      · refine ⟨a, l, 3, rfl, D3, by omega, by omega, fun r0 H4 r1 r2 D4 K4 => ⟨r0, rfl, by omega, fun z hz => ?_⟩⟩
        exact fin (.part (1 + r0)) _ [.int (1 + r0)] z hz ⟨by omega, by omega⟩ D4 K4 (.cons (.int _) .nil)
      · refine ⟨a, l, _, rfl, D3, by omega, by omega, fun r0 H4 r1 r2 D4 K4 => ⟨a, l, 3, rfl, D4, by omega, by omega, fun r3 H5 r4 r5 D5 K5 => ⟨r0, rfl, r3, rfl, by omega, fun z hz => ?_⟩⟩⟩
        exact fin (.clip r0 (r0 + r3)) _ [.int r0, .int (r0 + r3)] z hz ⟨r1, by omega, by omega, by omega⟩ D5 (K4.trans K5) (.cons (.int _) (.cons (.int _) .nil))
      · refine ⟨a, l, _, rfl, D3, by omega, by omega, fun r0 H4 r1 r2 D4 K4 => ⟨a, l, _, rfl, D4, by omega, by omega, fun r3 H5 r4 r5 D5 K5 => ⟨a, l, _, rfl, D5, by omega, by omega, fun r6 H6 r7 r8 D6 K6 => ⟨by omega, fun z hz => ?_⟩⟩⟩⟩
        exact fin (.bar r0 r3 r6) _ [.int r0, .int r3, .int r6] z hz ⟨r1, by omega, by omega, by omega, by omega, by omega⟩ D6 ((K4.trans K5).trans K6) (.cons (.int _) (.cons (.int _) (.cons (.int _) .nil)))
      · refine ⟨a, l, _, rfl, D3, by omega, by omega, fun r0 H4 r1 r2 D4 K4 => ⟨r0, rfl, by omega, by omega, fun B hB => ?_⟩⟩
        refine lcR (lo := 0) (n := (1 + r0).toNat) (IntL 0 top a l B H4) (IntL.start hB D4 (Kp.refl _ _ _) hB) ?_ ?_
        · intro i H5 hi R
          have R' := R
          obtain ⟨ns, h1, h3, h5, h6, h7, h8, h9, h0⟩ := R'
          exact ⟨a, l, _, rfl, h6, by omega, by omega, fun r3 H6 r4 r5 D6 K6 => R.step (by omega) ⟨r4, by omega⟩ D6 K6⟩
        · rintro H5 ⟨ns, h1, h3, h5, h6, h7, h8, h9, h0⟩
          refine ite2 (fun ha => ?_) (fun ha => ?_)
          · refine ⟨_, SqL.of h3, fun t ht => ⟨by omega, fun z hz => ?_⟩⟩
            refine fin (.row ns) _ [.ref t] z hz ⟨fun e => by rw [e] at h1; simp at h1; omega, by omega, h5, fun e => by rw [ha] at e; cases e⟩ (h6.new ht) ((K4.trans h7).new1 ht) (.cons (.tup upd_same (tpInts _)) .nil)
          · refine ⟨ns, SqL.of h3, by omega, fun ms p pm pw hp => ⟨_, SqL.of upd_same, fun t ht => ⟨by omega, fun z hz => ?_⟩⟩⟩
            have pl := pm.length_eq
            refine fin (.row ms) _ [.ref t] z hz ⟨fun e => by rw [e] at pl; simp at pl; omega, by omega, fun x hx => h5 x (pm.mem_iff.mp hx), fun _ => pw⟩ ((h6.new hp).new ht) (((K4.trans h7).new1 hp).new1 ht) (.cons (.tup upd_same (tpInts _)) .nil)
      · refine ⟨a, l, _, rfl, D3, by omega, by omega, fun r0 H4 r1 r2 D4 K4 => ⟨by omega, fun z hz => ?_⟩⟩
        exact fin (.frm r0) _ [.int r0] z hz ⟨r1, by omega⟩ D4 K4 (.cons (.int _) .nil)
theorem ok_law_ruleN {f fA fO : Addr} {fd fdA fdO : FuncData} (F : Fun K "_law_rule" "_law_rule" s_law_rule f fd)
    (FA : FnOk P w K mg base CX0 1 fA fdA ["deal", "bound"] spAny) (gA : mg "_law_any" = some (.ref fA)) (kA : PySem.W.keepIn K (.ref fA) = true) (bA : Binds K fdA ["deal", "bound"] [])
    (FO : FnOk P w K mg base CX0 2 fO fdO ["deal", "some"] (spOf K)) (gO : mg "_law_of" = some (.ref fO)) (kO : PySem.W.keepIn K (.ref fO) = true) (bO : Binds K fdO ["deal", "some"] [])
    (g : mg "_law_rule" = some (.ref f)) (b : Binds K fd ["deal", "n", "top", "deep", "any_row"] []) (mT : mg "tuple" = none) (mR : mg "range" = none) (mS : mg "sorted" = none) :
    ∀ n, FnOk P w K mg base CX0 (n + 2) f fd ["deal", "n", "top", "deep", "any_row"] (spRule n) := by
  intro n
  induction n with
  | zero =>
    refine F.ok sc_law_rule (fun vs H Q E h => ?_) (fun cdv A outer s H vs Q E hr h => ?_)
    · obtain ⟨_, _, _, _, _, _, rfl, _⟩ := h; rfl
    · obtain ⟨_, _, _, _, _, _, rfl, _, _, _, _, _, hd, _⟩ := h; omega
  | succ n ih => exact ok_law_rule F ih FA gA kA bA FO gO kO bO g b mT mR mS
end
end K04
set_option linter.all false
set_option maxRecDepth 100000
set_option maxHeartbeats 4000000
namespace K04
open PySem PySem.Spec PyProof.Rows L2 NB
local macro_rules | `(tactic| walk_at "rd") => `(tactic| simp only [cxK, rCat, rSorted, rIn, rSlT, rCatA, Bool.false_eq_true, tCallK0, gLst, iRng1, tIf, tChain, tAug, ipI, rSlS, tThru, iRng1, iRng2, iEnumS, iStr, tPar, tPar3, gTup, gNil, gCons, tRetN, tCall, tLc, iList, iTup, tRevL, tSl, tNoPart, tPart, rSlL, tYes, L2.start, List.map_cons, List.map_nil, List.length_cons, List.length_nil, List.replicate_succ, List.replicate_zero, Nat.reduceAdd, Nat.reduceSub, List.cons_append, List.nil_append, wipe, List.foldl_cons, List.foldl_nil, tAnd, tOr, tNot, tTest, tB, tOp, tUn, tVar, tC, tCB, tCons, tNil, tLst, tTup, tSeq, tNext, tAsg, tIfS, tRet, tDrop, gName, gSub, tBM0, tBM, rI, rI0, rU, rIxL, rIxT, rIxS, ↓reduceIte, rNeD, rEqD, rEq, rNe, rPop, rAppend, rSetL,
  List.getElem?_cons_zero, List.getElem?_cons_succ, List.set_cons_zero, List.set_cons_succ, Option.some.injEq, V.ref.injEq, V.int.injEq, V.bl.injEq, V.str.injEq, List.cons.injEq, exists_eq_left, exists_eq_left', exists_and_left, reduceCtorEq, false_and, and_false, exists_false, or_false, false_or, and_true, true_and])
section
variable {P : Program} {w : World} {K : PySem.W.Frag} {mg : Str → Option Value} {base : Heap}
abbrev s_law_net : Stmt := topS 16
theorem sc_law_net : FnScope ["deal", "most", "top", "any_row", "n", "house", "tops"] ["deal", "most", "top", "any_row"] (defScope s_law_net) := ⟨rfl, rfl, rfl, by decide +kernel, rfl, by decide +kernel, by decide +kernel⟩
theorem ok_law_net {f fA fR : Addr} {fd fdA fdR : FuncData} (F : Fun K "_law_net" "_law_net" s_law_net f fd)
    (FA : FnOk P w K mg base CX0 1 fA fdA ["deal", "bound"] spAny) (gA : mg "_law_any" = some (.ref fA)) (kA : PySem.W.keepIn K (.ref fA) = true) (bA : Binds K fdA ["deal", "bound"] [])
    (FR : FnOk P w K mg base CX0 6 fR fdR ["deal", "n", "top", "deep", "any_row"] (spRule 4)) (gR : mg "_law_rule" = some (.ref fR)) (kR : PySem.W.keepIn K (.ref fR) = true) (bR : Binds K fdR ["deal", "n", "top", "deep", "any_row"] [])
    (mT : mg "tuple" = none) (mR : mg "range" = none) :
    FnOk P w K mg base CX0 7 f fd ["deal", "most", "top", "any_row"] spNet := by
  refine F.ok sc_law_net (fun vs H Q E h => ?_) (fun cdv A outer s H vs Q E hr h => ?_)
  · obtain ⟨_, _, _, _, _, rfl, _⟩ := h
    rfl
  obtain ⟨a, l, most, top, any, rfl, D, m1, m2, t0, t1, q⟩ := h
  have hr1 : Room 1 _ := hr.mono (by omega : 1 ≤ 6)
  refine ⟨_, (pss_cons (ps_set (i := 4) sc_law_net.nd rfl (by first | exact Or.inl rfl | exact Or.inr rfl) (pe_op op_add pe_int (pe_call FA hr1 rfl gA kA bA .nil pass0 (pa_cons (pv 0) (pa_cons (pv 1) pa_nil)))))
  (pss_cons (ps_set (i := 6) sc_law_net.nd rfl (by first | exact Or.inl rfl | exact Or.inr rfl) (pe_callTy call_tupleL (by rfl) mT boot_tuple (pa_cons (pe_lc (own := [("house", 5)]) (g := gName 5) rfl sc_law_net.nd (pi_range1 rfl mR (pa_cons (pv 4) pa_nil)) (blkOk_by (N := ["deal", "most", "top", "any_row", "n", "house", "tops"]) (sc := defScope s_law_net) (by decide +kernel)) (fun _ _ _ _ _ => pg_name (i := 5) sc_law_net.nd rfl (Or.inl rfl)) (fun _ _ _ _ _ => pts_nil) (fun _ _ _ _ _ => (pe_op op_add pe_int (pe_call FA hr1 rfl gA kA bA .nil pass0 (pa_cons (pv 0) (pa_cons (pv 2) pa_nil)))))) pa_nil)))
  (pss_one (ps_ret (pe_tup (pa_cons (pv 6) (pa_cons (pe_callTy call_tupleL (by rfl) mT boot_tuple (pa_cons (pe_lc (own := [("house", 5)]) (g := gName 5) rfl sc_law_net.nd (pi_range1 rfl mR (pa_cons (pv 4) pa_nil)) (blkOk_by (N := ["deal", "most", "top", "any_row", "n", "house", "tops"]) (sc := defScope s_law_net) (by decide +kernel)) (fun _ _ _ _ _ => pg_name (i := 5) sc_law_net.nd rfl (Or.inl rfl)) (fun _ _ _ _ _ => pts_nil) (fun _ _ _ _ _ => (pe_call FR hr rfl gR kR bR .nil pass0 (pa_cons (pv 0) (pa_cons (pv 4) (pa_cons (pv 2) (pa_cons (pe_call FA hr1 rfl gA kA bA .nil pass0 (pa_cons (pv 0) (pa_cons pe_int pa_nil))) (pa_cons (pv 3) pa_nil)))))))) pa_nil)) pa_nil))))))), ?_⟩
  walk_at "rd"
  have szl : 500000 < sizeLine := by rw [sizeLine_eq]; decide
  refine ⟨a, l, most, rfl, D, m1, by omega, fun r H1 r0 r1 D1 K1 => ⟨r, rfl, by omega, by omega, fun B hB => ?_⟩⟩
  refine lcR (lo := 0) (n := (1 + r).toNat) (IntL 1 top a l B H1) (IntL.start hB D1 (Kp.refl _ _ _) hB) ?_ ?_
  · intro i H2 hi R
    have R' := R
    obtain ⟨ns, h1, h3, h5, h6, h7, h8, h9, h0⟩ := R'
    exact ⟨a, l, top, rfl, h6, by omega, by omega, fun r3 H3 r4 r5 D3 K3 => ⟨r3, rfl, R.step (by omega) ⟨by omega, by omega⟩ D3 K3⟩⟩
  · rintro H2 ⟨ns, h1, h3, h5, h6, h7, h8, h9, h0⟩
    refine ⟨_, SqL.of h3, fun t ht => ⟨by omega, by omega, fun B2 hB2 => ?_⟩⟩
    have D3 := h6.new (o := .tup (ns.map V.int)) ht
    have K3 : Kp a l H (upd H2 t (.tup (ns.map V.int))) := (K1.trans h7).new1 ht
    refine lcR (lo := 0) (n := (1 + r).toNat) (RuleL (1 + r) top any 3 a l B2 (upd H2 t (.tup (ns.map V.int)))) (RuleL.start hB2 D3 (Kp.refl _ _ _) hB2) ?_ ?_
    · intro i H4 hi R
      have R' := R
      obtain ⟨vs, rs, g1, g2, g3, g4, g5, g6, g7, g8, g9, g0⟩ := R'
      refine ⟨a, l, 4, rfl, g6, by omega, by omega, fun d H5 d0 d1 D5 K5 => ?_⟩
      obtain ⟨e, rfl⟩ : ∃ e : Nat, d = (e : Int) := ⟨d.toNat, by omega⟩
      exact ⟨a, l, 1 + r, top, e, any, rfl, D5, by omega, by omega, by omega, by omega, by omega, fun v x H6 tv dr D6 K6 => R.step (by omega) tv (dr.mono (by omega)) D6 (K5.trans K6)⟩
    · rintro H4 ⟨vs, rs, g1, g2, g3, g4, g5, g6, g7, g8, g9, g0⟩
      refine ⟨vs, SqL.of g3, fun t2 ht2 => ⟨by omega, fun z hz => ?_⟩⟩
      have e1 : H4 t = some (.tup (ns.map V.int)) := g7.tup D3 upd_same
      have e2 : upd H4 t2 (.tup vs) t = some (.tup (ns.map V.int)) := by rw [upd_ne (ne_of_none e1 ht2)]; exact e1
      have e3 : upd H4 t2 (.tup vs) t2 = some (.tup vs) := upd_same
      have nl : (ns.length : Int) = 1 + r := by omega
      refine q (.ref z) ns rs _ ⟨z, t, t2, vs, rfl, upd_same, ?_, ?_, (g4.m (TK.new ht2)).m (TK.new hz)⟩ ⟨by omega, by omega, by omega, h5, by rw [nl]; exact g5⟩ ((g6.new ht2).new hz) (((K3.trans g7).new1 ht2).new1 hz)
      · rw [upd_ne (ne_of_none e2 hz)]; exact e2
      · rw [upd_ne (ne_of_none e3 hz)]; exact e3
end
end K04
set_option linter.all false
set_option maxRecDepth 100000
set_option maxHeartbeats 4000000
namespace K04
open PySem PySem.Spec PyProof.Rows L2 NB
local macro_rules | `(tactic| walk_at "rd") => `(tactic| simp only [cxK, iEnumT, rSIn, rSNotIn, rSAdd, tSAdd, rSet0, rSortedSet, rCat, rSorted, rIn, rSlT, rCatA, Bool.false_eq_true, tCallK0, gLst, iRng1, tIf, tChain, tAug, ipI, rSlS, tThru, iRng1, iRng2, iEnumS, iStr, tPar, tPar3, gTup, gNil, gCons, tRetN, tCall, tLc, iList, iTup, tRevL, tSl, tNoPart, tPart, rSlL, tYes, L2.start, List.map_cons, List.map_nil, List.length_cons, List.length_nil, List.replicate_succ, List.replicate_zero, Nat.reduceAdd, Nat.reduceSub, List.cons_append, List.nil_append, wipe, List.foldl_cons, List.foldl_nil, tAnd, tOr, tNot, tTest, tB, tOp, tUn, tVar, tC, tCB, tCons, tNil, tLst, tTup, tSeq, tNext, tAsg, tIfS, tRet, tDrop, gName, gSub, tBM0, tBM, rI, rI0, rU, rIxL, rIxT, rIxS, ↓reduceIte, rNeD, rEqD, rEq, rNe, rPop, rAppend, rSetL,
  List.getElem?_cons_zero, List.getElem?_cons_succ, List.set_cons_zero, List.set_cons_succ, Option.some.injEq, V.ref.injEq, V.int.injEq, V.bl.injEq, V.str.injEq, List.cons.injEq, exists_eq_left, exists_eq_left', exists_and_left, reduceCtorEq, false_and, and_false, exists_false, or_false, false_or, and_true, true_and])
section
variable {P : Program} {w : World} {K : PySem.W.Frag} {mg : Str → Option Value} {base : Heap}
abbrev s_hearers : Stmt := topS 7
theorem sc_hearers : FnScope ["net", "house", "other", "rule"] ["net", "house"] (defScope s_hearers) := ⟨rfl, rfl, rfl, by decide +kernel, rfl, by decide +kernel, by decide +kernel⟩
theorem ok_hearers {f fB : Addr} {fd fdB : FuncData} (F : Fun K "hearers" "hearers" s_hearers f fd) (FB : FnOk P w K mg base CX0 5 fB fdB ["rule"] (spBr 4)) (gB : mg "branches" = some (.ref fB)) (kB : PySem.W.keepIn K (.ref fB) = true)
    (bB : Binds K fdB ["rule"] []) (mT : mg "tuple" = none) (mE : mg "enumerate" = none) : FnOk P w K mg base CX0 6 f fd ["net", "house"] spHear := by
  refine F.ok sc_hearers (fun vs H Q E h => ?_) (fun cdv A outer s H vs Q E hr h => ?_)
  · obtain ⟨_, _, _, _, rfl, _⟩ := h
    rfl
  obtain ⟨v, h, tops, rs, rfl, hn, hd, hl, q⟩ := h
  refine ⟨_, (pss_one (ps_ret (pe_callTy call_tupleL (by rfl) mT boot_tuple (pa_cons (pe_lc (own := [("other", 2), ("rule", 3)]) (g := gTup K 2 (gCons (gName 2) (gCons (gName 3) gNil))) (tt := tTest (tOp (rIn K false) (tVar 1) (tCall (spBr 4) [] E0 (tCons (tVar 3) tNil)))) rfl sc_hearers.nd (pi_enumT rfl mE (pa_cons (pe_ix ix_tup (pv 0) pe_int (fun _ _ => rfl)) pa_nil)) (blkOk_by (N := ["net", "house", "other", "rule"]) (sc := defScope s_hearers) (by decide +kernel)) (fun _ _ _ _ _ => pg_tup rfl (pgs_cons (pg_name (i := 2) sc_hearers.nd rfl (Or.inl rfl)) (pgs_cons (pg_name (i := 3) sc_hearers.nd rfl (Or.inl rfl)) pgs_nil))) (fun _ _ _ _ _ => (pts_one (pt_cmpR op_in_seq (pv 1) (pe_call FB hr rfl gB kB bB .nil pass0 (pa_cons (pv 3) pa_nil)) (by rfl)))) (fun _ _ _ _ _ => (pv 2))) pa_nil)))), ?_⟩
  obtain ⟨a, t, p, vs, rfl, h1, h2, h3, h4⟩ := hn.ex
  walk_at "rd"
  have szl : 500000 < sizeLine := by rw [sizeLine_eq]; decide
  refine ⟨_, SqT.of h1, _, atI1, _, rfl, vs, SqT.of h3, fun D hD => ?_⟩
  have lv := h4.len
  rw [Rl.toDs_len] at lv
  refine lcE (xs := vs) (fun i H' => H' D = some (.lst ((ofN (hearsTo rs h i)).map V.int)) ∧ Same H H') ⟨upd_same, Same.new hD⟩ (fun i H' _ hh => SqT.of (hh.2 _ _ h3)) ?_ ?_
  · rintro i x T H1 hx ⟨d1, s1⟩ hT
    obtain ⟨r, e1, e2, e3⟩ := h4.part hx
    have dd := hd r e2
    have cc := Rl.brs_cnt r
    refine ⟨_, rfl, _, SqT.of upd_same, rfl, _, _, rfl, _, _, rfl, rfl, ?_⟩
    have e4 := (e3.m (TK.of s1)).m (TK.new (o := .tup [.int (i : Nat), x]) hT)
    refine ⟨_, r, rfl, e4, by omega, by omega, fun b H2 s2 hb => ⟨_, rfl, _, .inr (SqT.of hb), rfl, flat_ints _, ?_⟩⟩
    have hlen := hearsTo_len rs h i
    have il : i < vs.length := (List.getElem?_eq_some_iff.mp hx).1
    have d2 : H2 D = some (.lst ((ofN (hearsTo rs h i)).map V.int)) := s2 _ _ (by rw [upd_ne (ne_of_none d1 hT)]; exact d1)
    have s3 : Same H H2 := (Same.new1 s1 hT).trans s2
    rw [inV_int]
    have ee := ear_at e1 h
    have hsucc := hearsTo_succ rs h i
    rw [ee] at hsucc
    rw [hsucc]
    refine ite2 (fun c => ?_) (fun c => ?_)
    · refine ⟨_, d2, by simp only [List.length_map, ofN]; omega, ?_, Same.put s3 hD⟩
      rw [if_pos c, upd_same]
      simp only [ofN, List.map_append, List.map_cons, List.map_nil]
    · rw [if_neg c]
      exact ⟨d2, s3⟩
  · rintro H1 ⟨d1, s1⟩
    refine ⟨_, SqL.of d1, fun b hb => ?_⟩
    rw [lv] 
    exact q b _ (Same.new1 s1 hb) upd_same
end
end K04
set_option linter.all false
set_option maxRecDepth 100000
set_option maxHeartbeats 4000000
namespace K04
open PySem PySem.Spec PyProof.Rows L2 NB
local macro_rules | `(tactic| walk_at "rd") => `(tactic| simp only [cxK, cxW, TruV, iEnumT, rSIn, rSNotIn, rSAdd, tSAdd, rSet0, rSortedSet, rCat, rSorted, rIn, rSlT, rCatA, Bool.false_eq_true, tCallK0, gLst, iRng1, tIf, tChain, tAug, ipI, rSlS, tThru, iRng1, iRng2, iEnumS, iStr, tPar, tPar3, gTup, gNil, gCons, tRetN, tCall, tLc, iList, iTup, tRevL, tSl, tNoPart, tPart, rSlL, tYes, L2.start, List.map_cons, List.map_nil, List.length_cons, List.length_nil, List.replicate_succ, List.replicate_zero, Nat.reduceAdd, Nat.reduceSub, List.cons_append, List.nil_append, wipe, List.foldl_cons, List.foldl_nil, tAnd, tOr, tNot, tTest, tB, tOp, tUn, tVar, tC, tCB, tCons, tNil, tLst, tTup, tSeq, tNext, tAsg, tIfS, tRet, tDrop, gName, gSub, tBM0, tBM, rI, rI0, rU, rIxL, rIxT, rIxS, ↓reduceIte, rNeD, rEqD, rEq, rNe, rPop, rAppend, rSetL,
  List.getElem?_cons_zero, List.getElem?_cons_succ, List.set_cons_zero, List.set_cons_succ, Option.some.injEq, V.ref.injEq, V.int.injEq, V.bl.injEq, V.str.injEq, List.cons.injEq, exists_eq_left, exists_eq_left', exists_and_left, reduceCtorEq, false_and, and_false, exists_false, or_false, false_or, and_true, true_and])
section
variable {P : Program} {w : World} {K : PySem.W.Frag} {mg : Str → Option Value} {base : Heap}
abbrev s_reached : Stmt := topS 8
theorem sc_reached : FnScope ["net", "house", "found", "waiting", "here", "other"] ["net", "house"] (defScope s_reached) := ⟨rfl, rfl, rfl, by decide +kernel, rfl, by decide +kernel, by decide +kernel⟩
theorem ok_reached {f fB : Addr} {fd fdB : FuncData} (F : Fun K "reached" "reached" s_reached f fd) (FB : FnOk P w K mg base CX0 6 fB fdB ["net", "house"] spHear) (gB : mg "hearers" = some (.ref fB)) (kB : PySem.W.keepIn K (.ref fB) = true)
    (bB : Binds K fdB ["net", "house"] []) (mT : mg "tuple" = none) (mE : mg "set" = none) (mS : mg "sorted" = none) : FnOk P w K mg base CX0 7 f fd ["net", "house"] spReach := by
  refine F.ok sc_reached (fun vs H Q E h => ?_) (fun cdv A outer s H vs Q E hr h => ?_)
  · obtain ⟨_, _, _, _, rfl, _⟩ := h
    rfl
  obtain ⟨v, h, tops, rs, rfl, hn, hd, hl, q⟩ := h
  refine ⟨_, (pss_cons (ps_set (i := 2) sc_reached.nd rfl (by first | exact Or.inl rfl | exact Or.inr rfl) (pe_callTy0 cr_set0 (by rfl) mE boot_set))
  (pss_cons (ps_set (i := 3) sc_reached.nd rfl (by first | exact Or.inl rfl | exact Or.inr rfl) (pe_lst (pa_cons (pv 1) pa_nil)))
  (Evl.pss_cut (ps_while PassesOwn.never (pt_truth (pv 3) (fun _ => rfl)) (pss_cons (ps_set (i := 4) sc_reached.nd rfl (by first | exact Or.inl rfl | exact Or.inr rfl) (pe_bm0 PySem.F.plainAttrs_list PySem.F.slot_list_pop PySem.F.type_list_pop mt_pop (pv 3)))
    (pss_one (ps_for PassesOwn.never rfl (pi_tup (pe_call FB hr rfl gB kB bB .nil pass0 (pa_cons (pv 0) (pa_cons (pv 4) pa_nil)))) (pg_name (i := 5) sc_reached.nd rfl (by first | exact Or.inl rfl | exact Or.inr rfl))
      (pss_one (ps_if (pt_cmpR or_snotin (pv 5) (pv 2) (by rfl)) (pss_cons (ps_expr (pe_sadd (pv 2) (pa_cons (pv 5) pa_nil)))
        (pss_one (ps_expr (pe_bm PySem.F.plainAttrs_list PySem.F.slot_list_append PySem.F.type_list_append mt_append (pv 3) (pa_cons (pv 5) pa_nil)))))
        pss_nil))))))
  (pss_one (ps_ret (pe_callTy call_tupleL (by rfl) mT boot_tuple (pa_cons (pe_callB (cr_sortedSet (by rfl)) (by rfl) mS boot_sorted (pa_cons (pv 2) pa_nil)) pa_nil))))))), ?_⟩
  walk_at "rd"
  intro F1 hF
  have szl : 500000 < sizeLine := by rw [sizeLine_eq]; decide
  refine ⟨by omega, fun W1 hW => ?_⟩
  have nFW : F1 ≠ W1 := fun e => by rw [← e, upd_same] at hW; cases hW
  have hW0 : H W1 = none := by rw [upd_ne nFW.symm] at hW; exact hW
  refine ⟨fun σ H' => ∃ (S : Int → Bool) (n : Nat) (v4 v5 : Option V), σ = [some v, some (.int h), some (.ref F1), some (.ref W1), v4, v5] ∧ RI rs h S n [] (fun _ => False) ∧ H' F1 = some (SetO w F1 S n) ∧ Same H H', ?_, ?_⟩
  · refine ⟨fun m σ H' => ∃ (S : Int → Bool) (n : Nat) (ws : List Int) (v4 v5 : Option V), m = ws.length + (rs.length - n) ∧ σ = [some v, some (.int h), some (.ref F1), some (.ref W1), v4, v5] ∧ RI rs h S n ws (fun _ => False) ∧ H' F1 = some (SetO w F1 S n) ∧ H' W1 = some (.lst (ws.map V.int)) ∧ Same H H' ∧ ws.length + (rs.length - n) ≤ rs.length + 1,
      ⟨_, _, 0, [h], none, none, rfl, rfl, RI.start rs h, by rw [upd_ne nFW, upd_same], upd_same, Same.put (Same.new hF) hW0, by simp; omega⟩, ?_⟩
    rintro _ σ H1 ⟨S, n_, ws, v4, v5, rfl, rfl, R, f1, w1, sm, mb⟩
    walk_at "rd"
    refine ⟨_, .inl ⟨_, SqL.of w1, rfl⟩, ?_⟩
    rcases List.eq_nil_or_concat ws with e | ⟨pre, z, e⟩
    · subst e
      rw [if_neg (by simp)]
      exact ⟨S, n_, v4, v5, ⟨rfl, rfl⟩, R, f1, sm⟩
    · rw [List.concat_eq_append] at e
      subst e
      obtain ⟨R1, hz⟩ := R.pop
      have mlen : (pre ++ [z]).length = pre.length + 1 := by simp
      rw [mlen] at mb
      rw [if_pos (by simp), mlen]
      refine ⟨fun σ' H' => ∃ (S : Int → Bool) (n : Nat) (ws : List Int) (v4 v5 : Option V), ws.length + (rs.length - n) < pre.length + 1 + (rs.length - n_) ∧ σ' = [some v, some (.int h), some (.ref F1), some (.ref W1), v4, v5] ∧ RI rs h S n ws (fun _ => False) ∧ H' F1 = some (SetO w F1 S n) ∧ H' W1 = some (.lst (ws.map V.int)) ∧ Same H H' ∧ ws.length + (rs.length - n) ≤ rs.length + 1,
        fun σ' H' ⟨S', n', ws', v4', v5', h1, h2, h3⟩ => ⟨_, h1, S', n', ws', rfl, v4', v5', h2, h3⟩, .inl ⟨rfl, _, SqL.of w1⟩, _, w1, .int z, by simp, ?_⟩
      have ed : ((pre ++ [z]).map V.int).dropLast = pre.map V.int := by rw [List.map_append, List.map_cons, List.map_nil, List.dropLast_concat]
      rw [ed]
      have sm1 : Same H (upd H1 W1 (.lst (pre.map V.int))) := Same.put sm hW0
      refine ⟨v, rfl, _, rfl, v, z, tops, rs, rfl, hn.m (TK.of sm1), hd, by omega, fun b H2 s2 hb => ?_⟩
      have f2 : H2 F1 = some (SetO w F1 S n_) := s2 _ _ (by rw [upd_ne nFW]; exact f1)
      have w2 : H2 W1 = some (.lst (pre.map V.int)) := s2 _ _ upd_same
      have nbW : b ≠ W1 := fun e => by rw [e, w2] at hb; cases hb
      have nbF : b ≠ F1 := fun e => by rw [e, f2] at hb; cases hb
      refine ⟨b, rfl, ⟨_, SqT.of hb⟩, for_tup (K := K) (a := b) (xs := (ofN (hears rs z)).map V.int) (fun i σ H' => ∃ (S : Int → Bool) (n : Nat) (ws : List Int) (v5 : Option V), σ = [some v, some (.int h), some (.ref F1), some (.ref W1), some (.int z), v5] ∧ RI rs h S n ws (fun m => m = z) ∧ (z = h ∨ S z = true) ∧
        (∀ o ∈ (hears rs z).take i, S (o : Nat) = true) ∧ H' F1 = some (SetO w F1 S n) ∧ H' W1 = some (.lst (ws.map V.int)) ∧ H' b = some (.tup ((ofN (hears rs z)).map V.int)) ∧ Same H H' ∧ ws.length + (rs.length - n) = pre.length + (rs.length - n_)) ⟨S, n_, pre, v5, rfl, R1, hz, by simp, f2, w2, hb, sm1.trans s2, rfl⟩
        (fun i σ H' _ ⟨_, _, _, _, _, _, _, _, _, _, e, _⟩ => SqT.of e) ?_ ?_⟩
      · rintro i x σ H3 hi ⟨S3, n3, ws3, v53, rfl, R3, hz3, pt3, f3, w3, b3, sm3, m3⟩
        obtain ⟨o, ho, rfl⟩ : ∃ o, (hears rs z)[i]? = some o ∧ x = .int (o : Nat) := by
          unfold ofN at hi
          rw [List.map_map, List.getElem?_map] at hi
          obtain ⟨o, e1, e2⟩ := Option.map_eq_some_iff.mp hi
          exact ⟨o, e1, e2.symm⟩
        have eo : ear rs o z = true := mem_hears.mp (List.mem_of_getElem? ho)
        have tk1 : (hears rs z).take (i + 1) = (hears rs z).take i ++ [o] := by rw [List.take_add_one, ho, Option.toList_some]
        walk_at "rd"
        refine ⟨_, _, f3, ?_⟩
        cases hS : S3 (o : Nat) with
        | true =>
          refine iteF ⟨S3, n3, ws3, R3, hz3, fun o' ho' => ?_, f3, w3, b3, sm3, m3⟩
          rw [tk1] at ho'
          rcases List.mem_append.mp ho' with y | y
          · exact pt3 o' y
          · rw [List.mem_singleton.mp y]; exact hS
        | false =>
          obtain ⟨R4, n4⟩ := R3.add hz3 eo hS
          have sb : n3 + 1 < scanBound := by unfold scanBound; omega
          have w4 : ∀ o', upd H3 F1 o' W1 = some (.lst (ws3.map V.int)) := fun o' => by rw [upd_ne nFW.symm]; exact w3
          refine iteT ⟨⟨S3, n3, f3⟩, S3, n3, f3, sb, .inl ⟨rfl, _, SqL.of (w4 _)⟩, _, w4 _, ?_, fun j => S3 j || decide (j = (o : Int)), n3 + 1, ws3 ++ [(o : Int)], R4, ?_, fun o' ho' => ?_, ?_, ?_, ?_, Same.put (Same.put sm3 hF) hW0, ?_⟩
          · rw [List.length_map]; omega
          · rcases hz3 with y | y
            · exact .inl y
            · exact .inr (by show (S3 z || _) = true; rw [y]; rfl)
          · rw [tk1] at ho'
            rcases List.mem_append.mp ho' with y | y
            · show (S3 (o' : Nat) || _) = true
              rw [pt3 o' y]; rfl
            · rw [List.mem_singleton.mp y]; simp
          · rw [upd_ne nFW, upd_same, if_neg (by rw [hS]; decide)]
          · rw [upd_same, List.map_append]; rfl
          · rw [upd_ne nbW, upd_ne nbF]; exact b3
          · rw [List.length_append, List.length_singleton]; omega
      · rintro σ H3 ⟨S3, n3, ws3, v53, rfl, R3, hz3, pt3, f3, w3, b3, sm3, m3⟩
        have le : ((ofN (hears rs z)).map V.int).length = (hears rs z).length := by simp [ofN]
        rw [le, List.take_length] at pt3
        exact ⟨S3, n3, ws3, _, _, by omega, rfl, R3.next fun o e => pt3 o (mem_hears.mpr e), f3, w3, sm3, by omega⟩
  · rintro σ H1 ⟨S, n, v4, v5, rfl, R, f1, sm⟩
    walk_at "rd"
    refine ⟨S, n, f1, by have := cntS_le rs.length S; have := R.cnt; omega, fun ns p pw mem ln hp => ⟨_, SqL.of upd_same, fun b hb => ?_⟩⟩
    obtain ⟨ms, rfl⟩ := nats_of (ns := ns) fun k hk => by
      obtain ⟨o, e, _⟩ := R.sub k ((mem k).mp hk)
      exact ⟨o, e⟩
    refine q b ms _ (Same.new1 (Same.new1 sm hp) hb) upd_same (ofN_lt pw) fun o => ?_
    rw [← ofN_mem, mem]
    constructor
    · intro e
      obtain ⟨o', e1, r⟩ := R.sub _ e
      have : o = o' := by omega
      rw [this]; exact r
    · exact R.done o
end
end K04
set_option linter.all false
set_option maxRecDepth 100000
set_option maxHeartbeats 4000000
namespace K04
open PySem PySem.Spec PyProof.Rows L2 NB
local macro_rules | `(tactic| walk_at "rd") => `(tactic| simp only [cxK, iRngV, cxW, TruV, iEnumT, rSIn, rSNotIn, rSAdd, tSAdd, rSet0, rSortedSet, rCat, rSorted, rIn, rSlT, rCatA, Bool.false_eq_true, tCallK0, gLst, iRng1, tIf, tChain, tAug, ipI, rSlS, tThru, iRng1, iRng2, iEnumS, iStr, tPar, tPar3, gTup, gNil, gCons, tRetN, tCall, tLc, iList, iTup, tRevL, tSl, tNoPart, tPart, rSlL, tYes, L2.start, List.map_cons, List.map_nil, List.length_cons, List.length_nil, List.replicate_succ, List.replicate_zero, Nat.reduceAdd, Nat.reduceSub, List.cons_append, List.nil_append, wipe, List.foldl_cons, List.foldl_nil, tAnd, tOr, tNot, tTest, tB, tOp, tUn, tVar, tC, tCB, tCons, tNil, tLst, tTup, tSeq, tNext, tAsg, tIfS, tRet, tDrop, gName, gSub, tBM0, tBM, rI, rI0, rU, rIxL, rIxT, rIxS, ↓reduceIte, rNeD, rEqD, rEq, rNe, rPop, rAppend, rSetL,
  List.getElem?_cons_zero, List.getElem?_cons_succ, List.set_cons_zero, List.set_cons_succ, Option.some.injEq, V.ref.injEq, V.int.injEq, V.bl.injEq, V.str.injEq, List.cons.injEq, exists_eq_left, exists_eq_left', exists_and_left, reduceCtorEq, false_and, and_false, exists_false, or_false, false_or, and_true, true_and])
/-- the lots as they are told: each once, by its first house -/
structure KnotsOf (rs : List Rl) (N : Nat) (ls : List (List Nat)) : Prop where
  lot : ∀ l ∈ ls, ∃ h t, l = h :: t ∧ Lot rs N h l
  heads : (ls.map fun l => l.headD 0).Pairwise (· < ·)
  all : ∀ h, h < N → ∃ l ∈ ls, h ∈ l
/-- .. those of the houses below i -/
structure KTo (rs : List Rl) (N i : Nat) (ls : List (List Nat)) : Prop where
  len : ls.length ≤ i
  lot : ∀ l ∈ ls, ∃ h t, h < i ∧ l = h :: t ∧ Lot rs N h l
  heads : (ls.map fun l => l.headD 0).Pairwise (· < ·)
  all : ∀ h, h < i → (∀ o, o < N → Mate rs h o → h ≤ o) → ∃ l ∈ ls, Lot rs N h l
theorem KTo.start (rs : List Rl) (N : Nat) : KTo rs N 0 [] := ⟨Nat.zero_le _, by simp, by simp, by intro h hh; omega⟩
theorem KTo.yes {rs : List Rl} {N i : Nat} {ls : List (List Nat)} (k : KTo rs N i ls) {t : List Nat} (l : Lot rs N i (i :: t)) : KTo rs N (i + 1) (ls ++ [i :: t]) := by
  refine ⟨by have := k.len; rw [List.length_append, List.length_singleton]; omega, fun x hx => ?_, ?_, fun h hh hm => ?_⟩
  · rcases List.mem_append.mp hx with q | q
    · obtain ⟨h, t', h1, h2⟩ := k.lot x q
      exact ⟨h, t', by omega, h2⟩
    · exact ⟨i, t, by omega, List.mem_singleton.mp q, by rw [List.mem_singleton.mp q]; exact l⟩
  · rw [List.map_append, List.pairwise_append]
    refine ⟨k.heads, List.pairwise_singleton _ _, fun a ha b hb => ?_⟩
    obtain ⟨x, hx, rfl⟩ := List.mem_map.mp ha
    obtain ⟨h, t', h1, rfl, _⟩ := k.lot x hx
    rw [List.mem_singleton.mp hb]
    exact h1
  · rcases Nat.lt_or_ge h i with c | c
    · obtain ⟨x, hx, lx⟩ := k.all h c hm
      exact ⟨x, List.mem_append_left _ hx, lx⟩
    · obtain rfl : h = i := by omega
      exact ⟨_, List.mem_append_right _ (List.mem_singleton.mpr rfl), l⟩
theorem KTo.no {rs : List Rl} {N i h0 : Nat} {ls : List (List Nat)} (k : KTo rs N i ls) {t : List Nat} (l : Lot rs N i (h0 :: t)) (iN : i < N) (ne : h0 ≠ i) : KTo rs N (i + 1) ls := by
  refine ⟨by have := k.len; omega, fun x hx => ?_, k.heads, fun h hh hm => ?_⟩
  · obtain ⟨h, t', h1, h2⟩ := k.lot x hx
    exact ⟨h, t', by omega, h2⟩
  · rcases Nat.lt_or_ge h i with c | c
    · exact k.all h c hm
    · obtain rfl : h = i := by omega
      exfalso
      have m0 := (l.mem h0).mp List.mem_cons_self
      have q1 := hm h0 m0.1 m0.2
      have mi : h ∈ h0 :: t := (l.mem h).mpr ⟨iN, Mate.refl h⟩
      rcases List.mem_cons.mp mi with z | z
      · exact ne z.symm
      · have := (List.pairwise_cons.mp l.srt).1 h z
        omega
theorem least_mate {rs : List Rl} {N : Nat} : ∀ (n h : Nat), h ≤ n → h < N → ∃ m, m < N ∧ Mate rs h m ∧ ∀ o, o < N → Mate rs m o → m ≤ o := by
  intro n
  induction n with
  | zero => intro h h0 hN; exact ⟨h, hN, Mate.refl h, fun o _ _ => by omega⟩
  | succ n ih =>
    intro h h0 hN
    rcases Classical.em (∃ o, o < h ∧ Mate rs h o) with ⟨o, o1, o2⟩ | c
    · obtain ⟨m, m1, m2, m3⟩ := ih o (by omega) (by omega)
      exact ⟨m, m1, o2.trans m2, m3⟩
    · refine ⟨h, hN, Mate.refl h, fun o _ mo => ?_⟩
      rcases Nat.lt_or_ge o h with z | z
      · exact absurd ⟨o, z, mo⟩ c
      · exact z
theorem KTo.done {rs : List Rl} {N : Nat} {ls : List (List Nat)} (k : KTo rs N N ls) : KnotsOf rs N ls :=
  ⟨fun l hl => by
    obtain ⟨h, t, _, e, z⟩ := k.lot l hl
    exact ⟨h, t, e, z⟩, k.heads, fun h hN => by
    obtain ⟨m, m1, m2, m3⟩ := least_mate (rs := rs) h h (Nat.le_refl _) hN
    obtain ⟨l, l1, l2⟩ := k.all m m1 m3
    exact ⟨l, l1, (l2.mem h).mpr ⟨hN, m2.symm⟩⟩⟩
/-- the rows of houses reached, as the list holds them -/
def ReachTo (rs : List Rl) (H : Hp) (i : Nat) (rl : List (Addr × List Nat)) : Prop := rl.length = i ∧ ∀ j e, rl[j]? = some e → H e.1 = some (.tup ((ofN e.2).map V.int)) ∧ ∀ o, o ∈ e.2 ↔ Rch rs (j : Nat) o
theorem ReachTo.m {rs : List Rl} {H H' : Hp} {i : Nat} {rl : List (Addr × List Nat)} (h : ReachTo rs H i rl) (k : TK H H') : ReachTo rs H' i rl :=
  ⟨h.1, fun j e he => ⟨k _ _ (h.2 j e he).1, (h.2 j e he).2⟩⟩
def spKnots : Sp := fun vs H Q _ => ∃ (v : V) (tops : List Int) (rs : List Rl), vs = [v] ∧ NetAt H v tops rs ∧ (∀ r ∈ rs, r.dep ≤ 3 ∧ r.cnt ≤ 100000) ∧ rs.length ≤ 50 ∧ tops.length = rs.length ∧
  ∀ (b : Addr) (es : List (Addr × List Nat)) (H' : Hp), Same H H' → H' b = some (.tup (es.map fun e => V.ref e.1)) → (∀ e ∈ es, H' e.1 = some (.tup ((ofN e.2).map V.int))) → KnotsOf rs rs.length (es.map (·.2)) → Q (.ref b) H'
section
variable {P : Program} {w : World} {K : PySem.W.Frag} {mg : Str → Option Value} {base : Heap}
abbrev s_knots : Stmt := topS 9
theorem sc_knots : FnScope ["net", "houses", "house", "reach", "lots", "other", "lot"] ["net"] (defScope s_knots) := ⟨rfl, rfl, rfl, by decide +kernel, rfl, by decide +kernel, by decide +kernel⟩
theorem ok_knots {f fB : Addr} {fd fdB : FuncData} (F : Fun K "knots" "knots" s_knots f fd) (FB : FnOk P w K mg base CX0 7 fB fdB ["net", "house"] spReach) (gB : mg "reached" = some (.ref fB)) (kB : PySem.W.keepIn K (.ref fB) = true)
    (bB : Binds K fdB ["net", "house"] []) (mT : mg "tuple" = none) (mR : mg "range" = none) (mL : mg "len" = none) : FnOk P w K mg base CX0 8 f fd ["net"] spKnots := by
  refine F.ok sc_knots (fun vs H Q E h => ?_) (fun cdv A outer s H vs Q E hr h => ?_)
  · obtain ⟨_, _, _, rfl, _⟩ := h
    rfl
  obtain ⟨v, tops, rs, rfl, hn, hd, hl, hs, q⟩ := h
  refine ⟨_, (pss_cons (ps_set (i := 1) sc_knots.nd rfl (by first | exact Or.inl rfl | exact Or.inr rfl) (pe_callTy cr_range1 (by rfl) mR boot_range (pa_cons (pe_callB call_len_seq (by rfl) mL PySem.boot_len (pa_cons (pe_ix ix_tup (pv 0) pe_int (fun _ _ => rfl)) pa_nil)) pa_nil)))
  (pss_cons (ps_set (i := 3) sc_knots.nd rfl (by first | exact Or.inl rfl | exact Or.inr rfl) (pe_lc (own := [("house", 2)]) (g := gName 2) rfl sc_knots.nd (pi_rngV (pv 1)) (blkOk_by (N := ["net", "houses", "house", "reach", "lots", "other", "lot"]) (sc := defScope s_knots) (by decide +kernel)) (fun _ _ _ _ _ => pg_name (i := 2) sc_knots.nd rfl (Or.inl rfl)) (fun _ _ _ _ _ => pts_nil) (fun _ _ _ _ _ => (pe_call FB hr rfl gB kB bB .nil pass0 (pa_cons (pv 0) (pa_cons (pv 2) pa_nil))))))
  (pss_cons (ps_set (i := 4) sc_knots.nd rfl (by first | exact Or.inl rfl | exact Or.inr rfl) (pe_lst pa_nil))
  (pss_cons (ps_for PassesOwn.never rfl (pi_rngV (pv 1)) (pg_name (i := 2) sc_knots.nd rfl (by first | exact Or.inl rfl | exact Or.inr rfl))
    (pss_cons (ps_setLc (i := 6) (own := [("other", 5)]) (g := gName 5) (tt := tOr (tTest (tOp rEq (tVar 5) (tVar 2))) (tAnd (tTest (tOp (rIn K false) (tVar 5) (tOp (rIxL K) (tVar 3) (tVar 2)))) (tTest (tOp (rIn K false) (tVar 2) (tOp (rIxL K) (tVar 3) (tVar 5)))))) rfl sc_knots.nd rfl rfl (sw_true rfl rfl rfl (by decide +kernel)) (pi_rngV (pv 1)) (blkOk_by (N := ["net", "houses", "house", "reach", "lots", "other", "lot"]) (sc := defScope s_knots) (by decide +kernel)) (fun _ _ _ _ _ => pg_name (i := 5) sc_knots.nd rfl (Or.inl rfl)) (fun _ _ _ _ _ => (pts_one (PW.pt (pw_or (pt_cmpR op_eq (pv 5) (pv 2) (nomark _)) (pw_or1 (PW.pt (pw_and (pt_cmpR op_in_seq (pv 5) (pe_ix ix_list (pv 3) (pv 2) (fun _ _ => rfl)) (by rfl)) (pw_and1 (pt_cmpR op_in_seq (pv 2) (pe_ix ix_list (pv 3) (pv 5) (fun _ _ => rfl)) (by rfl)))))))))) (fun _ _ _ _ _ => (pv 5)))
    (pss_one (ps_if (pt_cmpR op_eq (pe_ix ix_list (pv 6) pe_int (fun _ _ => rfl)) (pv 2) (nomark _)) (pss_one (ps_expr (pe_bm PySem.F.plainAttrs_list PySem.F.slot_list_append PySem.F.type_list_append mt_append (pv 4) (pa_cons (pe_callTy call_tupleL (by rfl) mT boot_tuple (pa_cons (pv 6) pa_nil)) pa_nil))))
      pss_nil))))
  (pss_one (ps_ret (pe_callTy call_tupleL (by rfl) mT boot_tuple (pa_cons (pv 4) pa_nil)))))))), ?_⟩
  obtain ⟨a, t, p, vs, rfl, h1, h2, h3, h4⟩ := hn.ex
  walk_at "rd"
  have szl : 500000 < sizeLine := by rw [sizeLine_eq]; decide
  have lt : ((tops.map V.int).length : Nat) = rs.length := by rw [List.length_map, hs]
  refine ⟨_, SqT.of h1, _, atI0, _, rfl, _, .inr (SqT.of h2), fun R1 hR => ⟨rs.length, by rw [upd_same, lt], by omega, fun D hD => ?_⟩⟩
  rw [lt] at hD ⊢
  have nRD : R1 ≠ D := fun e => by rw [← e, upd_same] at hD; cases hD
  have hD0 : H D = none := by rw [upd_ne nRD.symm] at hD; exact hD
  refine lcR (lo := 0) (n := rs.length) (fun i H' => ∃ rl, ReachTo rs H' i rl ∧ H' D = some (.lst (rl.map fun e => V.ref e.1)) ∧ H' R1 = some (.rng 0 (rs.length : Int)) ∧ Same H H') ⟨[], ⟨rfl, by simp⟩, upd_same, by rw [upd_ne nRD, upd_same], Same.put (Same.new hR) hD0⟩ ?_ ?_
  · rintro i H1 hi ⟨rl, RT, d1, r1, sm⟩
    refine ⟨_, _, tops, rs, rfl, hn.m (TK.of sm), hd, hl, fun b ns H2 s2 hb pw hm => ⟨_, s2 _ _ d1, by rw [List.length_map, RT.1]; omega, rl ++ [(b, ns)], ?_, by rw [upd_same, List.map_append]; rfl, by rw [upd_ne nRD]; exact s2 _ _ r1, Same.put (sm.trans s2) hD0⟩⟩
    have tk : TK H2 (upd H2 D (.lst (List.map (fun e => V.ref e.1) rl ++ [V.ref b]))) := TK.put (s2 _ _ d1) (fun _ => by simp)
    refine ⟨by rw [List.length_append, RT.1]; rfl, fun j e he => ?_⟩
    rw [List.getElem?_append] at he
    split at he
    · obtain ⟨q1, q2⟩ := RT.2 j e he
      exact ⟨tk _ _ (s2 _ _ q1), q2⟩
    · rename_i c
      have c' : j = i := by
        have z1 := (List.getElem?_eq_some_iff.mp he).1
        have z2 := RT.1
        rw [List.length_singleton] at z1
        omega
      subst c'
      rw [RT.1, Nat.sub_self] at he
      obtain rfl := Option.some.inj he
      refine ⟨tk _ _ hb, fun o => ?_⟩
      rw [hm]
      simp
  · rintro H1 ⟨rl, RT, d1, r1, sm⟩
    refine ⟨by omega, fun L4 hL => ?_⟩
    have nLD : L4 ≠ D := fun e => by rw [e, d1] at hL; cases hL
    have nLR : L4 ≠ R1 := fun e => by rw [e, r1] at hL; cases hL
    have hL0 : H L4 = none := by
      cases e : H L4 with
      | none => rfl
      | some o => rw [sm _ _ e] at hL; cases hL
    refine ⟨_, rfl, R1, rs.length, rfl, by rw [upd_ne nLR.symm]; exact r1, by omega, for_range (lo := 0) (n := rs.length) (fun i σ H2 => ∃ (es : List (Addr × List Nat)) (v2 v5 v6 : Option V), σ = [some (.ref a), some (.ref R1), v2, some (.ref D), some (.ref L4), v5, v6] ∧ Same H H2 ∧ ReachTo rs H2 rs.length rl ∧ H2 D = some (.lst (rl.map fun e => V.ref e.1)) ∧ H2 R1 = some (.rng 0 (rs.length : Int)) ∧
      H2 L4 = some (.lst (es.map fun e => V.ref e.1)) ∧ (∀ e ∈ es, H2 e.1 = some (.tup ((ofN e.2).map V.int))) ∧ KTo rs rs.length i (es.map (·.2)))
      ⟨[], none, none, none, rfl, Same.put sm hL0, RT.m (TK.new hL), by rw [upd_ne nLD.symm]; exact d1, by rw [upd_ne nLR.symm]; exact r1, upd_same, by simp, KTo.start _ _⟩ ?_ ?_⟩
    · rintro i σ H2 hi ⟨es, v2, v5, v6, rfl, sm2, RT2, d2, r2, l2, t2, K2⟩
      walk_at "rd"
      simp only [Int.zero_add]
      refine ⟨rs.length, r2, by omega, fun LD hLD => ?_⟩
      have row : ∀ j : Nat, j < rs.length → ∃ e, rl[j]? = some e ∧ H2 e.1 = some (.tup ((ofN e.2).map V.int)) ∧ (∀ o, o ∈ e.2 ↔ Rch rs (j : Nat) o) := fun j hj => by
        have e1 : rl[j]? = some (rl[j]'(by rw [RT2.1]; exact hj)) := List.getElem?_eq_getElem _
        exact ⟨_, e1, (RT2.2 j _ e1).1, (RT2.2 j _ e1).2⟩
      have rowAt : ∀ (j : Nat) e, rl[j]? = some e → atI (rl.map fun e => V.ref e.1) (j : Nat) = some (V.ref e.1) := fun j e he => atI_nat (by rw [List.getElem?_map, he]; rfl)
      refine lcR (lo := 0) (n := rs.length) (fun j H' => ∃ acc : List Nat, H' LD = some (.lst ((ofN acc).map V.int)) ∧ acc.Pairwise (· < ·) ∧ (∀ o, o ∈ acc ↔ o < j ∧ Mate rs i o) ∧ acc.length ≤ j ∧ Same H2 H') ⟨[], upd_same, .nil, by simp, Nat.le_refl _, Same.new hLD⟩ ?_ ?_
      · rintro j H3 hj ⟨acc, a1, a2, a3, a4, a5⟩
        simp only [Int.zero_add]
        have yes : Mate rs i j → ∃ acc_1, H3 LD = some (HO.lst acc_1) ∧ acc_1.length < sizeLine ∧ ∃ acc : List Nat, upd H3 LD (.lst (acc_1 ++ [V.int (j : Nat)])) LD = some (.lst ((ofN acc).map V.int)) ∧ acc.Pairwise (· < ·) ∧ (∀ o, o ∈ acc ↔ o < j + 1 ∧ Mate rs i o) ∧ acc.length ≤ j + 1 ∧ Same H2 (upd H3 LD (.lst (acc_1 ++ [V.int (j : Nat)]))) := fun m => by
          refine ⟨_, a1, by simp only [List.length_map, ofN]; omega, acc ++ [j], by rw [upd_same]; simp only [ofN, List.map_append, List.map_cons, List.map_nil], ?_, fun o => ?_, by rw [List.length_append, List.length_singleton]; omega, Same.put a5 hLD⟩
          · rw [List.pairwise_append]
            refine ⟨a2, List.pairwise_singleton _ _, fun x hx y hy => ?_⟩
            rw [List.mem_singleton.mp hy]
            exact ((a3 x).mp hx).1
          · rw [List.mem_append, List.mem_singleton, a3]
            constructor
            · rintro (⟨q1, q2⟩ | rfl)
              · exact ⟨by omega, q2⟩
              · exact ⟨by omega, m⟩
            · rintro ⟨q1, q2⟩
              rcases Nat.lt_or_ge o j with c | c
              · exact .inl ⟨c, q2⟩
              · exact .inr (by omega)
        have no : ¬ Mate rs i j → ∃ acc : List Nat, H3 LD = some (.lst ((ofN acc).map V.int)) ∧ acc.Pairwise (· < ·) ∧ (∀ o, o ∈ acc ↔ o < j + 1 ∧ Mate rs i o) ∧ acc.length ≤ j + 1 ∧ Same H2 H3 := fun m => by
          refine ⟨acc, a1, a2, fun o => ?_, by omega, a5⟩
          rw [a3]
          constructor
          · rintro ⟨q1, q2⟩; exact ⟨by omega, q2⟩
          · rintro ⟨q1, q2⟩
            rcases Nat.lt_or_ge o j with c | c
            · exact ⟨c, q2⟩
            · obtain rfl : o = j := by omega
              exact absurd q2 m
        refine ⟨rfl, ite2 (fun c => ?_) (fun c => ?_)⟩
        · have : j = i := by
            have := of_decide_eq_true c
            injection this with this
            omega
          exact yes (.inl this)
        · have ne : j ≠ i := fun e => c (by rw [e]; simp)
          obtain ⟨e1, f1, f2, f3⟩ := row i hi
          obtain ⟨e2, g1, g2, g3⟩ := row j hj
          refine ⟨_, SqL.of (a5 _ _ d2), _, rowAt i e1 f1, _, rfl, _, .inr (SqT.of (a5 _ _ f2)), rfl, flat_ints _, ?_⟩
          rw [inV_int]
          refine ite2 (fun c1 => ?_) (fun c1 => ?_)
          · have c1' := (f3 j).mp (ofN_mem.mp (of_decide_eq_true c1))
            refine ⟨_, _, rfl, SqL.of (a5 _ _ d2), _, rowAt j e2 g1, _, rfl, _, .inr (SqT.of (a5 _ _ g2)), rfl, flat_ints _, ?_⟩
            rw [inV_int]
            refine ite2 (fun c2 => ?_) (fun c2 => ?_)
            · exact yes (.inr ⟨c1', (g3 i).mp (ofN_mem.mp (of_decide_eq_true c2))⟩)
            · refine no fun m => ?_
              rcases m with m | ⟨_, m⟩
              · exact ne m
              · exact c2 (decide_eq_true (ofN_mem.mpr ((g3 i).mpr m)))
          · refine no fun m => ?_
            rcases m with m | ⟨m, _⟩
            · exact ne m
            · exact c1 (decide_eq_true (ofN_mem.mpr ((f3 j).mpr m)))
      · rintro H3 ⟨acc, a1, a2, a3, a4, a5⟩
        have lot : Lot rs rs.length i acc := ⟨a2, a3⟩
        cases acc with
        | nil =>
          have := (a3 i).mpr ⟨hi, Mate.refl i⟩
          cases this
        | cons h0 tl =>
          have l3 := a5 _ _ l2
          refine ⟨_, SqL.of a1, _, atI0, rfl, ite2 (fun c => ?_) (fun c => ?_)⟩
          · obtain rfl : h0 = i := by
              have this := of_decide_eq_true c
              injection this with this
              have this : (h0 : Int) = (i : Int) := this
              omega
            refine ⟨.inl ⟨rfl, _, SqL.of l3⟩, _, SqL.of a1, fun l hl => ?_⟩
            have nlL : L4 ≠ l := fun e => by rw [e, hl] at l3; cases l3
            have l4 : upd H3 l (.tup ((ofN (h0 :: tl)).map V.int)) L4 = some (.lst (es.map fun e => V.ref e.1)) := by rw [upd_ne nlL]; exact l3
            have el : es.length ≤ h0 := by have := K2.len; rwa [List.length_map] at this
            have sm3 : Same H (upd H3 l (.tup ((ofN (h0 :: tl)).map V.int))) := Same.new1 (sm2.trans a5) hl
            have tk : TK H2 (upd (upd H3 l (.tup ((ofN (h0 :: tl)).map V.int))) L4 (.lst ((es.map fun e => V.ref e.1) ++ [V.ref l]))) := ((TK.of a5).trans (TK.new hl)).trans (TK.put l4 (fun _ => by simp))
            refine ⟨_, l4, by rw [List.length_map]; omega, es ++ [(l, h0 :: tl)], _, _, _, ⟨rfl, rfl, rfl⟩, Same.put sm3 hL0, RT2.m tk, ?_, ?_, ?_, ?_, ?_⟩
            · rw [upd_ne nLD.symm, upd_ne (ne_of_none (a5 _ _ d2) hl)]; exact a5 _ _ d2
            · rw [upd_ne nLR.symm, upd_ne (ne_of_none (a5 _ _ r2) hl)]; exact a5 _ _ r2
            · rw [upd_same, List.map_append]; rfl
            · intro e he
              rcases List.mem_append.mp he with z | z
              · exact tk _ _ (t2 e z)
              · rw [List.mem_singleton.mp z]
                rw [upd_ne nlL.symm, upd_same]
            · rw [List.map_append]
              exact K2.yes lot
          · have ne : h0 ≠ i := fun e => c (by rw [e]; simp [ofN])
            exact ⟨es, _, _, _, ⟨rfl, rfl, rfl⟩, sm2.trans a5, RT2.m (TK.of a5), a5 _ _ d2, a5 _ _ r2, l3, fun e he => a5 _ _ (t2 e he), K2.no lot hi ne⟩
    · rintro σ H2 ⟨es, v2, v5, v6, rfl, sm2, RT2, d2, r2, l2, t2, K2⟩
      walk_at "rd"
      refine ⟨_, SqL.of l2, fun b hb => ?_⟩
      exact q b es _ (Same.new1 sm2 hb) upd_same (fun e he => TK.new hb _ _ (t2 e he)) K2.done
end
end K04
set_option linter.all false
set_option maxRecDepth 100000
set_option maxHeartbeats 4000000
namespace K04
open PySem PySem.Spec PyProof.Rows L2 NB
local macro_rules | `(tactic| walk_at "rd") => `(tactic| simp only [cxK, rSetOfT, rSortedL, rSum, tAndV, tOrV, iRngV, cxW, TruV, iEnumT, rSIn, rSNotIn, rSAdd, tSAdd, rSet0, rSortedSet, rCat, rSorted, rIn, rSlT, rCatA, Bool.false_eq_true, tCallK0, gLst, iRng1, tIf, tChain, tAug, ipI, rSlS, tThru, iRng1, iRng2, iEnumS, iStr, tPar, tPar3, gTup, gNil, gCons, tRetN, tCall, tLc, iList, iTup, tRevL, tSl, tNoPart, tPart, rSlL, tYes, L2.start, List.map_cons, List.map_nil, List.length_cons, List.length_nil, List.replicate_succ, List.replicate_zero, Nat.reduceAdd, Nat.reduceSub, List.cons_append, List.nil_append, wipe, List.foldl_cons, List.foldl_nil, tAnd, tOr, tNot, tTest, tB, tOp, tUn, tVar, tC, tCB, tCons, tNil, tLst, tTup, tSeq, tNext, tAsg, tIfS, tRet, tDrop, gName, gSub, tBM0, tBM, rI, rI0, rU, rIxL, rIxT, rIxS, ↓reduceIte, rNeD, rEqD, rEq, rNe, rPop, rAppend, rSetL,
  List.getElem?_cons_zero, List.getElem?_cons_succ, List.set_cons_zero, List.set_cons_succ, Option.some.injEq, V.ref.injEq, V.int.injEq, V.bl.injEq, V.str.injEq, List.cons.injEq, exists_eq_left, exists_eq_left', exists_and_left, reduceCtorEq, false_and, and_false, exists_false, or_false, false_or, and_true, true_and])
theorem KnotsOf.nodup {rs : List Rl} {N : Nat} {ls : List (List Nat)} (k : KnotsOf rs N ls) : ls.flatten.Nodup := by
  unfold List.Nodup
  rw [List.pairwise_flatten]
  refine ⟨fun l hl => ?_, ?_⟩
  · obtain ⟨h, t, _, lo⟩ := k.lot l hl
    exact lo.srt.imp fun q => by omega
  · have q := List.pairwise_map.mp k.heads
    refine List.Pairwise.imp_of_mem (fun {l1 l2} h1 h2 hlt => ?_) q
    intro x hx y hy e
    subst e
    obtain ⟨a, t1, e1, lo1⟩ := k.lot l1 h1
    obtain ⟨b, t2, e2, lo2⟩ := k.lot l2 h2
    have m1 := ((lo1.mem x).mp hx).2
    have m2 := ((lo2.mem x).mp hy).2
    have := lo1.same lo2 (m1.trans m2.symm)
    rw [this] at hlt
    omega
theorem KnotsOf.flat {rs : List Rl} {N : Nat} {ls : List (List Nat)} (k : KnotsOf rs N ls) : ls.flatten.length = N := by
  have p : ls.flatten.Perm (List.range N) := (List.perm_ext_iff_of_nodup k.nodup List.nodup_range).mpr fun o => by
    rw [List.mem_flatten, List.mem_range]
    constructor
    · rintro ⟨l, hl, ho⟩
      obtain ⟨h, t, _, lo⟩ := k.lot l hl
      exact ((lo.mem o).mp ho).1
    · exact k.all o
  rw [p.length_eq, List.length_range]
theorem sum_len : ∀ ls : List (List Nat), (ls.map fun l => ((l.length : Nat) : Int)).sum = (ls.flatten.length : Nat)
  | [] => rfl
  | l :: ls => by
    rw [List.map_cons, List.sum_cons, sum_len ls, List.flatten_cons, List.length_append]
    omega
/-- the lots of all houses, each once and in order, are those that are told -/
theorem KnotsOf.eq {rs : List Rl} {N : Nat} {ls ms : List (List Nat)} (k : KnotsOf rs N ls) (hs : (ms.map fun l => l.headD 0).Pairwise (· ≤ ·)) (nd : ms.Nodup) (hm : ∀ l, l ∈ ms ↔ ∃ h, h < N ∧ Lot rs N h l) : ls = ms := by
  have inj : ∀ l ∈ ms, ∀ l' ∈ ms, l.headD 0 = l'.headD 0 → l = l' := fun l hl l' hl' e => by
    obtain ⟨h, hN, lo⟩ := (hm l).mp hl
    obtain ⟨h', hN', lo'⟩ := (hm l').mp hl'
    cases l with
    | nil => have := (lo.mem h).mpr ⟨hN, Mate.refl h⟩; cases this
    | cons x t =>
      cases l' with
      | nil => have := (lo'.mem h').mpr ⟨hN', Mate.refl h'⟩; cases this
      | cons y t' =>
        obtain rfl : x = y := e
        have m1 := ((lo.mem x).mp List.mem_cons_self).2
        have m2 := ((lo'.mem x).mp List.mem_cons_self).2
        exact lo.same lo' (m1.trans m2.symm)
  refine keys_ext (f := fun l : List Nat => l.headD 0) k.heads ?_ fun l => ?_
  · rw [List.pairwise_map] at hs ⊢
    refine List.Pairwise.imp_of_mem (fun {a b} ha hb hab => ?_) (hs.and nd)
    have : a.headD 0 ≠ b.headD 0 := fun e => hab.2 (inj a ha b hb e)
    have := hab.1
    omega
  · rw [hm]
    constructor
    · intro hl
      obtain ⟨h, t, e, lo⟩ := k.lot l hl
      exact ⟨h, ((lo.mem h).mp (by rw [e]; exact List.mem_cons_self)).1, lo⟩
    · rintro ⟨h, hN, lo⟩
      obtain ⟨l', hl', mh⟩ := k.all h hN
      obtain ⟨h', t, e, lo'⟩ := k.lot l' hl'
      have := lo'.same lo ((lo'.mem h).mp mh).2
      rw [← this]; exact hl'
/-! ### the law's table -/
def row (N : Nat) (f : Nat → Bool) : List V := (List.range N).map fun o => V.bl (f o)
theorem row_len (N : Nat) (f : Nat → Bool) : (row N f).length = N := by unfold row; rw [List.length_map, List.length_range]
theorem row_at {N o : Nat} (f : Nat → Bool) (h : o < N) : (row N f)[o]? = some (.bl (f o)) := by
  unfold row
  rw [List.getElem?_map, List.getElem?_range h]
  rfl
theorem row_succ (N : Nat) (f : Nat → Bool) : row (N + 1) f = row N f ++ [.bl (f N)] := by
  unfold row
  rw [List.range_succ, List.map_append]
  rfl
theorem row_set {N o : Nat} (f : Nat → Bool) (b : Bool) (h : o < N) : (row N f).set o (.bl b) = row N (fun o' => if o' = o then b else f o') := by
  apply List.ext_getElem?
  intro i
  rw [List.getElem?_set]
  by_cases e : o = i
  · subst e
    rw [if_pos rfl, if_pos (by rw [row_len]; exact h), row_at _ h, if_pos rfl]
  · rw [if_neg e]
    rcases Nat.lt_or_ge i N with c | c
    · rw [row_at _ c, row_at _ c, if_neg (fun z => e z.symm)]
    · rw [List.getElem?_eq_none (by rw [row_len]; exact c), List.getElem?_eq_none (by rw [row_len]; exact c)]
structure TabAt (H : Hp) (d l t : Addr) (rws : List Addr) (N : Nat) (T : Nat → Nat → Bool) : Prop where
  tb : H t = some (.lst (rws.map V.ref))
  len : rws.length = N
  nd : rws.Nodup
  rw_ : ∀ h r, rws[h]? = some r → H r = some (.lst (row N (T h))) ∧ r ≠ d ∧ r ≠ l ∧ r ≠ t
theorem TabAt.m {H H' : Hp} {d l t : Addr} {rws : List Addr} {N : Nat} {T : Nat → Nat → Bool} (x : TabAt H d l t rws N T) (s : Same H H') : TabAt H' d l t rws N T :=
  ⟨s _ _ x.tb, x.len, x.nd, fun h r e => ⟨s _ _ (x.rw_ h r e).1, (x.rw_ h r e).2⟩⟩
theorem TabAt.get {H : Hp} {d l t : Addr} {rws : List Addr} {N : Nat} {T : Nat → Nat → Bool} (x : TabAt H d l t rws N T) {h : Nat} (hh : h < N) : ∃ r, rws[h]? = some r ∧ atI (rws.map V.ref) (h : Nat) = some (.ref r) ∧ H r = some (.lst (row N (T h))) := by
  have e : rws[h]? = some (rws[h]'(by rw [x.len]; exact hh)) := List.getElem?_eq_getElem _
  exact ⟨_, e, atI_nat (by rw [List.getElem?_map, e]; rfl), (x.rw_ h _ e).1⟩
theorem atRow {N o : Nat} (f : Nat → Bool) (h : o < N) : atI (row N f) (o : Nat) = some (.bl (f o)) := atI_nat (row_at f h)
theorem TabAt.put {H : Hp} {d l t : Addr} {rws : List Addr} {N : Nat} {T : Nat → Nat → Bool} (x : TabAt H d l t rws N T) {h o : Nat} {r : Addr} (b : Bool) (hr : rws[h]? = some r) (ho : o < N) :
    TabAt (upd H r (.lst ((row N (T h)).set o (.bl b)))) d l t rws N (setT T h o b) := by
  obtain ⟨q1, q2, q3, q4⟩ := x.rw_ h r hr
  refine ⟨by rw [upd_ne q4.symm]; exact x.tb, x.len, x.nd, fun h' r' e => ?_⟩
  obtain ⟨p1, p2, p3, p4⟩ := x.rw_ h' r' e
  refine ⟨?_, p2, p3, p4⟩
  by_cases z : r' = r
  · subst z
    have i1 := (List.getElem?_eq_some_iff.mp hr)
    have i2 := (List.getElem?_eq_some_iff.mp e)
    have : h' = h := by
      obtain ⟨a1, a2⟩ := i1
      obtain ⟨b1, b2⟩ := i2
      have pw := List.pairwise_iff_getElem.mp x.nd
      rcases Nat.lt_trichotomy h' h with c | c | c
      · exact absurd (b2.trans a2.symm) (pw h' h b1 a1 c)
      · exact c
      · exact absurd (a2.trans b2.symm) (pw h h' a1 b1 c)
    subst this
    rw [upd_same, row_set _ _ ho]
    have ef : (fun o' => if o' = o then b else T h' o') = setT T h' o b h' := by
      unfold setT
      funext o'
      by_cases c : o' = o
      · simp [c]
      · simp [c]
    rw [ef]
  · rw [upd_ne z, p1]
    have : h' ≠ h := fun q => by subst q; rw [hr] at e; exact z (Option.some.inj e).symm
    have ef : T h' = setT T h o b h' := by
      unfold setT
      funext o'
      simp [this]
    rw [← ef]
theorem ofN_len (ns : List Nat) : (ofN ns).length = ns.length := by unfold ofN; rw [List.length_map]
def dataN (ns : List Nat) : PyData := .tuple ((ofN ns).map PyData.int)
theorem sh_dataN {ns : List Nat} (h : ∀ o ∈ ns, o < 1000) (hl : ns.length ≤ 1000) : Sh (dataN ns) := by
  refine shInts (fun n hn => ?_) (by rw [ofN_len]; omega)
  unfold ofN at hn
  obtain ⟨o, ho, rfl⟩ := List.mem_map.mp hn
  have := h o ho
  omega
def dataL (ls : List (List Nat)) : PyData := .tuple (ls.map dataN)
theorem wd_dataN {ns : List Nat} (hl : ns.length ≤ 50) : wd (dataN ns) ≤ 100000 := by
  unfold dataN
  simp only [wd, wdInts, ofN_len]
  omega
theorem ok_dataN {ns : List Nat} (h : ∀ o ∈ ns, o < 1000) : okd (dataN ns) := by
  unfold dataN
  simp only [okd]
  refine okInts _ fun n hn => ?_
  unfold ofN at hn
  obtain ⟨o, ho, rfl⟩ := List.mem_map.mp hn
  have := h o ho
  exact log_small (by omega) (by omega)
theorem wd_all {ls : List (List Nat)} (h : ∀ l ∈ ls, l.length ≤ 50) : wdAll (ls.map dataN) ≤ ls.length * 100002 := by
  induction ls with
  | nil => simp [wdAll]
  | cons l ls ih =>
    have h1 := wd_dataN (h l List.mem_cons_self)
    have h2 := ih fun x hx => h x (List.mem_cons_of_mem _ hx)
    simp only [List.map_cons, wdAll, List.length_cons]
    rw [Nat.add_mul]
    omega
theorem ok_all {ls : List (List Nat)} (h : ∀ l ∈ ls, ∀ o ∈ l, o < 1000) : okAll (ls.map dataN) := by
  induction ls with
  | nil => simp [okAll]
  | cons l ls ih =>
    simp only [List.map_cons, okAll]
    exact ⟨ok_dataN (h l List.mem_cons_self), ih fun x hx => h x (List.mem_cons_of_mem _ hx)⟩
theorem dep_all : ∀ ls : List (List Nat), PyData.depthAll (ls.map dataN) ≤ 1
  | [] => by simp [PyData.depthAll]
  | l :: ls => by
    have := dep_all ls
    have e : (dataN l).depth ≤ 1 := by unfold dataN; simp [PyData.depth, depInts]
    simp only [List.map_cons, PyData.depthAll]
    omega
theorem sh_dataL {ls : List (List Nat)} (h : ∀ l ∈ ls, ∀ o ∈ l, o < 1000) (h2 : ∀ l ∈ ls, l.length ≤ 50) (h3 : ls.length ≤ 50) : Sh (dataL ls) := by
  refine Sh.of ?_ ?_ ?_
  · unfold dataL; simp only [okd]; exact ok_all h
  · unfold dataL
    have := dep_all ls
    simp only [PyData.depth]
    omega
  · have := wd_all h2
    unfold dataL
    simp only [wd]
    omega
theorem dpRefs {K : PySem.W.Frag} {H : Hp} : ∀ es : List (Addr × List Nat), (∀ e ∈ es, H e.1 = some (.tup ((ofN e.2).map V.int))) → DpAll K H (es.map fun e => V.ref e.1) ((es.map (·.2)).map dataN)
  | [], _ => .nil
  | e :: es, h => .cons (.tup (SqT.of (h e List.mem_cons_self)) (dpInts _)) (dpRefs es fun x hx => h x (List.mem_cons_of_mem _ hx))
end K04
set_option linter.all false
set_option maxRecDepth 100000
set_option maxHeartbeats 4000000
namespace K04
open PySem PySem.Spec PyProof.Rows L2 NB
local macro_rules | `(tactic| walk_at "rd") => `(tactic| simp only [cxK, rSetOfT, rSortedL, rSum, tAndV, tOrV, iRngV, cxW, TruV, iEnumT, rSIn, rSNotIn, rSAdd, tSAdd, rSet0, rSortedSet, rCat, rSorted, rIn, rSlT, rCatA, Bool.false_eq_true, tCallK0, gLst, iRng1, tIf, tChain, tAug, ipI, rSlS, tThru, iRng1, iRng2, iEnumS, iStr, tPar, tPar3, gTup, gNil, gCons, tRetN, tCall, tLc, iList, iTup, tRevL, tSl, tNoPart, tPart, rSlL, tYes, L2.start, List.map_cons, List.map_nil, List.length_cons, List.length_nil, List.replicate_succ, List.replicate_zero, Nat.reduceAdd, Nat.reduceSub, List.cons_append, List.nil_append, wipe, List.foldl_cons, List.foldl_nil, tAnd, tOr, tNot, tTest, tB, tOp, tUn, tVar, tC, tCB, tCons, tNil, tLst, tTup, tSeq, tNext, tAsg, tIfS, tRet, tDrop, gName, gSub, tBM0, tBM, rI, rI0, rU, rIxL, rIxT, rIxS, ↓reduceIte, rNeD, rEqD, rEq, rNe, rPop, rAppend, rSetL,
  List.getElem?_cons_zero, List.getElem?_cons_succ, List.set_cons_zero, List.set_cons_succ, Option.some.injEq, V.ref.injEq, V.int.injEq, V.bl.injEq, V.str.injEq, List.cons.injEq, exists_eq_left, exists_eq_left', exists_and_left, reduceCtorEq, false_and, and_false, exists_false, or_false, false_or, and_true, true_and])
def sw2 {α : Type} : List α → List α
  | [a, b] => [b, a]
  | z => z
theorem kb2 {K : PySem.W.Frag} {x qual : Str} {st : Stmt} {f : Addr} {fd : FuncData} {p q : Str} (F : Fun K x qual st f fd)
    (h : ∀ (kV doc pm : Value) (an : Option Addr) (cdv ct : Value) (u v : Value), bindArgs (PySem.W.fnOf x qual (defArgs st) (defBody st) (defScope st) .none kV doc pm an cdv ct) ⟨[], [(q, v), (p, u)]⟩ = pure [(p, u), (q, v)]) : KB0 K fd [p, q] [q, p] sw2 sw2 := by
  obtain ⟨oc, od, kV, doc, pm, an, cdv, ct, osl, rfl, lk, hcd⟩ := F.ex
  refine ⟨fun s ws hl => ?_, fun zs ws hl r => ?_⟩
  · match ws, hl with
    | [v, u], _ => exact BindsTo.of_eq (h kV doc pm an cdv ct u v)
  · match zs, hl with
    | [a, b], _ =>
      obtain ⟨u1, u2, rfl, r1, r2⟩ := vals2 r
      exact .cons r2 (.cons r1 .nil)
section
variable {P : Program} {w : World} {K : PySem.W.Frag} {mg : Str → Option Value} {base : Heap}
def spLaw (K : PySem.W.Frag) : Sp := fun vs H Q _ => ∃ (a : Addr) (ns : List Int), vs = [.ref a] ∧ SqL K H a (ns.map V.int) ∧ ∀ H', Q (.bl true) H'
theorem cxP {CX : CXT} {P : Program} {w : World} {K : PySem.W.Frag} {mg : Str → Option Value} {base : Heap} {N : List Str} {qual : Str} {scope : Scope} {f : Addr} {cd : Value} {A : Around} {outer : List Env} {s : Shared} {H : Hp} {E : XK} :
  (cxOf CX P w K mg base N qual scope f cd A outer s H E).prog = P := rfl
theorem Deal.m {H H' : Hp} {a l : Addr} (x : Deal H a l) (s : Same H H') : Deal H' a l := by
  obtain ⟨ns, b, x⟩ := x
  exact ⟨ns, b, s _ _ x.ob, s _ _ x.li, x.nn, x.ln, x.b0, x.b1⟩
theorem ixN_nat {n o : Nat} (h : o < n) : ixN n (o : Nat) = some o := by
  unfold ixN
  rw [if_pos (by omega), if_pos (by omega), Int.toNat_natCast]
theorem filt_succ (f : Nat → Bool) (o : Nat) : (List.range (o + 1)).filter f = if f o = true then (List.range o).filter f ++ [o] else (List.range o).filter f := by
  rw [List.range_succ, List.filter_append]
  by_cases q : f o = true
  · simp [q]
  · simp [q]
theorem filt_len (f : Nat → Bool) (o : Nat) : ((List.range o).filter f).length ≤ o := by
  have := List.length_filter_le f (List.range o)
  rw [List.length_range] at this
  exact this
theorem filt_srt (f : Nat → Bool) : ∀ o, ((List.range o).filter f).Pairwise (· < ·) := fun o => List.Pairwise.filter _ List.pairwise_lt_range
/-- [other for other in range(n) if table[house][other]] -/
theorem pickRow {H : Hp} {d l t D : Addr} {rws : List Addr} {N : Nat} {T : Nat → Nat → Bool} {h : Nat} (tb : TabAt H d l t rws N T) (hD : H D = none) (hN : N ≤ 1000) (hh : h < N) {Qd : Hp → Prop}
    (q : ∀ H', H' D = some (.lst ((ofN ((List.range N).filter (T h))).map V.int)) → Same H H' → Qd H') :
    ∃ W : Nat → Nat → Hp → Prop, (∃ m, W 0 m (upd H D (.lst []))) ∧ ∀ i m H1, W i m H1 → ((Itr 0 N).stop i H1 ∧ Qd H1) ∨ ((Itr 0 N).go i H1 ∧ ∃ Nx : Hp → Prop, (∀ H', Nx H' → ∃ m', m' < m ∧ W (i + 1) m' H') ∧ ∀ x H', (Itr 0 N).yld i H1 x H' →
      ∃ x_1, SqL K H' t x_1 ∧ ∃ x_2, atI x_1 (h : Nat) = some x_2 ∧ ∃ p, x_2 = V.ref p ∧ ∃ x_3 x_4, x = V.int x_4 ∧ SqL K H' p x_3 ∧ ∃ x_5, atI x_3 x_4 = some x_5 ∧ ∃ c, x_5 = V.bl c ∧
        if c = true then ∃ acc, H' D = some (.lst acc) ∧ acc.length < sizeLine ∧ Nx (upd H' D (.lst (acc ++ [x]))) else Nx H') := by
  refine lcR (lo := 0) (n := N) (fun o H' => H' D = some (.lst ((ofN ((List.range o).filter (T h))).map V.int)) ∧ Same H H') ⟨upd_same, Same.new hD⟩ ?_ ?_
  · rintro o H1 ho ⟨c1, c2⟩
    obtain ⟨r, g1, g2, g3⟩ := tb.get hh
    simp only [Int.zero_add]
    refine ⟨_, SqL.of (c2 _ _ tb.tb), _, g2, _, rfl, _, _, rfl, SqL.of (c2 _ _ g3), _, atRow _ ho, _, rfl, ?_⟩
    have hl := filt_len (T h) o
    refine ite2 (fun c => ?_) (fun c => ?_)
    · refine ⟨_, c1, by rw [List.length_map, ofN_len, sizeLine_eq]; omega, ?_, Same.put c2 hD⟩
      rw [upd_same, filt_succ, if_pos c]
      simp only [ofN, List.map_append, List.map_cons, List.map_nil]
    · refine ⟨?_, c2⟩
      rw [filt_succ, if_neg c]
      exact c1
  · rintro H1 ⟨c1, c2⟩
    exact q H1 c1 c2
def LotsTo (rs : List Rl) (N : Nat) (H : Hp) (i : Nat) (es : List (Addr × List Nat)) : Prop := es.length = i ∧ ∀ j e, es[j]? = some e → H e.1 = some (.tup ((ofN e.2).map V.int)) ∧ Lot rs N j e.2
theorem LotsTo.m {rs : List Rl} {N i : Nat} {H H' : Hp} {es : List (Addr × List Nat)} (x : LotsTo rs N H i es) (k : TK H H') : LotsTo rs N H' i es := ⟨x.1, fun j e he => ⟨k _ _ (x.2 j e he).1, (x.2 j e he).2⟩⟩
theorem headD_ofN : ∀ l : List Nat, (ofN l).headD 0 = ((l.headD 0 : Nat) : Int)
  | [] => rfl
  | _ :: _ => rfl
theorem ofN_inj : ∀ {xs ys : List Nat}, ofN xs = ofN ys → xs = ys
  | [], [], _ => rfl
  | [], _ :: _, e => by cases e
  | _ :: _, [], e => by cases e
  | x :: xs, y :: ys, e => by
    obtain ⟨e1, e2⟩ := List.cons.inj e
    have e1 : (x : Int) = (y : Int) := e1
    rw [ofN_inj (xs := xs) (ys := ys) e2, show x = y by omega]
def asI (e : Addr × List Nat) : Addr × List Int := (e.1, ofN e.2)
theorem lift_asI {es : List (Addr × List Nat)} : ∀ {L : List (Addr × List Int)}, (∀ p ∈ L, p ∈ es.map asI) → ∃ ms : List (Addr × List Nat), L = ms.map asI ∧ ∀ e ∈ ms, e ∈ es
  | [], _ => ⟨[], rfl, fun e he => by cases he⟩
  | p :: L, h => by
    obtain ⟨e, he, rfl⟩ := List.mem_map.mp (h p List.mem_cons_self)
    obtain ⟨ms, rfl, q⟩ := lift_asI (L := L) fun x hx => h x (List.mem_cons_of_mem _ hx)
    exact ⟨e :: ms, rfl, fun x hx => by
      rcases List.mem_cons.mp hx with z | z
      · rw [z]; exact he
      · exact q x z⟩
theorem lot_len {rs : List Rl} {N h : Nat} {l : List Nat} (x : Lot rs N h l) : l.length ≤ N := by
  have := nat_nodup_len l (List.range N) (x.srt.imp fun q => by omega) fun o ho => List.mem_range.mpr ((x.mem o).mp ho).1
  rwa [List.length_range] at this
theorem KnotsOf.few {rs : List Rl} {N : Nat} {ls : List (List Nat)} (k : KnotsOf rs N ls) : ls.length ≤ N := by
  have := nat_nodup_len (ls.map fun (l : List Nat) => l.headD 0) (List.range N) (k.heads.imp fun q => by omega) fun o ho => by
    obtain ⟨l, hl, rfl⟩ := List.mem_map.mp ho
    obtain ⟨h, t, rfl, lo⟩ := k.lot l hl
    exact List.mem_range.mpr ((lo.mem h).mp List.mem_cons_self).1
  rwa [List.length_range, List.length_map] at this
theorem lot_head {rs : List Rl} {N h h' : Nat} {l l' : List Nat} (x : Lot rs N h l) (x' : Lot rs N h' l') (hN : h < N) (hN' : h' < N) (e : l.headD 0 = l'.headD 0) : l = l' := by
  cases l with
  | nil => have := (x.mem h).mpr ⟨hN, Mate.refl h⟩; cases this
  | cons a t =>
    cases l' with
    | nil => have := (x'.mem h').mpr ⟨hN', Mate.refl h'⟩; cases this
    | cons b t' =>
      obtain rfl : a = b := e
      exact x.same x' (((x.mem a).mp List.mem_cons_self).2.trans ((x'.mem a).mp List.mem_cons_self).2.symm)
structure Env4 (P : Program) (w : World) (K : PySem.W.Frag) (mg : Str → Option Value) (base : Heap) (fD fN fB fH fR fK : Addr) (dD dN dB dH dR dK : FuncData) : Prop where
  FD : FnOk P w K mg base CX0 1 fD dD ["script", "salt"] (spDraw K)
  FN : FnOk P w K mg base CX0 7 fN dN ["deal", "most", "top", "any_row"] spNet
  FB : FnOk P w K mg base CX0 5 fB dB ["rule"] (spLBr 4)
  FH : FnOk P w K mg base CX0 6 fH dH ["net", "house"] spHear
  FR : FnOk P w K mg base CX0 7 fR dR ["net", "house"] spReach
  FK : FnOk P w K mg base CX0 8 fK dK ["net"] spKnots
  gD : mg "_law_draw" = some (.ref fD)
  gN : mg "_law_net" = some (.ref fN)
  gB : mg "_law_branches" = some (.ref fB)
  gH : mg "hearers" = some (.ref fH)
  gR : mg "reached" = some (.ref fR)
  gK : mg "knots" = some (.ref fK)
  kD : PySem.W.keepIn K (.ref fD) = true
  kN : PySem.W.keepIn K (.ref fN) = true
  kB : PySem.W.keepIn K (.ref fB) = true
  kH : PySem.W.keepIn K (.ref fH) = true
  kR : PySem.W.keepIn K (.ref fR) = true
  kK : PySem.W.keepIn K (.ref fK) = true
  bD : Binds K dD ["script", "salt"] []
  bN : Binds K dN ["deal", "most", "top", "any_row"] []
  bB : Binds K dB ["rule"] []
  bH : KB0 K dH ["net", "house"] ["house", "net"] sw2 sw2
  bR : KB0 K dR ["net", "house"] ["house", "net"] sw2 sw2
  bK : KB0 K dK ["net"] ["net"] (fun ws => ws) (fun zs => zs)
  nR : mg "range" = none
  nT : mg "tuple" = none
  nP : mg "repr" = none
  nL : mg "len" = none
  nM : mg "sum" = none
  nO : mg "sorted" = none
  nE : mg "set" = none
abbrev s_law : Stmt := topS 19
theorem sc_law : FnScope ["script", "deal", "turn", "net", "n", "other", "house", "table", "middle", "lots", "told", "lot"] ["script"] (defScope s_law) := ⟨rfl, rfl, rfl, by decide +kernel, rfl, by decide +kernel, by decide +kernel⟩
theorem ok_law {f : Addr} {fd : FuncData} (F : Fun K "law" "law" s_law f fd) {fD fN fB fH fR fK : Addr} {dD dN dB dH dR dK : FuncData} (T : Env4 P w K mg base fD fN fB fH fR fK dD dN dB dH dR dK) : FnA callerA P w K mg base CX0 f fd ["script"] (spLaw K) := by
  refine funA (k := 10) F sc_law ⟨rfl, by decide, by decide⟩ (fun vs H Q E h => ?_) (fun cdv outer s H vs Q E hr h => ?_)
  · obtain ⟨a, ns, rfl, _⟩ := h
    rfl
  obtain ⟨a, ns, rfl, hS, q⟩ := h
  have hu := Room.units hr
  have hr1 : Room 1 _ := hr.mono (by decide : 1 ≤ 10)
  have hr5 : Room 5 _ := hr.mono (by decide : 5 ≤ 10)
  have hr6 : Room 6 _ := hr.mono (by decide : 6 ≤ 10)
  have hr7 : Room 7 _ := hr.mono (by decide : 7 ≤ 10)
  have hr8 : Room 8 _ := hr.mono (by decide : 8 ≤ 10)
  have hu2 : ((callerA.deeper (envOfC "law" (defScope s_law) s.heap.objs.size f cdv))).units + 70 < cLine := by have := hr.un; omega
  have hu3 : ((callerA.deeper (envOfC "law" (defScope s_law) s.heap.objs.size f cdv))).units + 64 < cLine := by have := hr.un; omega
  refine ⟨_, (pss_cons (ps_set (i := 1) sc_law.nd rfl (by first | exact Or.inl rfl | exact Or.inr rfl) (pe_call T.FD hr1 rfl T.gD T.kD T.bD .nil pass0 (pa_cons (pv 0) (pa_cons pe_int pa_nil))))
  (pss_cons (ps_for PassesOwn.never rfl (pi_range1 rfl T.nR (pa_cons pe_int pa_nil)) (pg_name (i := 2) sc_law.nd rfl (by first | exact Or.inl rfl | exact Or.inr rfl))
    (pss_cons (ps_set (i := 3) sc_law.nd rfl (by first | exact Or.inl rfl | exact Or.inr rfl) (pe_call T.FN hr7 rfl T.gN T.kN T.bN .nil pass0 (pa_cons (pv 1) (pa_cons pe_int (pa_cons pe_int (pa_cons pe_bl pa_nil))))))
    (pss_cons (ps_set (i := 4) sc_law.nd rfl (by first | exact Or.inl rfl | exact Or.inr rfl) (pe_callB call_len_seq (by rfl) T.nL PySem.boot_len (pa_cons (pe_ix ix_tup (pv 3) pe_int (fun _ _ => rfl)) pa_nil)))
    (Evl.pss_cut (ps_set (i := 7) sc_law.nd rfl (by first | exact Or.inl rfl | exact Or.inr rfl) (pe_lc (own := [("house", 6)]) (g := gName 6) (te := tLc (iRng1 (tCons (tVar 4) tNil)) (gName 5) tYes (tOp (rIn K false) (tVar 6) (tCall (spLBr 4) [] E0 (tCons (tOp (rIxT K) (tOp (rIxT K) (tVar 3) (tC (.int 1))) (tVar 5)) tNil))) [5]) rfl sc_law.nd (pi_range1 rfl T.nR (pa_cons (pv 4) pa_nil)) (blkOk_by (N := ["script", "deal", "turn", "net", "n", "other", "house", "table", "middle", "lots", "told", "lot"]) (sc := defScope s_law) (by decide +kernel)) (fun _ _ _ _ _ => pg_name (i := 6) sc_law.nd rfl (Or.inr rfl)) (fun _ _ _ _ _ => pts_nil) (fun _ _ _ _ _ => (pe_lc (own := [("other", 5)]) (g := gName 5) (te := (tOp (rIn K false) (tVar 6) (tCall (spLBr 4) [] E0 (tCons (tOp (rIxT K) (tOp (rIxT K) (tVar 3) (tC (.int 1))) (tVar 5)) tNil)))) rfl sc_law.nd (pi_range1 rfl T.nR (pa_cons (pv 4) pa_nil)) (blkOk_by (N := ["script", "deal", "turn", "net", "n", "other", "house", "table", "middle", "lots", "told", "lot"]) rfl) (fun _ _ _ _ _ => pg_name (i := 5) sc_law.nd rfl (Or.inl rfl)) (fun _ _ _ _ _ => pts_nil) (fun _ _ _ _ _ => (pe_cmpR op_in_seq (pv 6) (pe_call T.FB hr5 rfl T.gB T.kB T.bB .nil pass0 (pa_cons (pe_ix ix_tup (pe_ix ix_tup (pv 3) pe_int (fun _ _ => rfl)) (pv 5) (fun _ _ => rfl)) pa_nil)) (by rfl)))))))
    (Evl.pss_cut (ps_for PassesOwn.never rfl (pi_range1 rfl T.nR (pa_cons (pv 4) pa_nil)) (pg_name (i := 6) sc_law.nd rfl (by first | exact Or.inl rfl | exact Or.inr rfl))
      (pss_one (ps_if (pt_cmpR op_ne (pe_callB (call_reprD rfl hu2) (by rfl) T.nP boot_repr (pa_cons (pe_callK0 T.FH hr6 rfl T.gH T.kH T.bH pass0 (pk_cons (pv 6) (pk_cons (pv 3) pk_nil))) pa_nil)) (pe_callB (call_reprD rfl hu2) (by rfl) T.nP boot_repr (pa_cons (pe_callTy call_tupleL (by rfl) T.nT boot_tuple (pa_cons (pe_lc (own := [("other", 5)]) (g := gName 5) (tt := tB (tOp (rIxL K) (tOp (rIxL K) (tVar 7) (tVar 6)) (tVar 5))) rfl sc_law.nd (pi_range1 rfl T.nR (pa_cons (pv 4) pa_nil)) (blkOk_by (N := ["script", "deal", "turn", "net", "n", "other", "house", "table", "middle", "lots", "told", "lot"]) (sc := defScope s_law) (by decide +kernel)) (fun _ _ _ _ _ => pg_name (i := 5) sc_law.nd rfl (Or.inl rfl)) (fun _ _ _ _ _ => (pts_one (pt_val (pe_ix ix_list (pe_ix ix_list (pv 7) (pv 6) (fun _ _ => rfl)) (pv 5) (fun _ _ => rfl))))) (fun _ _ _ _ _ => (pv 5))) pa_nil)) pa_nil)) (nomark _)) (pss_one (ps_ret pe_bl))
        pss_nil)))
    (Evl.pss_cut (ps_for PassesOwn.never rfl (pi_range1 rfl T.nR (pa_cons (pv 4) pa_nil)) (pg_name (i := 8) sc_law.nd rfl (by first | exact Or.inl rfl | exact Or.inr rfl))
      (pss_one (ps_for PassesOwn.never rfl (pi_range1 rfl T.nR (pa_cons (pv 4) pa_nil)) (pg_name (i := 6) sc_law.nd rfl (by first | exact Or.inl rfl | exact Or.inr rfl))
        (pss_one (ps_for PassesOwn.never rfl (pi_range1 rfl T.nR (pa_cons (pv 4) pa_nil)) (pg_name (i := 5) sc_law.nd rfl (by first | exact Or.inl rfl | exact Or.inr rfl))
          (pss_one (ps_asg (pe_or (pe_ix ix_list (pe_ix ix_list (pv 7) (pv 6) (fun _ _ => rfl)) (pv 5) (fun _ _ => rfl)) (pe_one (pe_and (pe_ix ix_list (pe_ix ix_list (pv 7) (pv 6) (fun _ _ => rfl)) (pv 8) (fun _ _ => rfl)) (pe_one (pe_ix ix_list (pe_ix ix_list (pv 7) (pv 8) (fun _ _ => rfl)) (pv 5) (fun _ _ => rfl)))))) (pg_sub (pe_ix ix_list (pv 7) (pv 6) (fun _ _ => rfl)) (pv 5) set_list))))))))
    (pss_cons (ps_set (i := 9) sc_law.nd rfl (by first | exact Or.inl rfl | exact Or.inr rfl) (pe_lst pa_nil))
    (Evl.pss_cut (ps_for PassesOwn.never rfl (pi_range1 rfl T.nR (pa_cons (pv 4) pa_nil)) (pg_name (i := 6) sc_law.nd rfl (by first | exact Or.inl rfl | exact Or.inr rfl))
      (pss_cons (ps_if (pt_cmpR op_ne (pe_callB (call_reprD rfl hu2) (by rfl) T.nP boot_repr (pa_cons (pe_callK0 T.FR hr7 rfl T.gR T.kR T.bR pass0 (pk_cons (pv 6) (pk_cons (pv 3) pk_nil))) pa_nil)) (pe_callB (call_reprD rfl hu2) (by rfl) T.nP boot_repr (pa_cons (pe_callTy call_tupleL (by rfl) T.nT boot_tuple (pa_cons (pe_lc (own := [("other", 5)]) (g := gName 5) (tt := tB (tOp (rIxL K) (tOp (rIxL K) (tVar 7) (tVar 6)) (tVar 5))) rfl sc_law.nd (pi_range1 rfl T.nR (pa_cons (pv 4) pa_nil)) (blkOk_by (N := ["script", "deal", "turn", "net", "n", "other", "house", "table", "middle", "lots", "told", "lot"]) (sc := defScope s_law) (by decide +kernel)) (fun _ _ _ _ _ => pg_name (i := 5) sc_law.nd rfl (Or.inl rfl)) (fun _ _ _ _ _ => (pts_one (pt_val (pe_ix ix_list (pe_ix ix_list (pv 7) (pv 6) (fun _ _ => rfl)) (pv 5) (fun _ _ => rfl))))) (fun _ _ _ _ _ => (pv 5))) pa_nil)) pa_nil)) (nomark _)) (pss_one (ps_ret pe_bl))
        pss_nil)
      (pss_one (ps_expr (pe_bm PySem.F.plainAttrs_list PySem.F.slot_list_append PySem.F.type_list_append mt_append (pv 9) (pa_cons (pe_callTy call_tupleL (by rfl) T.nT boot_tuple (pa_cons (pe_lc (own := [("other", 5)]) (g := gName 5) (tt := tOr (tTest (tOp rEq (tVar 5) (tVar 6))) (tAnd (tB (tOp (rIxL K) (tOp (rIxL K) (tVar 7) (tVar 6)) (tVar 5))) (tB (tOp (rIxL K) (tOp (rIxL K) (tVar 7) (tVar 5)) (tVar 6))))) rfl sc_law.nd (pi_range1 rfl T.nR (pa_cons (pv 4) pa_nil)) (blkOk_by (N := ["script", "deal", "turn", "net", "n", "other", "house", "table", "middle", "lots", "told", "lot"]) (sc := defScope s_law) (by decide +kernel)) (fun _ _ _ _ _ => pg_name (i := 5) sc_law.nd rfl (Or.inl rfl)) (fun _ _ _ _ _ => (pts_one (PW.pt (pw_or (pt_cmpR op_eq (pv 5) (pv 6) (nomark _)) (pw_or1 (PW.pt (pw_and (pt_val (pe_ix ix_list (pe_ix ix_list (pv 7) (pv 6) (fun _ _ => rfl)) (pv 5) (fun _ _ => rfl))) (pw_and1 (pt_val (pe_ix ix_list (pe_ix ix_list (pv 7) (pv 5) (fun _ _ => rfl)) (pv 6) (fun _ _ => rfl))))))))))) (fun _ _ _ _ _ => (pv 5))) pa_nil)) pa_nil))))))
    (pss_cons (ps_set (i := 10) sc_law.nd rfl (by first | exact Or.inl rfl | exact Or.inr rfl) (pe_callK0 T.FK hr8 rfl T.gK T.kK T.bK pass0 (pk_cons (pv 3) pk_nil)))
    (pss_one (ps_if (PW.pt (pw_or (pt_cmpR op_ne (pe_callB (call_reprD rfl hu2) (by rfl) T.nP boot_repr (pa_cons (pv 10) pa_nil)) (pe_callB (call_reprD rfl hu2) (by rfl) T.nP boot_repr (pa_cons (pe_callTy call_tupleL (by rfl) T.nT boot_tuple (pa_cons (pe_callB (cr_sortedL (by rfl)) (by rfl) T.nO boot_sorted (pa_cons (pe_callTy (cr_setOfT (by rfl) hu3) (by rfl) T.nE boot_set (pa_cons (pv 9) pa_nil)) pa_nil)) pa_nil)) pa_nil)) (nomark _)) (pw_or1 (pt_cmpR op_ne (pe_callB (cr_sum (by rfl)) (by rfl) T.nM boot_sum (pa_cons (pe_lc (own := [("lot", 11)]) (g := gName 11) (te := tCB (fun xs H Q => ∃ p ys, xs = [V.ref p] ∧ (SqL K H p ys ∨ SqT K H p ys) ∧ Q (V.int (ys.length : Nat)) H) (tCons (tVar 11) tNil)) rfl sc_law.nd (pi_tup (pv 10)) (blkOk_by (N := ["script", "deal", "turn", "net", "n", "other", "house", "table", "middle", "lots", "told", "lot"]) (sc := defScope s_law) (by decide +kernel)) (fun _ _ _ _ _ => pg_name (i := 11) sc_law.nd rfl (Or.inl rfl)) (fun _ _ _ _ _ => pts_nil) (fun _ _ _ _ _ => (pe_callB call_len_seq (by rfl) T.nL PySem.boot_len (pa_cons (pv 11) pa_nil)))) pa_nil)) (pv 4) (nomark _))))) (pss_one (ps_ret pe_bl))
      pss_nil)))))))))))
  (pss_one (ps_ret pe_bl)))), ?_⟩
  have szl : 500000 < sizeLine := by rw [sizeLine_eq]; decide
  walk_at "rd"
  refine ⟨a, ns, 4, rfl, hS, by decide, by decide, fun d l H1 D1 d0 l0 S1 => ?_⟩
  refine ⟨3, rfl, by decide, by decide, for_range (lo := 0) (n := 3) (fun i σ H' => ∃ v2 v3 v4 v5 v6 v7 v8 v9 v10 v11, σ = [some (.ref a), some (.ref d), v2, v3, v4, v5, v6, v7, v8, v9, v10, v11] ∧ Deal H' d l) ⟨none, none, none, none, none, none, none, none, none, none, rfl, D1⟩ ?_ ?_⟩
  · rintro i σ H2 hi ⟨v2, v3, v4, v5, v6, v7, v8, v9, v10, v11, rfl, D2⟩
    walk_at "rd"
    refine ⟨d, l, 9, 3, true, rfl, D2, by decide, by decide, by decide, by decide, fun nv tops rs H3 nt ok D3 K3 => ?_⟩
    obtain ⟨na, nt1, np, nvs, rfl, n1, n2, n3, n4⟩ := nt.ex
    have hdr : ∀ r ∈ rs, r.dep ≤ 3 ∧ r.cnt ≤ 100000 := fun r hr => ⟨(ok.dr r hr).dep, by have := (ok.dr r hr).cnt; omega⟩
    have rl50 : rs.length ≤ 9 := by have := ok.n1; have := ok.same; omega
    have r0 : 1 ≤ rs.length := by have := ok.n0; have := ok.same; omega
    refine ⟨_, rfl, _, SqT.of n1, _, atI0, _, rfl, _, .inr (SqT.of n2), ?_⟩
    have lt : ((tops.map V.int).length : Nat) = rs.length := by rw [List.length_map, ok.same]
    rw [lt]
    -- the table as it is built
    refine ⟨fun σ H' => ∃ (t : Addr) (rws : List Addr) (v5 v6 v8 v9 v10 v11 : Option V), σ = [some (.ref a), some (.ref d), some (.int (0 + i)), some (.ref na), some (.int (rs.length : Nat)), v5, v6, some (.ref t), v8, v9, v10, v11] ∧ Deal H' d l ∧ NetAt H' (.ref na) tops rs ∧ TabAt H' d l t rws rs.length (fun h o => ear rs o (h : Nat)), ?_, ?_⟩
    · walk_at "rd"
      simp only [Int.toNat_natCast]
      refine ⟨by omega, by omega, fun D hD => ?_⟩
      have D0 := D3.a_some hD
      refine lcR (lo := 0) (n := rs.length) (fun h H' => ∃ rws : List Addr, H' D = some (.lst (rws.map V.ref)) ∧ rws.length = h ∧ rws.Nodup ∧ (∀ i r, rws[i]? = some r → H' r = some (.lst (row rs.length (fun o => ear rs o (i : Nat)))) ∧ r ≠ d ∧ r ≠ l ∧ r ≠ D) ∧ Same H3 H') ⟨[], upd_same, rfl, .nil, by simp, Same.new hD⟩ ?_ ?_
      · rintro h H4 hh ⟨rws, b1, b2, b3, b4, b5⟩
        refine ⟨by omega, by omega, fun D2 hD2 => ?_⟩
        have D20 := (Deal.m D3 b5).a_some hD2
        have nD2 : D2 ≠ D := fun e => by rw [e, b1] at hD2; cases hD2
        refine lcR (lo := 0) (n := rs.length) (fun o H' => H' D2 = some (.lst (row o (fun o => ear rs o (h : Nat)))) ∧ Same H4 H') ⟨upd_same, Same.new hD2⟩ ?_ ?_
        · rintro o H5 ho ⟨c1, c2⟩
          have s5 := b5.trans c2
          have ho2 : o < nvs.length := by have := n4.len; rw [Rl.toDs_len] at this; omega
          obtain ⟨r, r1, r2, r3⟩ := n4.part (List.getElem?_eq_getElem ho2)
          have rh := hdr r r2
          refine ⟨_, SqT.of (s5 _ _ n1), _, atI1, _, rfl, nvs, _, rfl, SqT.of (s5 _ _ n3), ?_⟩
          simp only [Int.zero_add]
          refine ⟨_, atI_nat (List.getElem?_eq_getElem ho2), _, r, rfl, r3.m (TK.of s5), by omega, by omega, fun b H6 s6 nb hb => ?_⟩
          refine ⟨b, rfl, _, .inl (SqL.of hb), rfl, flat_ints _, _, s6 _ _ c1, by rw [row_len]; omega, ?_, Same.put (Same.trans c2 s6) hD2⟩
          rw [upd_same, inV_int, row_succ, ear_at r1]
        · rintro H5 ⟨c1, c2⟩
          have s5 := b5.trans c2
          refine ⟨_, c2 _ _ b1, by rw [List.length_map]; omega, rws ++ [D2], by rw [upd_same, List.map_append]; rfl, by rw [List.length_append, b2]; rfl, ?_, fun i r hr => ?_, Same.put s5 hD⟩
          · rw [List.nodup_append]
            refine ⟨b3, List.pairwise_singleton _ _, fun x hx y hy e => ?_⟩
            rw [List.mem_singleton.mp hy] at e
            obtain ⟨i, hi2⟩ := List.mem_iff_getElem?.mp hx
            have := (b4 i x hi2).1
            rw [e, hD2] at this
            cases this
          · rw [List.getElem?_append] at hr
            split at hr
            · obtain ⟨q1, q2, q3, q4⟩ := b4 i r hr
              exact ⟨by rw [upd_ne q4]; exact c2 _ _ q1, q2, q3, q4⟩
            · rename_i c
              have z1 := (List.getElem?_eq_some_iff.mp hr).1
              rw [List.length_singleton] at z1
              have z2 : i = h := by omega
              subst z2
              rw [b2, Nat.sub_self] at hr
              obtain rfl := Option.some.inj hr
              exact ⟨by rw [upd_ne nD2]; exact c1, D20.1, D20.2, nD2⟩
      · rintro H4 ⟨rws, b1, b2, b3, b4, b5⟩
        exact ⟨D, rws, _, _, _, _, _, _, ⟨rfl, rfl, rfl, rfl, rfl, rfl, rfl⟩, Deal.m D3 b5, nt.m (TK.of b5), b1, b2, b3, b4⟩
    rintro σ H4 ⟨t, rws, v5, v6, v8, v9, v10, v11, rfl, D4, nt4, tb4⟩
    -- who hears whom
    refine ⟨fun σ H' => ∃ (v5 v6 v8 v9 v10 v11 : Option V), σ = [some (.ref a), some (.ref d), some (.int (0 + i)), some (.ref na), some (.int (rs.length : Nat)), v5, v6, some (.ref t), v8, v9, v10, v11] ∧ Deal H' d l ∧ NetAt H' (.ref na) tops rs ∧ TabAt H' d l t rws rs.length (fun h o => ear rs o (h : Nat)), ?_, ?_⟩
    · refine ⟨_, rfl, _, rfl, by omega, by omega, for_range (lo := 0) (n := ((rs.length : Nat) : Int).toNat) (fun h σ H' => ∃ (v5 v6 v8 v9 v10 v11 : Option V), σ = [some (.ref a), some (.ref d), some (.int (0 + i)), some (.ref na), some (.int (rs.length : Nat)), v5, v6, some (.ref t), v8, v9, v10, v11] ∧ Deal H' d l ∧ NetAt H' (.ref na) tops rs ∧ TabAt H' d l t rws rs.length (fun h o => ear rs o (h : Nat))) ⟨_, _, _, _, _, _, rfl, D4, nt4, tb4⟩ ?_ ?_⟩
      · rintro h σ H5 hh ⟨v5, v6, v8, v9, v10, v11, rfl, D5, nt5, tb5⟩
        rw [Int.toNat_natCast] at hh
        walk_at "rd"
        simp only [Int.zero_add, Int.toNat_natCast]
        refine ⟨_, _, tops, rs, rfl, nt5, hdr, by omega, fun b H6 s6 hb => ?_⟩
        have hd1 : Dp K H6 (.ref b) (dataN (hears rs (h : Nat))) := .tup (SqT.of hb) (dpInts _)
        have hs1 : Sh (dataN (hears rs (h : Nat))) := sh_dataN (fun o ho => by have := ear_lt (mem_hears.mp ho); omega) (Nat.le_trans (hearsTo_len rs (h : Nat) rs.length) (by omega))
        refine ⟨_, hd1, hs1, by omega, by omega, fun D hD => pickRow (tb5.m s6) hD (by omega) hh fun H7 c1 c2 => ⟨_, SqL.of c1, fun l1 hl1 => ?_⟩⟩
        refine ⟨_, .tup (SqT.of upd_same) (dpInts _), hs1, rfl, ?_⟩
        have sm : Same H5 (upd H7 l1 (.tup ((ofN ((List.range rs.length).filter fun o => ear rs o (h : Nat))).map V.int))) := Same.new1 (Same.trans s6 c2) hl1
        rw [if_neg (by simp [dataN, hears, hearsTo])]
        exact ⟨_, _, _, _, _, _, ⟨rfl, rfl, rfl, rfl, rfl, rfl⟩, Deal.m D5 sm, nt5.m (TK.of sm), tb5.m sm⟩
      · rintro σ H5 ⟨v5, v6, v8, v9, v10, v11, rfl, D5, nt5, tb5⟩
        exact ⟨_, _, _, _, _, _, rfl, D5, nt5, tb5⟩
    rintro σ H5 ⟨v5, v6, v8, v9, v10, v11, rfl, D5, nt5, tb5⟩
    -- the table closed
    refine ⟨fun σ H' => ∃ (T : Nat → Nat → Bool) (v5 v6 v8 v9 v10 v11 : Option V), σ = [some (.ref a), some (.ref d), some (.int (0 + i)), some (.ref na), some (.int (rs.length : Nat)), v5, v6, some (.ref t), v8, v9, v10, v11] ∧ Deal H' d l ∧ NetAt H' (.ref na) tops rs ∧ TabAt H' d l t rws rs.length T ∧ (∀ h o, h < rs.length → o < rs.length → (T h o = true ↔ Rch rs (h : Nat) o)), ?_, ?_⟩
    · refine ⟨_, rfl, _, rfl, by omega, by omega, for_range (lo := 0) (n := ((rs.length : Nat) : Int).toNat) (fun m σ H' => ∃ (T : Nat → Nat → Bool) (v5 v6 v8 v9 v10 v11 : Option V), σ = [some (.ref a), some (.ref d), some (.int (0 + i)), some (.ref na), some (.int (rs.length : Nat)), v5, v6, some (.ref t), v8, v9, v10, v11] ∧ Deal H' d l ∧ NetAt H' (.ref na) tops rs ∧ TabAt H' d l t rws rs.length T ∧ Cl rs rs.length m T) ⟨_, _, _, _, _, _, _, rfl, D5, nt5, tb5, Cl.start rs⟩ ?_ ?_⟩
      · rintro m σ H6 hm ⟨T, v5, v6, v8, v9, v10, v11, rfl, D6, nt6, tb6, cl6⟩
        rw [Int.toNat_natCast] at hm
        refine ⟨_, rfl, _, rfl, by omega, by omega, for_range (lo := 0) (n := ((rs.length : Nat) : Int).toNat) (fun h σ H' => ∃ (T : Nat → Nat → Bool) (v5 v6 v9 v10 v11 : Option V), σ = [some (.ref a), some (.ref d), some (.int (0 + i)), some (.ref na), some (.int (rs.length : Nat)), v5, v6, some (.ref t), some (.int (m : Nat)), v9, v10, v11] ∧ Deal H' d l ∧ NetAt H' (.ref na) tops rs ∧ TabAt H' d l t rws rs.length T ∧ ClI rs rs.length m h 0 T) ⟨T, v5, v6, v9, v10, v11, by simp only [Int.zero_add]; rfl, D6, nt6, tb6, cl6.begin⟩ ?_ ?_⟩
        · rintro h σ H7 hh ⟨T, v5, v6, v9, v10, v11, rfl, D7, nt7, tb7, cl7⟩
          rw [Int.toNat_natCast] at hh
          refine ⟨_, rfl, _, rfl, by omega, by omega, for_range (lo := 0) (n := ((rs.length : Nat) : Int).toNat) (fun o σ H' => ∃ (T : Nat → Nat → Bool) (v5 v9 v10 v11 : Option V), σ = [some (.ref a), some (.ref d), some (.int (0 + i)), some (.ref na), some (.int (rs.length : Nat)), v5, some (.int (h : Nat)), some (.ref t), some (.int (m : Nat)), v9, v10, v11] ∧ Deal H' d l ∧ NetAt H' (.ref na) tops rs ∧ TabAt H' d l t rws rs.length T ∧ ClI rs rs.length m h o T) ⟨T, v5, v9, v10, v11, by simp only [Int.zero_add]; rfl, D7, nt7, tb7, cl7⟩ ?_ ?_⟩
          · rintro o σ H8 ho ⟨T, v5, v9, v10, v11, rfl, D8, nt8, tb8, cl8⟩
            rw [Int.toNat_natCast] at ho
            walk_at "rd"
            simp only [Int.zero_add]
            obtain ⟨r, g1, g2, g3⟩ := tb8.get hh
            obtain ⟨r', k1, k2, k3⟩ := tb8.get hm
            have fin : ∀ b, b = (T h o || (T h m && T m o)) → ∃ x, SqL K H8 t x ∧ ∃ x_3, atI x (h : Nat) = some x_3 ∧ ∃ p, x_3 = V.ref p ∧ ∃ x, H8 p = some (HO.lst x) ∧ ∃ x_4, ixN x.length (o : Nat) = some x_4 ∧ ∃ (T : Nat → Nat → Bool) (v5 v9_1 v10_1 v11_1 : Option V), (some (V.int (o : Nat)) = v5 ∧ v9 = v9_1 ∧ v10 = v10_1 ∧ v11 = v11_1) ∧
                Deal (upd H8 p (HO.lst (x.set x_4 (V.bl b)))) d l ∧ NetAt (upd H8 p (HO.lst (x.set x_4 (V.bl b)))) (V.ref na) tops rs ∧ TabAt (upd H8 p (HO.lst (x.set x_4 (V.bl b)))) d l t rws rs.length T ∧ ClI rs rs.length m h (o + 1) T := fun b eb => by
              refine ⟨_, SqL.of tb8.tb, _, g2, _, rfl, _, g3, o, ixN_nat (by rw [row_len]; exact ho), setT T h o b, _, _, _, _, ⟨rfl, rfl, rfl, rfl⟩, ?_, ?_, tb8.put b g1 ho, ?_⟩
              · exact D8.putO (tb8.rw_ h r g1).2.1 (tb8.rw_ h r g1).2.2.1
              · exact nt8.m (TK.put g3 (fun _ => by simp))
              · rw [eb]; exact cl8.set hm hh ho
            refine ⟨_, SqL.of tb8.tb, _, g2, _, rfl, _, SqL.of g3, _, atRow _ ho, _, rfl, ?_⟩
            refine ite2 (fun c => fin true (by rw [c]; rfl)) (fun c => ?_)
            refine ⟨_, SqL.of tb8.tb, _, g2, _, rfl, _, SqL.of g3, _, atRow _ hm, _, rfl, ?_⟩
            refine ite2 (fun c' => ?_) (fun c' => ?_)
            · refine ⟨_, SqL.of tb8.tb, _, k2, _, rfl, _, SqL.of k3, _, atRow _ ho, ?_⟩
              exact fin _ (by rw [Bool.eq_false_iff.mpr c, c']; rfl)
            · exact fin false (by rw [Bool.eq_false_iff.mpr c, Bool.eq_false_iff.mpr c']; rfl)
          · rintro σ H8 ⟨T, v5, v9, v10, v11, rfl, D8, nt8, tb8, cl8⟩
            rw [Int.toNat_natCast] at cl8
            exact ⟨T, _, _, _, _, _, rfl, D8, nt8, tb8, cl8.line⟩
        · rintro σ H7 ⟨T, v5, v6, v9, v10, v11, rfl, D7, nt7, tb7, cl7⟩
          rw [Int.toNat_natCast] at cl7
          exact ⟨T, _, _, _, _, _, _, rfl, D7, nt7, tb7, cl7.next hm⟩
      · rintro σ H6 ⟨T, v5, v6, v8, v9, v10, v11, rfl, D6, nt6, tb6, cl6⟩
        rw [Int.toNat_natCast] at cl6
        exact ⟨T, _, _, _, _, _, _, rfl, D6, nt6, tb6, fun h o a b => ⟨cl6.snd h o a b, fun r => cl6.cpl h o a b (r.wk (Nat.le_refl _))⟩⟩
    rintro σ H6 ⟨T1, v5, v6, v8, v9, v10, v11, rfl, D6, nt6, tb6, hT⟩
    walk_at "rd"
    refine ⟨by omega, fun L9 hL => ?_⟩
    have L90 := D6.a_some hL
    have tH := tb6.tb
    have nLt : L9 ≠ t := fun e => by rw [e, tH] at hL; cases hL
    have nLr : ∀ h r, rws[h]? = some r → r ≠ L9 := fun h r hr e => by
      have := (tb6.rw_ h r hr).1
      rw [e, hL] at this
      cases this
    refine ⟨fun σ H' => ∃ (es : List (Addr × List Nat)) (v5 v6 v8 v10 v11 : Option V), σ = [some (.ref a), some (.ref d), some (.int (0 + i)), some (.ref na), some (.int (rs.length : Nat)), v5, v6, some (.ref t), v8, some (.ref L9), v10, v11] ∧ Deal H' d l ∧ NetAt H' (.ref na) tops rs ∧ H' L9 = some (.lst (es.map fun e => V.ref e.1)) ∧ LotsTo rs rs.length H' rs.length es, ?_, ?_⟩
    · refine ⟨_, rfl, _, rfl, by omega, by omega, for_range (lo := 0) (n := ((rs.length : Nat) : Int).toNat) (fun h σ H' => ∃ (es : List (Addr × List Nat)) (v5 v6 v8 v10 v11 : Option V), σ = [some (.ref a), some (.ref d), some (.int (0 + i)), some (.ref na), some (.int (rs.length : Nat)), v5, v6, some (.ref t), v8, some (.ref L9), v10, v11] ∧ Deal H' d l ∧ NetAt H' (.ref na) tops rs ∧ TabAt H' d l t rws rs.length T1 ∧ H' L9 = some (.lst (es.map fun e => V.ref e.1)) ∧ LotsTo rs rs.length H' h es)
        ⟨[], _, _, _, _, _, rfl, D6.new hL, nt6.m (TK.new hL), tb6.m (Same.new hL), upd_same, rfl, by simp⟩ ?_ ?_⟩
      · rintro h σ H7 hh ⟨es, v5, v6, v8, v10, v11, rfl, D7, nt7, tb7, l7, es7⟩
        rw [Int.toNat_natCast] at hh
        walk_at "rd"
        simp only [Int.zero_add, Int.toNat_natCast]
        refine ⟨_, _, tops, rs, rfl, nt7, hdr, by omega, fun b ns H8 s8 hb pw mem => ?_⟩
        have ens : ns = (List.range rs.length).filter (T1 h) := sorted_ext pw (filt_srt _ _) fun o => by
          rw [mem, List.mem_filter, List.mem_range]
          exact ⟨fun r => ⟨r.lt, (hT h o hh r.lt).mpr r⟩, fun r => (hT h o hh r.1).mp r.2⟩
        have hd1 : Dp K H8 (.ref b) (dataN ns) := .tup (SqT.of hb) (dpInts _)
        have hs1 : Sh (dataN ns) := sh_dataN (fun o ho => by have := ((mem o).mp ho).lt; omega) (by rw [ens]; exact Nat.le_trans (filt_len _ _) (by omega))
        refine ⟨_, hd1, hs1, by omega, by omega, fun D hD => pickRow (tb7.m s8) hD (by omega) hh fun H9 c1 c2 => ⟨_, SqL.of c1, fun l1 hl1 => ?_⟩⟩
        refine ⟨dataN ns, .tup (SqT.of upd_same) (by rw [ens]; exact dpInts _), hs1, rfl, ?_⟩
        have sm : Same H7 (upd H9 l1 (.tup ((ofN ((List.range rs.length).filter (T1 h))).map V.int))) := Same.new1 (Same.trans s8 c2) hl1
        rw [if_neg (by simp)]
        generalize upd H9 l1 (.tup ((ofN ((List.range rs.length).filter (T1 h))).map V.int)) = Ha at sm ⊢
        have la := sm _ _ l7
        have tba := tb7.m sm
        refine ⟨.inl ⟨rfl, _, SqL.of la⟩, by omega, by omega, fun D2 hD2 => ?_⟩
        have lotP : Lot rs rs.length h ((List.range rs.length).filter fun o => decide (o = h) || (T1 h o && T1 o h)) := ⟨filt_srt _ _, fun o => by
          rw [List.mem_filter, List.mem_range, Bool.or_eq_true, Bool.and_eq_true, decide_eq_true_eq]
          constructor
          · rintro ⟨oN, e | ⟨e1, e2⟩⟩
            · exact ⟨oN, .inl e⟩
            · exact ⟨oN, .inr ⟨(hT h o hh oN).mp e1, (hT o h oN hh).mp e2⟩⟩
          · rintro ⟨oN, e | ⟨e1, e2⟩⟩
            · exact ⟨oN, .inl e⟩
            · exact ⟨oN, .inr ⟨(hT h o hh oN).mpr e1, (hT o h oN hh).mpr e2⟩⟩⟩
        refine lcR (lo := 0) (n := rs.length) (fun o H' => H' D2 = some (.lst ((ofN ((List.range o).filter fun o => decide (o = h) || (T1 h o && T1 o h))).map V.int)) ∧ Same Ha H') ⟨upd_same, Same.new hD2⟩ ?_ ?_
        · rintro o Hb ho ⟨c3, c4⟩
          simp only [Int.zero_add]
          have yes : (decide (o = h) || (T1 h o && T1 o h)) = true → ∃ acc, Hb D2 = some (.lst acc) ∧ acc.length < sizeLine ∧ upd Hb D2 (.lst (acc ++ [V.int (o : Nat)])) D2 = some (.lst ((ofN ((List.range (o + 1)).filter fun o => decide (o = h) || (T1 h o && T1 o h))).map V.int)) ∧ Same Ha (upd Hb D2 (.lst (acc ++ [V.int (o : Nat)]))) := fun c => by
            refine ⟨_, c3, ?_, ?_, Same.put c4 hD2⟩
            · have hl := filt_len (fun o => decide (o = h) || (T1 h o && T1 o h)) o
              rw [List.length_map, ofN_len]; omega
            · rw [upd_same, filt_succ, if_pos c]
              simp only [ofN, List.map_append, List.map_cons, List.map_nil]
          have no : (decide (o = h) || (T1 h o && T1 o h)) = false → Hb D2 = some (.lst ((ofN ((List.range (o + 1)).filter fun o => decide (o = h) || (T1 h o && T1 o h))).map V.int)) ∧ Same Ha Hb := fun c => by
            refine ⟨?_, c4⟩
            rw [filt_succ, if_neg (by rw [c]; decide)]
            exact c3
          obtain ⟨r, g1, g2, g3⟩ := tba.get hh
          obtain ⟨r', k1, k2, k3⟩ := tba.get ho
          refine ⟨rfl, ite2 (fun c => yes ?_) (fun c => ?_)⟩
          · have this := of_decide_eq_true c
            injection this with this
            rw [decide_eq_true (show o = h by omega)]; rfl
          have ne : decide (o = h) = false := decide_eq_false fun e => c (by rw [e]; simp)
          refine ⟨_, SqL.of (c4 _ _ tba.tb), _, g2, _, rfl, _, _, rfl, SqL.of (c4 _ _ g3), _, atRow _ ho, _, rfl, ite2 (fun c5 => ?_) (fun c5 => no (by rw [ne, Bool.eq_false_iff.mpr c5]; rfl))⟩
          refine ⟨_, _, rfl, SqL.of (c4 _ _ tba.tb), _, k2, _, rfl, _, SqL.of (c4 _ _ k3), _, atRow _ hh, _, rfl, ite2 (fun c6 => yes (by rw [ne, c5, c6]; rfl)) (fun c6 => no (by rw [ne, c5, Bool.eq_false_iff.mpr c6]; rfl))⟩
        · rintro Hb ⟨c3, c4⟩
          have lb := c4 _ _ la
          refine ⟨_, SqL.of c3, fun l2 hl2 => ?_⟩
          have nl2 : L9 ≠ l2 := fun e => by rw [e, hl2] at lb; cases lb
          have sm2 : Same H7 (upd Hb l2 (.tup ((ofN ((List.range rs.length).filter fun o => decide (o = h) || (T1 h o && T1 o h))).map V.int))) := Same.new1 (Same.trans sm c4) hl2
          have tb2 := tb7.m sm2
          have l2' := sm2 _ _ l7
          have tk := TK.put (o' := .lst ((es.map fun e => V.ref e.1) ++ [V.ref l2])) l2' (fun _ => by simp)
          refine ⟨_, l2', ?_, es ++ [(l2, (List.range rs.length).filter fun o => decide (o = h) || (T1 h o && T1 o h))], _, _, _, _, _, ⟨rfl, rfl, rfl, rfl, rfl⟩, (Deal.m D7 sm2).putO L90.1 L90.2, (nt7.m (TK.of sm2)).m tk, ?_, by rw [upd_same, List.map_append]; rfl, ?_, ?_⟩
          · rw [List.length_map, es7.1]; omega
          · exact ⟨by rw [upd_ne nLt.symm]; exact tb2.tb, tb2.len, tb2.nd, fun h' r hr => ⟨by rw [upd_ne (nLr h' r hr)]; exact (tb2.rw_ h' r hr).1, (tb2.rw_ h' r hr).2⟩⟩
          · rw [List.length_append, es7.1]; rfl
          · intro j e he
            rw [List.getElem?_append] at he
            split at he
            · obtain ⟨q1, q2⟩ := es7.2 j e he
              exact ⟨tk _ _ (sm2 _ _ q1), q2⟩
            · rename_i c
              have z1 := (List.getElem?_eq_some_iff.mp he).1
              have z2 := es7.1
              rw [List.length_singleton] at z1
              have z3 : j = h := by omega
              subst z3
              rw [z2, Nat.sub_self] at he
              obtain rfl := Option.some.inj he
              exact ⟨by rw [upd_ne nl2.symm, upd_same], lotP⟩
      · rintro σ H7 ⟨es, v5, v6, v8, v10, v11, rfl, D7, nt7, tb7, l7, es7⟩
        rw [Int.toNat_natCast] at es7
        exact ⟨es, _, _, _, _, _, rfl, D7, nt7, l7, es7⟩
    rintro σ H7 ⟨es, v5, v6, v8, v10, v11, rfl, D7, nt7, l7, es7⟩
    walk_at "rd"
    simp only [cxP]
    refine ⟨_, tops, rs, rfl, nt7, hdr, by omega, ok.same.symm, fun b ks H8 s8 hb kt kk => ?_⟩
    have kfew := kk.few
    rw [List.length_map] at kfew
    have hdL : Dp K H8 (.ref b) (dataL (ks.map (·.2))) := .tup (SqT.of hb) (dpRefs ks kt)
    have shL : Sh (dataL (ks.map (·.2))) := sh_dataL (fun x hx o ho => by
      obtain ⟨h, t', _, lo⟩ := kk.lot x hx
      have := ((lo.mem o).mp ho).1
      omega) (fun x hx => by
      obtain ⟨h, t', _, lo⟩ := kk.lot x hx
      have := lot_len lo
      omega) (by rw [List.length_map]; omega)
    have et : ∀ e ∈ es, H8 e.1 = some (.tup ((ofN e.2).map V.int)) ∧ ∃ j, j < rs.length ∧ Lot rs rs.length j e.2 := fun e he => by
      obtain ⟨j, hj⟩ := List.mem_iff_getElem?.mp he
      have hjl := (List.getElem?_eq_some_iff.mp hj).1
      rw [es7.1] at hjl
      exact ⟨s8 _ _ (es7.2 j e hj).1, j, hjl, (es7.2 j e hj).2⟩
    have lrefs : ∀ xs : List (Addr × List Nat), (xs.map asI).map (fun p => V.ref p.1) = xs.map fun e => V.ref e.1 := fun xs => by rw [List.map_map]; rfl
    refine ⟨_, hdL, shL, es.map asI, by rw [lrefs]; exact SqL.of (s8 _ _ l7), fun p hp => ?_, by rw [List.length_map, es7.1]; omega, fun a9 L ha hsub hall => ⟨L, upd_same, fun p hp => ?_, fun p hp => ?_, fun p hp q' hq e => ?_, fun L' p pm nd lt' pw hp => ⟨_, SqL.of upd_same, fun l1 hl1 => ?_⟩⟩⟩
    · obtain ⟨e, he, rfl⟩ := List.mem_map.mp hp
      exact SqT.of (et e he).1
    · obtain ⟨e, he, rfl⟩ := List.mem_map.mp (hsub p hp)
      exact SqT.of (TK.new ha _ _ (et e he).1)
    · obtain ⟨e, he, rfl⟩ := List.mem_map.mp (hsub p hp)
      obtain ⟨_, j, hj, lo⟩ := et e he
      intro z
      have z2 : e.2 = [] := ofN_inj (xs := e.2) (ys := []) z
      have := (lo.mem j).mpr ⟨hj, Mate.refl j⟩
      rw [z2] at this
      cases this
    · obtain ⟨x, hx, rfl⟩ := List.mem_map.mp (hsub p hp)
      obtain ⟨y, hy, rfl⟩ := List.mem_map.mp (hsub q' hq)
      obtain ⟨_, j, hj, lo⟩ := et x hx
      obtain ⟨_, j', hj', lo'⟩ := et y hy
      have e2 : (ofN x.2).headD 0 = (ofN y.2).headD 0 := e
      rw [headD_ofN, headD_ofN] at e2
      show ofN x.2 = ofN y.2
      rw [lot_head lo lo' hj hj' (by omega)]
    obtain ⟨ms, rfl, hms⟩ := lift_asI (es := es) (L := L') fun p hp => hsub p (pm.mem_iff.mp hp)
    have hkm : ks.map (·.2) = ms.map (·.2) := by
      refine kk.eq ?_ ?_ fun x => ?_
      · rw [List.pairwise_map] at pw
        rw [List.map_map, List.pairwise_map]
        refine pw.imp fun {u v} q1 => ?_
        have q2 : (ofN u.2).headD 0 ≤ (ofN v.2).headD 0 := q1
        rw [headD_ofN, headD_ofN] at q2
        show u.2.headD 0 ≤ v.2.headD 0
        omega
      · rw [List.map_map] at nd
        have nd2 : ((ms.map (·.2)).map ofN).Nodup := by rw [List.map_map]; exact nd
        exact nodup_of_map nd2
      · constructor
        · intro hx
          obtain ⟨e, he, rfl⟩ := List.mem_map.mp hx
          obtain ⟨_, j, hj, lo⟩ := et e (hms e he)
          exact ⟨j, hj, lo⟩
        · rintro ⟨h, hN, lo⟩
          have e1 : es[h]? = some (es[h]'(by rw [es7.1]; exact hN)) := List.getElem?_eq_getElem _
          have lo2 := (es7.2 h _ e1).2
          have he := List.mem_of_getElem? e1
          have q1 := hall _ (List.mem_map_of_mem (f := asI) he)
          obtain ⟨p2, hp2, e2⟩ := List.mem_map.mp q1
          obtain ⟨e3, he3, rfl⟩ := List.mem_map.mp (pm.mem_iff.mpr hp2)
          have e4 := ofN_inj (show ofN e3.2 = ofN _ from e2)
          rw [lo.same lo2 (Mate.refl h), ← e4]
          exact List.mem_map_of_mem he3
    rw [lrefs] at hl1 ⊢
    have smz : Same H8 (upd (upd (upd H8 a9 (SetTO P w a9 L)) p (.lst (ms.map fun e => V.ref e.1))) l1 (.tup (ms.map fun e => V.ref e.1))) := Same.new1 (Same.new1 (Same.new ha) hp) hl1
    have hdM : Dp K (upd (upd (upd H8 a9 (SetTO P w a9 L)) p (.lst (ms.map fun e => V.ref e.1))) l1 (.tup (ms.map fun e => V.ref e.1))) (.ref l1) (dataL (ks.map (·.2))) := by
      refine .tup (SqT.of upd_same) ?_
      rw [hkm]
      exact dpRefs ms fun e he => smz _ _ (et e (hms e he)).1
    refine ⟨_, hdM, shL, rfl, ?_⟩
    rw [if_neg (by simp)]
    generalize upd (upd (upd H8 a9 (SetTO P w a9 L)) p (.lst (ms.map fun e => V.ref e.1))) l1 (.tup (ms.map fun e => V.ref e.1)) = Hz at smz ⊢
    refine ⟨b, rfl, ⟨_, SqT.of (smz _ _ hb)⟩, fun D hD => ?_⟩
    refine lcT (xs := ks.map fun e => V.ref e.1) (fun j H' => H' D = some (.lst (((ks.take j).map fun e => ((e.2.length : Nat) : Int)).map V.int)) ∧ Same Hz H') ⟨by rw [upd_same, List.take_zero]; rfl, Same.new hD⟩ (fun j H' _ h => SqT.of (h.2 _ _ (smz _ _ hb))) ?_ ?_
    · rintro j x H9 hx ⟨c1, c2⟩
      rw [List.getElem?_map] at hx
      obtain ⟨e, he, rfl⟩ := Option.map_eq_some_iff.mp hx
      have te := c2 _ _ (smz _ _ (kt e (List.mem_of_getElem? he)))
      refine ⟨e.1, rfl, _, .inr (SqT.of te), _, c1, by rw [List.length_map, List.length_map, List.length_take]; omega, ?_, Same.put c2 hD⟩
      rw [upd_same, List.take_add_one, he, Option.toList_some, List.map_append, List.map_append, List.length_map, ofN_len]
      rfl
    · rintro H9 ⟨c1, c2⟩
      rw [List.length_map, List.take_length] at c1
      have e1 : (ks.map fun e => ((e.2.length : Nat) : Int)).sum = (rs.length : Nat) := by
        have z := sum_len (ks.map (·.2))
        rw [List.map_map, kk.flat] at z
        exact z
      refine ⟨_, SqL.of c1, rfl, ?_⟩
      rw [e1, if_neg (by simp)]
      exact ⟨_, _, _, _, _, _, _, _, _, _, ⟨rfl, rfl, rfl, rfl, rfl, rfl, rfl, rfl, rfl, rfl⟩, Deal.m (Deal.m D7 (Same.trans s8 smz)) c2⟩
  · rintro σ H2 ⟨v2, v3, v4, v5, v6, v7, v8, v9, v10, v11, rfl, D2⟩
    walk_at "rd"
    exact q H2
end
end K04
set_option linter.all false
set_option maxRecDepth 100000
set_option maxHeartbeats 4000000
namespace K04
open PySem PySem.Spec PyProof.Rows L2 NB
theorem all_mk {l : PySem.W.OpenLaw} {w : World} {K : PySem.W.Frag} {h : Heap} {mg : Str → Option Value} {fa : Addr} (X : K.In h) (G : h.Ns mainGlobals mg) (hfa : mg "law" = some (.ref fa))
    {f1 f2 f3 f4 f5 f6 f7 f8 f9 f10 f11 f12 f13 : Addr} {od1 an1 od2 an2 od3 an3 od4 an4 od5 an5 od6 an6 od7 an7 od8 an8 od9 an9 od10 an10 od11 an11 od12 an12 od13 an13 : Option Addr} {sl1 sl2 sl3 sl4 sl5 sl6 sl7 sl8 sl9 sl10 sl11 sl12 sl13 : Array (Option Value)} {oc1 kV1 dc1 pm1 cd1 ct1 oc2 kV2 dc2 pm2 cd2 ct2 oc3 kV3 dc3 pm3 cd3 ct3 oc4 kV4 dc4 pm4 cd4 ct4 oc5 kV5 dc5 pm5 cd5 ct5 oc6 kV6 dc6 pm6 cd6 ct6 oc7 kV7 dc7 pm7 cd7 ct7 oc8 kV8 dc8 pm8 cd8 ct8 oc9 kV9 dc9 pm9 cd9 ct9 oc10 kV10 dc10 pm10 cd10 ct10 oc11 kV11 dc11 pm11 cd11 ct11 oc12 kV12 dc12 pm12 cd12 ct12 oc13 kV13 dc13 pm13 cd13 ct13 : Value} {e1 e2 : Addr} {od91 od92 : Option Addr} {sl91 sl92 : Array (Option Value)} {nn91 nn92 : Nat} {t91 t92 t93 t94 t95 : Tok}
    (a1 : PySem.W.nsIn K mainGlobals "inner_rules" = some (some (.ref f1))) (l1 : K.lookup f1 = some ⟨oc1, od1, .func (PySem.W.fnOf "inner_rules" "inner_rules" (defArgs s_inner_rules) (defBody s_inner_rules) (defScope s_inner_rules) .none kV1 dc1 pm1 an1 cd1 ct1), sl1⟩) (c1 : PySem.W.codeIn K cd1 "inner_rules" = true) (k1 : PySem.W.keepIn K (.ref f1) = true)
    (a2 : PySem.W.nsIn K mainGlobals "branches" = some (some (.ref f2))) (l2 : K.lookup f2 = some ⟨oc2, od2, .func (PySem.W.fnOf "branches" "branches" (defArgs s_branches) (defBody s_branches) (defScope s_branches) .none kV2 dc2 pm2 an2 cd2 ct2), sl2⟩) (c2 : PySem.W.codeIn K cd2 "branches" = true) (k2 : PySem.W.keepIn K (.ref f2) = true)
    (a3 : PySem.W.nsIn K mainGlobals "hearers" = some (some (.ref f3))) (l3 : K.lookup f3 = some ⟨oc3, od3, .func (PySem.W.fnOf "hearers" "hearers" (defArgs s_hearers) (defBody s_hearers) (defScope s_hearers) .none kV3 dc3 pm3 an3 cd3 ct3), sl3⟩) (c3 : PySem.W.codeIn K cd3 "hearers" = true) (k3 : PySem.W.keepIn K (.ref f3) = true)
    (a4 : PySem.W.nsIn K mainGlobals "reached" = some (some (.ref f4))) (l4 : K.lookup f4 = some ⟨oc4, od4, .func (PySem.W.fnOf "reached" "reached" (defArgs s_reached) (defBody s_reached) (defScope s_reached) .none kV4 dc4 pm4 an4 cd4 ct4), sl4⟩) (c4 : PySem.W.codeIn K cd4 "reached" = true) (k4 : PySem.W.keepIn K (.ref f4) = true)
    (a5 : PySem.W.nsIn K mainGlobals "knots" = some (some (.ref f5))) (l5 : K.lookup f5 = some ⟨oc5, od5, .func (PySem.W.fnOf "knots" "knots" (defArgs s_knots) (defBody s_knots) (defScope s_knots) .none kV5 dc5 pm5 an5 cd5 ct5), sl5⟩) (c5 : PySem.W.codeIn K cd5 "knots" = true) (k5 : PySem.W.keepIn K (.ref f5) = true)
    (a6 : PySem.W.nsIn K mainGlobals "_law_draw" = some (some (.ref f6))) (l6 : K.lookup f6 = some ⟨oc6, od6, .func (PySem.W.fnOf "_law_draw" "_law_draw" (defArgs s_law_draw) (defBody s_law_draw) (defScope s_law_draw) .none kV6 dc6 pm6 an6 cd6 ct6), sl6⟩) (c6 : PySem.W.codeIn K cd6 "_law_draw" = true) (k6 : PySem.W.keepIn K (.ref f6) = true)
    (a7 : PySem.W.nsIn K mainGlobals "_law_any" = some (some (.ref f7))) (l7 : K.lookup f7 = some ⟨oc7, od7, .func (PySem.W.fnOf "_law_any" "_law_any" (defArgs sAny) (defBody sAny) (defScope sAny) .none kV7 dc7 pm7 an7 cd7 ct7), sl7⟩) (c7 : PySem.W.codeIn K cd7 "_law_any" = true) (k7 : PySem.W.keepIn K (.ref f7) = true)
    (a8 : PySem.W.nsIn K mainGlobals "_law_of" = some (some (.ref f8))) (l8 : K.lookup f8 = some ⟨oc8, od8, .func (PySem.W.fnOf "_law_of" "_law_of" (defArgs s_law_of) (defBody s_law_of) (defScope s_law_of) .none kV8 dc8 pm8 an8 cd8 ct8), sl8⟩) (c8 : PySem.W.codeIn K cd8 "_law_of" = true) (k8 : PySem.W.keepIn K (.ref f8) = true)
    (a9 : PySem.W.nsIn K mainGlobals "_law_rule" = some (some (.ref f9))) (l9 : K.lookup f9 = some ⟨oc9, od9, .func (PySem.W.fnOf "_law_rule" "_law_rule" (defArgs s_law_rule) (defBody s_law_rule) (defScope s_law_rule) .none kV9 dc9 pm9 an9 cd9 ct9), sl9⟩) (c9 : PySem.W.codeIn K cd9 "_law_rule" = true) (k9 : PySem.W.keepIn K (.ref f9) = true)
    (a10 : PySem.W.nsIn K mainGlobals "_law_net" = some (some (.ref f10))) (l10 : K.lookup f10 = some ⟨oc10, od10, .func (PySem.W.fnOf "_law_net" "_law_net" (defArgs s_law_net) (defBody s_law_net) (defScope s_law_net) .none kV10 dc10 pm10 an10 cd10 ct10), sl10⟩) (c10 : PySem.W.codeIn K cd10 "_law_net" = true) (k10 : PySem.W.keepIn K (.ref f10) = true)
    (a11 : PySem.W.nsIn K mainGlobals "_law_parts" = some (some (.ref f11))) (l11 : K.lookup f11 = some ⟨oc11, od11, .func (PySem.W.fnOf "_law_parts" "_law_parts" (defArgs s_law_parts) (defBody s_law_parts) (defScope s_law_parts) .none kV11 dc11 pm11 an11 cd11 ct11), sl11⟩) (c11 : PySem.W.codeIn K cd11 "_law_parts" = true) (k11 : PySem.W.keepIn K (.ref f11) = true)
    (a12 : PySem.W.nsIn K mainGlobals "_law_branches" = some (some (.ref f12))) (l12 : K.lookup f12 = some ⟨oc12, od12, .func (PySem.W.fnOf "_law_branches" "_law_branches" (defArgs s_law_branches) (defBody s_law_branches) (defScope s_law_branches) .none kV12 dc12 pm12 an12 cd12 ct12), sl12⟩) (c12 : PySem.W.codeIn K cd12 "_law_branches" = true) (k12 : PySem.W.keepIn K (.ref f12) = true)
    (a13 : PySem.W.nsIn K mainGlobals "law" = some (some (.ref f13))) (l13 : K.lookup f13 = some ⟨oc13, od13, .func (PySem.W.fnOf "law" "law" (defArgs s_law) (defBody s_law) (defScope s_law) .none kV13 dc13 pm13 an13 cd13 ct13), sl13⟩) (c13 : PySem.W.codeIn K cd13 "law" = true) (k13 : PySem.W.keepIn K (.ref f13) = true)
    (z1 : PySem.W.nsIn K mainGlobals "tuple" = some none)
    (z2 : PySem.W.nsIn K mainGlobals "enumerate" = some none)
    (z3 : PySem.W.nsIn K mainGlobals "set" = some none)
    (z4 : PySem.W.nsIn K mainGlobals "sorted" = some none)
    (z5 : PySem.W.nsIn K mainGlobals "range" = some none)
    (z6 : PySem.W.nsIn K mainGlobals "len" = some none)
    (z7 : PySem.W.nsIn K mainGlobals "int" = some none)
    (z8 : PySem.W.nsIn K mainGlobals "abs" = some none)
    (z9 : PySem.W.nsIn K mainGlobals "list" = some none)
    (z10 : PySem.W.nsIn K mainGlobals "repr" = some none)
    (z11 : PySem.W.nsIn K mainGlobals "sum" = some none)
    (u1 : PySem.W.nsIn K mainGlobals "LEAF_WORDS" = some (some (.ref e1)))
    (w1 : K.lookup e1 = some ⟨.type "tuple", od91, .seq #[.str "is" t91, .str "hear" t92] nn91, sl91⟩)
    (u2 : PySem.W.nsIn K mainGlobals "LIST_WORDS" = some (some (.ref e2)))
    (w2 : K.lookup e2 = some ⟨.type "tuple", od92, .seq #[.str "least" t93, .str "most" t94, .str "add" t95] nn92, sl92⟩)
    : ∃ fd : FuncData, (∀ (s : Shared) (v : Value), BindsTo s fd ⟨[v], []⟩ [("script", v)]) ∧ ∀ base : Heap, K.In base → base.Ns mainGlobals mg → FnA callerA l.prog w K mg base CX0 fa fd ["script"] (spLaw K) := by
  have e := hfa.symm.trans (PySem.W.mg_of X G a13)
  cases e
  have F1 := fun_mk (st := s_inner_rules) l1 c1 k1
  have F2 := fun_mk (st := s_branches) l2 c2 k2
  have F3 := fun_mk (st := s_hearers) l3 c3 k3
  have F4 := fun_mk (st := s_reached) l4 c4 k4
  have F5 := fun_mk (st := s_knots) l5 c5 k5
  have F6 := fun_mk (st := s_law_draw) l6 c6 k6
  have F7 := fun_mk (st := sAny) l7 c7 k7
  have F8 := fun_mk (st := s_law_of) l8 c8 k8
  have F9 := fun_mk (st := s_law_rule) l9 c9 k9
  have F10 := fun_mk (st := s_law_net) l10 c10 k10
  have F11 := fun_mk (st := s_law_parts) l11 c11 k11
  have F12 := fun_mk (st := s_law_branches) l12 c12 k12
  have F13 := fun_mk (st := s_law) l13 c13 k13
  have b1 := F1.binds (ps := ["rule"]) fun _ _ _ _ _ _ us hl => match us, hl with | [_], _ => rfl
  have b2 := F2.binds (ps := ["rule"]) fun _ _ _ _ _ _ us hl => match us, hl with | [_], _ => rfl
  have b3 := F3.binds (ps := ["net", "house"]) fun _ _ _ _ _ _ us hl => match us, hl with | [_, _], _ => rfl
  have b4 := F4.binds (ps := ["net", "house"]) fun _ _ _ _ _ _ us hl => match us, hl with | [_, _], _ => rfl
  have b5 := F5.binds (ps := ["net"]) fun _ _ _ _ _ _ us hl => match us, hl with | [_], _ => rfl
  have b6 := F6.binds (ps := ["script", "salt"]) fun _ _ _ _ _ _ us hl => match us, hl with | [_, _], _ => rfl
  have b7 := F7.binds (ps := ["deal", "bound"]) fun _ _ _ _ _ _ us hl => match us, hl with | [_, _], _ => rfl
  have b8 := F8.binds (ps := ["deal", "some"]) fun _ _ _ _ _ _ us hl => match us, hl with | [_, _], _ => rfl
  have b9 := F9.binds (ps := ["deal", "n", "top", "deep", "any_row"]) fun _ _ _ _ _ _ us hl => match us, hl with | [_, _, _, _, _], _ => rfl
  have b10 := F10.binds (ps := ["deal", "most", "top", "any_row"]) fun _ _ _ _ _ _ us hl => match us, hl with | [_, _, _, _], _ => rfl
  have b11 := F11.binds (ps := ["rule"]) fun _ _ _ _ _ _ us hl => match us, hl with | [_], _ => rfl
  have b12 := F12.binds (ps := ["rule"]) fun _ _ _ _ _ _ us hl => match us, hl with | [_], _ => rfl
  have g1 := PySem.W.mg_of X G a1
  have g2 := PySem.W.mg_of X G a2
  have g3 := PySem.W.mg_of X G a3
  have g4 := PySem.W.mg_of X G a4
  have g5 := PySem.W.mg_of X G a5
  have g6 := PySem.W.mg_of X G a6
  have g7 := PySem.W.mg_of X G a7
  have g8 := PySem.W.mg_of X G a8
  have g9 := PySem.W.mg_of X G a9
  have g10 := PySem.W.mg_of X G a10
  have g11 := PySem.W.mg_of X G a11
  have g12 := PySem.W.mg_of X G a12
  have g13 := PySem.W.mg_of X G a13
  have n1 := PySem.W.mg_none_of X G z1
  have n2 := PySem.W.mg_none_of X G z2
  have n3 := PySem.W.mg_none_of X G z3
  have n4 := PySem.W.mg_none_of X G z4
  have n5 := PySem.W.mg_none_of X G z5
  have n6 := PySem.W.mg_none_of X G z6
  have n7 := PySem.W.mg_none_of X G z7
  have n8 := PySem.W.mg_none_of X G z8
  have n9 := PySem.W.mg_none_of X G z9
  have n10 := PySem.W.mg_none_of X G z10
  have n11 := PySem.W.mg_none_of X G z11
  refine ⟨PySem.W.fnOf "law" "law" (defArgs s_law) (defBody s_law) (defScope s_law) .none kV13 dc13 pm13 an13 cd13 ct13, fun s v => .of_eq rfl, fun base _ _ => ?_⟩
  have W : Wds K mg e1 e2 := ⟨PySem.W.mg_of X G u1, PySem.W.mg_of X G u2, ⟨_, _, _, w1, rfl, rfl, (show 2 ≤ sizeLine by decide), .cons ⟨_, rfl⟩ (.cons ⟨_, rfl⟩ .nil)⟩, ⟨_, _, _, w2, rfl, rfl, (show 3 ≤ sizeLine by decide), .cons ⟨_, rfl⟩ (.cons ⟨_, rfl⟩ (.cons ⟨_, rfl⟩ .nil))⟩⟩
  have O1 := ok_inner_rules (P := l.prog) (w := w) (base := base) F1 W
  have O2 := ok_branchesN F2 O1 g2 b2 g1 k1 b1 n1 4
  have O3 := ok_hearers F3 O2 g2 k2 b2 n1 n2
  have O4 := ok_reached F4 O3 g3 k3 b3 n1 n3 n4
  have O5 := ok_knots F5 O4 g4 k4 b4 n1 n5 n6
  have O6 := ok_draw (P := l.prog) (w := w) (base := base) F6 n7 n8
  have O7 := ok_any (P := l.prog) (w := w) (base := base) F7 n7
  have O8 := ok_of F8 O7 g7 k7 b7 n6
  have O9 := ok_law_ruleN F9 O7 g7 k7 b7 O8 g8 k8 b8 g9 b9 n1 n5 n4 4
  have O10 := ok_law_net F10 O7 g7 k7 b7 O9 g9 k9 b9 n1 n5
  have O11 := ok_law_parts (P := l.prog) (w := w) (base := base) F11 n9
  have O12 := ok_law_branchesN F12 O11 g12 b12 g11 k11 b11 4
  exact ok_law F13 ⟨O6, O10, O12, O3, O4, O5, g6, g10, g12, g3, g4, g5, k6, k10, k12, k3, k4, k5, b6, b10, b12, kb2 F3 fun _ _ _ _ _ _ _ _ => rfl, kb2 F4 fun _ _ _ _ _ _ _ _ => rfl, kb1 F5 fun _ _ _ _ _ _ _ => rfl, n5, n1, n10, n6, n11, n4, n3⟩
theorem walk {l : PySem.W.OpenLaw} {q : Program} {loose : List Str} {XP : (Str → Option Value) → Heap → Prop} {YP : World → Heap → Prop} {d : DefRec} {K : Params → PySem.W.Frag} (hn : l.most = some 63) (hdf : d.params.defaults = [])
    (hY : ∀ (w : World) (h : Heap), YP w h → (K w.params).In h)
    (F : ∀ (w : World) (mg : Str → Option Value) (fa : Addr) (h : Heap), (K w.params).In h → h.Ns mainGlobals mg → mg d.name = some (.ref fa) →
      ∃ fd : FuncData, (∀ (s : Shared) (u : Value), BindsTo s fd ⟨[u], []⟩ [("script", u)]) ∧ ∀ base : Heap, (K w.params).In base → base.Ns mainGlobals mg → FnA callerA l.prog w (K w.params) mg base CX0 fa fd ["script"] (spLaw (K w.params))) :
    PySem.W.WalkO q loose XP YP l.row.toRowW d [] (fun f vs => PySem.call f vs) :=
  walkA (n := 63) (x := "script") (sp := fun w => spLaw (K w.params)) hn (by decide) hdf hY F (fun _ _ a ns hl hb hS => ⟨a, ns, rfl, hS, fun _ => rfl⟩)
end K04
open PySem PySem.W PyProof.Rows
set_option maxRecDepth 100000 in
set_option maxHeartbeats 0 in
theorem PySem.Challenge.cw_newsbehind_k04_who_hears_whom_holds : PySem.Challenge.rw_newsbehind_k04_who_hears_whom.Holds := by
  w_on; o_law; k_head; (case hw => w_witness2)
  k_fill
  refine K04.walk (l := PySem.Challenge.rw_newsbehind_k04_who_hears_whom) rfl rfl (fun w h Y => PySem.W.kIn_of Y) ?F
  case F =>
    intro w mg fa h KX G hmg
    refine' K04.all_mk KX G hmg ?a1 ?l1 ?c1 ?k1 ?a2 ?l2 ?c2 ?k2 ?a3 ?l3 ?c3 ?k3 ?a4 ?l4 ?c4 ?k4 ?a5 ?l5 ?c5 ?k5 ?a6 ?l6 ?c6 ?k6 ?a7 ?l7 ?c7 ?k7 ?a8 ?l8 ?c8 ?k8 ?a9 ?l9 ?c9 ?k9 ?a10 ?l10 ?c10 ?k10 ?a11 ?l11 ?c11 ?k11 ?a12 ?l12 ?c12 ?k12 ?a13 ?l13 ?c13 ?k13 ?z1 ?z2 ?z3 ?z4 ?z5 ?z6 ?z7 ?z8 ?z9 ?z10 ?z11 ?u1 ?w1 ?u2 ?w2
    (case a1 => k_is)
    (case l1 => k_is)
    (case c1 => k_is)
    (case k1 => k_is)
    (case a2 => k_is)
    (case l2 => k_is)
    (case c2 => k_is)
    (case k2 => k_is)
    (case a3 => k_is)
    (case l3 => k_is)
    (case c3 => k_is)
    (case k3 => k_is)
    (case a4 => k_is)
    (case l4 => k_is)
    (case c4 => k_is)
    (case k4 => k_is)
    (case a5 => k_is)
    (case l5 => k_is)
    (case c5 => k_is)
    (case k5 => k_is)
    (case a6 => k_is)
    (case l6 => k_is)
    (case c6 => k_is)
    (case k6 => k_is)
    (case a7 => k_is)
    (case l7 => k_is)
    (case c7 => k_is)
    (case k7 => k_is)
    (case a8 => k_is)
    (case l8 => k_is)
    (case c8 => k_is)
    (case k8 => k_is)
    (case a9 => k_is)
    (case l9 => k_is)
    (case c9 => k_is)
    (case k9 => k_is)
    (case a10 => k_is)
    (case l10 => k_is)
    (case c10 => k_is)
    (case k10 => k_is)
    (case a11 => k_is)
    (case l11 => k_is)
    (case c11 => k_is)
    (case k11 => k_is)
    (case a12 => k_is)
    (case l12 => k_is)
    (case c12 => k_is)
    (case k12 => k_is)
    (case a13 => k_is)
    (case l13 => k_is)
    (case c13 => k_is)
    (case k13 => k_is)
    (case z1 => k_is)
    (case z2 => k_is)
    (case z3 => k_is)
    (case z4 => k_is)
    (case z5 => k_is)
    (case z6 => k_is)
    (case z7 => k_is)
    (case z8 => k_is)
    (case z9 => k_is)
    (case z10 => k_is)
    (case z11 => k_is)
    (case u1 => k_is)
    (case w1 => k_is)
    (case u2 => k_is)
    (case w2 => k_is)

