import PyProof.Rows.All
import Wide.All
import OpenK.AllK
import Wide.FinOn
import HandS.Base
import HandS.Call
import HandS.List
import HandS.Comp
import HandS.Ends
import HandS.Dict
import HandS.Iter
import HandS.Text
import HandS.Words
import HandS.EndBits
import HandS.Evl
import HandS.Style
import HandS.StrMore
import PyProof.EnumMake
import PyProof.Draws
import HandS.TryOnly
import PyProof.StrLawsRepr
import PySem.Challenge.RW_newsbehind_k05_tokens_and_their_places
set_option Elab.async false
set_option linter.all false
set_option maxRecDepth 100000
set_option maxHeartbeats 4000000
namespace NB
open PySem PySem.Spec PyProof.Rows L2

/-! ### repr of data -/
/-- data that repr writes out in full -/
structure Sh (d : PyData) : Prop where
  sh : d.showable = true
  nd : d.hasDict = false
  dp : d.depth ≤ 64
  sz : d.shown.length ≤ sizeLine
theorem call_reprD {X : Cx} (hg : X.A.guards = some []) (hu : X.A.units + 70 < cLine) :
    CallR X (.builtin "repr") (fun xs H Q => ∃ x d, xs = [x] ∧ Dp X.K H x d ∧ Sh d ∧ Q (.str d.shown) H) := by
  intro pins s σ H xs us Q I r h
  obtain ⟨x, d, rfl, hd, S, q⟩ := h
  obtain ⟨u, rfl, ru⟩ := vals1 r
  have fin : ∀ tk t, EP X pins σ Q (.str d.shown t) { s with toks := tk } := fun tk t => ⟨.str d.shown, H, I.tok _, ⟨t, rfl⟩, q⟩
  have sh := S.sh
  have sz := S.sz
  have big : ∀ a as, u = .ref a → Reads s.heap (.ref a) d as → wpAny (model X.prog X.w) X.A (call (.builtin "repr") [u]) (EP X pins σ Q) X.xe s := by
    rintro a as rfl rd
    refine repr_of_reads' rd S.sh (PyData.noDict_hsm S.nd) hg (by have := S.dp; omega) (fun _ _ e => e) (fun h' v tk hk => ?_) S.sz
    exact ⟨.str d.shown, H, I.kept (t' := tk) hk, ⟨v, rfl⟩, q⟩
  obtain ⟨as, rd⟩ := Dp.reads I d x u hd ru
  cases rd with
  | none => exact PySem.P.repr_of_none (by simpa only [PyData.shown] using fin _ _)
  | bool b => exact PySem.P.repr_of_bool (by simpa only [PyData.shown] using fin _ _)
  | int i t => exact PySem.P.repr_of_int (by simpa only [PyData.showable, decide_eq_true_eq] using sh) (by simpa only [PyData.shown] using fin _ _)
  | str z t => exact PySem.P.repr_of_str (by simpa only [PyData.shown] using fin _ _) (by simpa only [PyData.shown] using sz)
  | list h1 h2 h3 h4 => exact big _ _ rfl (.list h1 h2 h3 h4)
  | tuple h1 h2 h3 h4 => exact big _ _ rfl (.tuple h1 h2 h3 h4)
  | dict h1 h2 h3 h4 h5 => exact big _ _ rfl (.dict h1 h2 h3 h4 h5)

/-! ### a def whose callers stand at one place of the run that is known -/
structure FnA (A : Around) (P : Program) (w : World) (K : PySem.W.Frag) (mg : Str → Option Value) (base : Heap) (CX : CXT) (f : Addr) (fd : FuncData) (ps : List Str) (sp : Sp) : Prop where
  len : ∀ vs H Q E, sp vs H Q E → vs.length = ps.length
  run : ∀ (outer : List Env) (s : Shared) (H : Hp) (args : Args) (us : List Value) (vs : List V) (Q : VK) (E : XK), Env0 P w K mg base A outer s H →
    BindsTo s fd args (ps.zip us) → Vals vs us → sp vs H Q E → codeAny (model P w) A (.call (.ref f) args) (CR CX outer P w H s Q E) s
variable {P : Program} {w : World} {K : PySem.W.Frag} {mg : Str → Option Value} {base : Heap}
theorem funA {A : Around} {x qual : Str} {st : Stmt} {f : Addr} {fd : FuncData} {N ps : List Str} {k : Nat} {sp : Sp} (F : Fun K x qual st f fd) (S : FnScope N ps (defScope st)) (hr : Room (k + 1) A)
    (len : ∀ vs H Q E, sp vs H Q E → vs.length = ps.length)
    (body : ∀ (cdv : Value) (outer : List Env) (s : Shared) (H : Hp) (vs : List V) (Q : VK) (E : XK), Room k (A.deeper (envOfC qual (defScope st) s.heap.objs.size f cdv)) → sp vs H Q E →
      ∃ t, PSs (cxOf CX0 P w K mg base N qual (defScope st) f cdv A outer s H E).nox (defBody st) t ∧ t { nx := fun _ H' => Q .non H', rt := Q } (start N vs) H) :
    FnA A P w K mg base CX0 f fd ps sp := by
  obtain ⟨oc, od, kV, doc, pm, an, cdv, ct, osl, rfl, lk, hcd⟩ := F.ex
  refine ⟨len, fun outer s H args us vs Q E e0 hb r hsp => ?_⟩
  have hl := len _ _ _ _ hsp
  have old : ∀ b o, base.get? b = some o → s.heap.get? b = some o := fun b o e => (e0.bs b o e).1
  have names : ∀ y ∈ ps.zip us, (defScope st).names.lookup y.1 = some .local ∨ (defScope st).names.lookup y.1 = some .cell := fun y hy => S.par y.1 (List.of_mem_zip hy).1
  have hall : ((ps.zip us).all fun y => (defScope st).names.lookup y.1 == some .local || (defScope st).names.lookup y.1 == some .cell) = true := by
    rw [List.all_eq_true]
    intro y hy
    rcases names y hy with q | q
    · rw [q]; rfl
    · rw [q]; rfl
  refine Att.call_fn (e0.mod.kin.keeps old) (e0.mod.nolimit.keeps old) lk hcd hr.depth hb hall (fun s1 x => ?_) S.co S.gen S.kind
  obtain ⟨t, ht, hq⟩ := body cdv outer s H vs Q E (hr.deeper _) hsp
  have I := inv_start (CX := CX0) (E := E) (f := f) (cd := cdv) (qual := qual) S hr.hd e0 hl r x
  refine wpAny_mono (ht.nox.run [] s1 (start N vs) H _ I hq) (fun fl s' hs => ?_) fun e s' hs => hs
  cases fl with
  | ret u => obtain ⟨v, σ', H', J, rv, q⟩ := hs; exact ⟨v, H', J.os, J.bare, J.base, J.hok, rv, q⟩
  | next => obtain ⟨σ', H', J, q⟩ := hs; exact ⟨V.non, H', J.os, J.bare, J.base, J.hok, rfl, q⟩
  | brk => obtain ⟨_, _, _, q⟩ := hs; exact q.elim
  | cont => obtain ⟨_, _, _, q⟩ := hs; exact q.elim

/-- the law's call, its own def known at the caller's place alone -/
theorem callA {mb : Str → Option Value} {fa a : Addr} {fd : FuncData} {x : Str} {sp : Sp} {s1 : Shared} {vs : List Value} {ns : List Int}
    (KX : K.In s1.heap) (hns : s1.heap.Ns mainGlobals mg) (hb : s1.heap.Ns builtinsNs mb) (hbb : ∀ x : Str, x ≠ "__name__" → mb x = bootBuiltins x) (hlim : s1.heap.NoLimit) (hg : s1.gens = #[])
    (ha : s1.heap.get? a = some { cls := .type "list", data := .seq vs.toArray }) (hi : IntsAre vs ns) (hl : ns.length ≤ sizeLine)
    (F : ∀ base : Heap, K.In base → base.Ns mainGlobals mg → FnA callerA P w K mg base CX0 fa fd [x] sp) (hbind : ∀ (s : Shared) (u : Value), BindsTo s fd ⟨[u], []⟩ [(x, u)])
    (hsp : ∀ H : Hp, SqL K H a (ns.map V.int) → sp [.ref a] H (fun v _ => v = .bl true) E0) :
    codeAny (model P w) callerA (.call (.ref fa) ⟨[.ref a], []⟩) (fun r s' => r = .ok (.ret (.bool true)) ∧ OldK s1.heap s'.heap ∧ s'.os = s1.os ∧ AllBare s'.gens) s1 := by
  have rv := vals_ints hi
  let ob : Obj := { cls := .type "list", data := .seq vs.toArray }
  let H : Hp := fun b => if b = a ∧ K.lookup a = none then some (.frz ob (.lst (ns.map V.int))) else none
  have Hn : ∀ b, H b = none ∨ (b = a ∧ K.lookup a = none ∧ H b = some (.frz ob (.lst (ns.map V.int)))) := fun b => by
    by_cases c : b = a ∧ K.lookup a = none
    · exact .inr ⟨c.1, c.2, if_pos c⟩
    · exact .inl (if_neg c)
  have free : ∀ b o, s1.heap.get? b = some o → (∀ es ep, o.data = .dict es ep → H b = none) := fun b o e es ep hd => by
    rcases Hn b with z | ⟨rfl, _, _⟩
    · exact z
    · rw [ha] at e
      cases e
      cases hd
  have nsK : ∀ {b : Addr} {m : Str → Option Value}, s1.heap.Ns b m → (hidT s1.heap H).Ns b m := fun {b m} z => by
    obtain ⟨o, es, ep, e, hd, rest⟩ := z
    exact ⟨o, es, ep, hidT_get e (free b o e es ep hd), hd, rest⟩
  have KB : K.In (hidT s1.heap H) := fun b o e => hidT_get (KX b o e) (by
    rcases Hn b with z | ⟨rfl, hk, _⟩
    · exact z
    · rw [hk] at e; cases e)
  have ok : HOk P w H s1.heap := fun b o e => by
    rcases Hn b with z | ⟨rfl, hk, z⟩
    · rw [z] at e; cases e
    · rw [z] at e
      cases e
      exact ⟨ha, by rw [List.length_map]; exact hl, vs, _, rv, ha⟩
  have hS : SqL K H a (ns.map V.int) := by
    cases hk : K.lookup a with
    | none => exact .inl (.inr ⟨ob, if_pos ⟨rfl, hk⟩⟩)
    | some o =>
      have e := (KX a o hk).symm.trans ha
      obtain rfl := Option.some.inj e
      exact .inr ⟨_, vs.toArray, _, hk, rfl, rfl, rfl, by rw [List.size_toArray, hi.length]; exact hl, by simpa using rv⟩
  have M : Mod K mg (hidT s1.heap H) := ⟨KB, nsK hns, ⟨mb, nsK hb, hbb⟩, by obtain ⟨mc, h1, h2⟩ := hlim; exact ⟨mc, nsK h1, h2⟩⟩
  have e0 : Env0 P w K mg (hidT s1.heap H) callerA [] s1 H :=
    ⟨rfl, M, fun b o e => of_hidT e, Nat.le_of_eq (hidT_size _ _), trivial, fun b hb => (by cases hb), ok, .of_eq hg⟩
  refine codeAny_mono ((F _ KB (nsK hns)).run [] s1 H ⟨[.ref a], []⟩ [.ref a] [.ref a] _ _ e0 (hbind s1 (.ref a)) (.cons rfl .nil) (hsp H hS)) fun r s' h => ?_
  match r, h with
  | .ok (.ret u), h =>
    obtain ⟨v, H', os, bare, un, hok', r', rfl⟩ := h
    obtain rfl : u = Value.bool true := r'
    refine ⟨rfl, OldK.of_keep fun b o e => ?_, os, bare⟩
    rcases Hn b with z | ⟨rfl, hk, z⟩
    · exact un.keep b o e z (by intro q; cases q) (by intro q; cases q)
    · have z2 := un.frzs b ob _ z
      have e2 := (hok' b _ z2).1
      have e1 := (ok b _ z).1
      rw [← e, e1, e2]
theorem walkA {l : PySem.W.OpenLaw} {n : Nat} {q : Program} {loose : List Str} {XP : (Str → Option Value) → Heap → Prop} {YP : World → Heap → Prop} {d : DefRec} {K : Params → PySem.W.Frag} {sp : World → Sp} {x : Str}
    (hn : l.most = some n) (hn2 : n ≤ sizeLine) (hdf : d.params.defaults = []) (hY : ∀ (w : World) (h : Heap), YP w h → (K w.params).In h)
    (F : ∀ (w : World) (mg : Str → Option Value) (fa : Addr) (h : Heap), (K w.params).In h → h.Ns mainGlobals mg → mg d.name = some (.ref fa) →
      ∃ fd : FuncData, (∀ (s : Shared) (u : Value), BindsTo s fd ⟨[u], []⟩ [(x, u)]) ∧ ∀ base : Heap, (K w.params).In base → base.Ns mainGlobals mg → FnA callerA l.prog w (K w.params) mg base CX0 fa fd [x] (sp w))
    (hsp : ∀ (w : World) (H : Hp) (a : Addr) (ns : List Int), ns.length ≤ n → (∀ z ∈ ns, Builtin.Int.intBits z ≤ 1048576) → SqL (K w.params) H a (ns.map V.int) → sp w [.ref a] H (fun v _ => v = .bl true) E0) :
    PySem.W.WalkO q loose XP YP l.row.toRowW d [] (fun f vs => PySem.call f vs) := by
  refine Att.attach_callB hn hdf fun w s0 s1 mg mb fa o pm cd doc a vs ns G Y ho hd hcd hmg hobj hints hlen hbits hg => ?_
  obtain ⟨fd, hb, hF⟩ := F w mg fa _ (hY w _ Y) G.T.g hmg
  exact callA (hY w _ Y) G.T.g G.T.b G.T.builtins G.T.nolimit hg hobj hints (Nat.le_trans hlen hn2) hF hb fun H hS => hsp w H a ns hlen hbits hS
end NB
set_option linter.all false
set_option maxRecDepth 100000
set_option maxHeartbeats 4000000
namespace NB
open PySem PySem.Spec PyProof.Rows L2

/-! ### lists of ints as data -/
theorem dpInts {K : PySem.W.Frag} {H : Hp} : ∀ ns : List Int, DpAll K H (ns.map V.int) (ns.map PyData.int)
  | [] => .nil
  | n :: r => .cons (.int n) (dpInts r)
theorem canInts : ∀ ns : List Int, PyData.canLayAll0 (ns.map PyData.int) = true
  | [] => by simp [PyData.canLayAll0]
  | n :: r => by simp [PyData.canLayAll0, PyData.canLay0, canInts r]
theorem depInts : ∀ ns : List Int, PyData.depthAll (ns.map PyData.int) = 0
  | [] => by simp [PyData.depthAll]
  | n :: r => by simp [PyData.depthAll, PyData.depth, depInts r]
theorem shapedInts (ns : List Int) : SeqAt.shaped (.list (ns.map PyData.int)) = true := by
  unfold SeqAt.shaped
  simp [PyData.canLay0, PyData.depth, canInts, depInts]
theorem eqvNil (ns : List Int) : PyData.eqv (.list (ns.map PyData.int)) (.list []) = ns.isEmpty := by
  cases ns <;> simp [PyData.eqv, PyData.eqvAll]

theorem call_intI {X : Cx} : CallR X (.type "int") (fun xs H Q => ∃ i, xs = [.int i] ∧ Q (.int i) H) := by
  intro pins s σ H xs us Q I r h
  exact call_int1 pins s σ H xs us Q I r (.inl h)

/-! ### the drawer of a law: a list at a that holds a list of numbers at l, and a number -/
structure DealAt (H : Hp) (a l : Addr) (ns : List Int) (b : Int) : Prop where
  ob : H a = some (.lst [.ref l, .int b])
  li : H l = some (.lst (ns.map V.int))
  nn : ∀ n ∈ ns, 0 ≤ n
  ln : ns.length ≤ 48
  b0 : 0 ≤ b
  b1 : b < 2147483647
def Deal (H : Hp) (a l : Addr) : Prop := ∃ ns b, DealAt H a l ns b
theorem DealAt.ne {H : Hp} {a l : Addr} {ns : List Int} {b : Int} (d : DealAt H a l ns b) : a ≠ l := ne_of d.ob d.li (by
  intro e
  cases ns with
  | nil => simp at e
  | cons n r => simp at e)
/-- all but the drawer is as it was -/
def Kp (a l : Addr) (H H' : Hp) : Prop := ∀ c o, H c = some o → c ≠ a → c ≠ l → H' c = some o
theorem Kp.refl (a l : Addr) (H : Hp) : Kp a l H H := fun _ _ h _ _ => h
theorem Kp.trans {a l : Addr} {H H1 H2 : Hp} (x : Kp a l H H1) (y : Kp a l H1 H2) : Kp a l H H2 := fun c o h h1 h2 => y c o (x c o h h1 h2) h1 h2
theorem Kp.of {a l : Addr} {H H' : Hp} (h : Same H H') : Kp a l H H' := fun c o e _ _ => h c o e
theorem Kp.new {a l : Addr} {H : Hp} {p : Addr} {o : HO} (h : H p = none) : Kp a l H (upd H p o) := fun c u e _ _ => by rw [upd_ne (ne_of_none e h)]; exact e
theorem Deal.new {a l : Addr} {H : Hp} {p : Addr} {o : HO} (d : Deal H a l) (h : H p = none) : Deal (upd H p o) a l := by
  obtain ⟨ns, b, d⟩ := d
  exact ⟨ns, b, by rw [upd_ne (ne_of_none d.ob h)]; exact d.ob, by rw [upd_ne (ne_of_none d.li h)]; exact d.li, d.nn, d.ln, d.b0, d.b1⟩
theorem Kp.tup {a l : Addr} {H H' : Hp} (k : Kp a l H H') (d : Deal H a l) {p : Addr} {xs : List V} (h : H p = some (.tup xs)) : H' p = some (.tup xs) := by
  obtain ⟨ns, b, d⟩ := d
  exact k p _ h (ne_of h d.ob (by intro e; cases e)) (ne_of h d.li (by intro e; cases e))

theorem DealAt.new {a l : Addr} {ns : List Int} {b : Int} {H : Hp} {p : Addr} {o : HO} (d : DealAt H a l ns b) (h : H p = none) : DealAt (upd H p o) a l ns b :=
  ⟨by rw [upd_ne (ne_of_none d.ob h)]; exact d.ob, by rw [upd_ne (ne_of_none d.li h)]; exact d.li, d.nn, d.ln, d.b0, d.b1⟩
theorem DealAt.put {a l : Addr} {ns ms : List Int} {b : Int} {H : Hp} (d : DealAt H a l ns b) (h1 : ∀ n ∈ ms, 0 ≤ n) (h2 : ms.length ≤ 48) : DealAt (upd H l (.lst (ms.map V.int))) a l ms b :=
  ⟨by rw [upd_ne d.ne]; exact d.ob, upd_same, h1, h2, d.b0, d.b1⟩
theorem DealAt.turn {a l : Addr} {ns : List Int} {b c : Int} {H : Hp} (d : DealAt H a l ns b) (h0 : 0 ≤ c) (h1 : c < 2147483647) : DealAt (upd H a (.lst [.ref l, .int c])) a l ns c :=
  ⟨upd_same, by rw [upd_ne d.ne.symm]; exact d.li, d.nn, d.ln, h0, h1⟩
theorem Kp.putL {a l : Addr} {H H1 : Hp} {o : HO} (k : Kp a l H H1) : Kp a l H (upd H1 l o) := fun c u e h1 h2 => by rw [upd_ne h2]; exact k c u e h1 h2
theorem Kp.putA {a l : Addr} {H H1 : Hp} {o : HO} (k : Kp a l H H1) : Kp a l H (upd H1 a o) := fun c u e h1 h2 => by rw [upd_ne h1]; exact k c u e h1 h2
theorem Kp.new1 {a l : Addr} {H H1 : Hp} {p : Addr} {o : HO} (k : Kp a l H H1) (h : H1 p = none) : Kp a l H (upd H1 p o) := k.trans (Kp.new h)
theorem last_int {ns : List Int} (h : ns ≠ []) : ∃ z, ns = ns.dropLast ++ [z] ∧ atI (ns.map V.int) (-1) = some (.int z) ∧ (ns.map V.int)[(ns.map V.int).length - 1]? = some (.int z) ∧ (ns.map V.int).dropLast = ns.dropLast.map V.int := by
  have e := (List.dropLast_concat_getLast h).symm
  generalize ns.getLast h = z at e
  have hl : 0 < ns.length := List.length_pos_iff.mpr h
  have hi : ns[ns.length - 1]? = some z := by
    have q : ns.length - 1 = ns.dropLast.length := by rw [List.length_dropLast]
    rw [q]
    conv => lhs; rw [e]
    simp
  refine ⟨z, e, ?_, ?_, by rw [List.map_dropLast]⟩
  · unfold atI ixN
    rw [List.length_map, if_neg (by omega), if_pos (by omega)]
    have q : ((-1 : Int) + (ns.length : Int)).toNat = ns.length - 1 := by omega
    simp only [Option.bind_some, q, List.getElem?_map, hi, Option.map_some]
  · rw [List.length_map, List.getElem?_map, hi]; rfl
/-- _law_any(deal, bound) -/
def spAny : Sp := fun vs H Q _ => ∃ (a l : Addr) (m : Int), vs = [.ref a, .int m] ∧ Deal H a l ∧ 1 ≤ m ∧ m < 1073741824 ∧
  ∀ (r : Int) (H' : Hp), 0 ≤ r → r < m → Deal H' a l → Kp a l H H' → Q (.int r) H'
/-- _law_of(deal, some) -/
def spOf (K : PySem.W.Frag) : Sp := fun vs H Q _ => ∃ (a l p : Addr) (xs : List V), vs = [.ref a, .ref p] ∧ Deal H a l ∧ (H p = some (.lst xs) ∨ H p = some (.tup xs)) ∧ p ≠ a ∧ p ≠ l ∧ xs ≠ [] ∧ xs.length ≤ 100000 ∧
  ∀ (i : Nat) (x : V) (H' : Hp), xs[i]? = some x → Deal H' a l → Kp a l H H' → Q x H'
/-- _law_draw(script, salt) -/
def spDraw (K : PySem.W.Frag) : Sp := fun vs H Q _ => ∃ (s : Addr) (ns : List Int) (z : Int), vs = [.ref s, .int z] ∧ SqL K H s (ns.map V.int) ∧ 0 ≤ z ∧ z ≤ 1000 ∧
  ∀ (a l : Addr) (H' : Hp), Deal H' a l → H a = none → H l = none → Same H H' → Q (.ref a) H'
end NB
set_option linter.all false
set_option maxRecDepth 100000
set_option maxHeartbeats 4000000
namespace NB
open PySem PySem.Spec PyProof.Rows L2
/-! ### a comprehension's walk, whatever its turn is -/
theorem lcL {K : PySem.W.Frag} {a : Addr} {xs : List V} {H0 : Hp} {Qd : Hp → Prop} {body : (Hp → Prop) → V → Hp → Prop} (Pv : Nat → Hp → Prop) (h0 : Pv 0 H0) (hl : ∀ i H, i ≤ xs.length → Pv i H → SqL K H a xs)
    (hs : ∀ i x H, xs[i]? = some x → Pv i H → body (Pv (i + 1)) x H) (hd : ∀ H, Pv xs.length H → Qd H) :
    ∃ W : Nat → Nat → Hp → Prop, (∃ m, W 0 m H0) ∧ ∀ i m H, W i m H → ((Itl K a).stop i H ∧ Qd H) ∨ ((Itl K a).go i H ∧ ∃ Nx : Hp → Prop, (∀ H', Nx H' → ∃ m', m' < m ∧ W (i + 1) m' H') ∧ ∀ x H', (Itl K a).yld i H x H' → body Nx x H') := by
  refine ⟨fun i m H => m = xs.length - i ∧ i ≤ xs.length ∧ Pv i H, ⟨_, rfl, Nat.zero_le _, h0⟩, ?_⟩
  rintro i m H ⟨rfl, hi, p⟩
  have q := hl i H hi p
  rcases Nat.lt_or_ge i xs.length with c | c
  · refine .inr ⟨⟨xs, xs[i], q, by simp [c]⟩, Pv (i + 1), fun H' p' => ⟨_, by omega, rfl, c, p'⟩, fun x H' y => ?_⟩
    obtain ⟨rfl, y⟩ := y
    exact hs i x _ (y xs q) p
  · obtain rfl : i = xs.length := by omega
    exact .inl ⟨⟨xs, q, Nat.le_refl _⟩, hd H p⟩
theorem lcT {K : PySem.W.Frag} {a : Addr} {xs : List V} {H0 : Hp} {Qd : Hp → Prop} {body : (Hp → Prop) → V → Hp → Prop} (Pv : Nat → Hp → Prop) (h0 : Pv 0 H0) (hl : ∀ i H, i ≤ xs.length → Pv i H → SqT K H a xs)
    (hs : ∀ i x H, xs[i]? = some x → Pv i H → body (Pv (i + 1)) x H) (hd : ∀ H, Pv xs.length H → Qd H) :
    ∃ W : Nat → Nat → Hp → Prop, (∃ m, W 0 m H0) ∧ ∀ i m H, W i m H → ((Itt K a).stop i H ∧ Qd H) ∨ ((Itt K a).go i H ∧ ∃ Nx : Hp → Prop, (∀ H', Nx H' → ∃ m', m' < m ∧ W (i + 1) m' H') ∧ ∀ x H', (Itt K a).yld i H x H' → body Nx x H') := by
  refine ⟨fun i m H => m = xs.length - i ∧ i ≤ xs.length ∧ Pv i H, ⟨_, rfl, Nat.zero_le _, h0⟩, ?_⟩
  rintro i m H ⟨rfl, hi, p⟩
  have q := hl i H hi p
  rcases Nat.lt_or_ge i xs.length with c | c
  · refine .inr ⟨⟨xs, xs[i], q, by simp [c]⟩, Pv (i + 1), fun H' p' => ⟨_, by omega, rfl, c, p'⟩, fun x H' y => ?_⟩
    obtain ⟨rfl, y⟩ := y
    exact hs i x _ (y xs q) p
  · obtain rfl : i = xs.length := by omega
    exact .inl ⟨⟨xs, q, Nat.le_refl _⟩, hd H p⟩
theorem lcR {lo : Int} {n : Nat} {H0 : Hp} {Qd : Hp → Prop} {body : (Hp → Prop) → V → Hp → Prop} (Pv : Nat → Hp → Prop) (h0 : Pv 0 H0)
    (hs : ∀ i H, i < n → Pv i H → body (Pv (i + 1)) (.int (lo + i)) H) (hd : ∀ H, Pv n H → Qd H) :
    ∃ W : Nat → Nat → Hp → Prop, (∃ m, W 0 m H0) ∧ ∀ i m H, W i m H → ((Itr lo n).stop i H ∧ Qd H) ∨ ((Itr lo n).go i H ∧ ∃ Nx : Hp → Prop, (∀ H', Nx H' → ∃ m', m' < m ∧ W (i + 1) m' H') ∧ ∀ x H', (Itr lo n).yld i H x H' → body Nx x H') := by
  refine ⟨fun i m H => m = n - i ∧ i ≤ n ∧ Pv i H, ⟨_, rfl, Nat.zero_le _, h0⟩, ?_⟩
  rintro i m H ⟨rfl, hi, p⟩
  rcases Nat.lt_or_ge i n with c | c
  · refine .inr ⟨c, Pv (i + 1), fun H' p' => ⟨_, by omega, rfl, c, p'⟩, fun x H' y => ?_⟩
    obtain ⟨rfl, rfl⟩ := y
    exact hs i _ c p
  · obtain rfl : i = n := by omega
    exact .inl ⟨Nat.le_refl _, hd H p⟩
end NB
set_option linter.all false
set_option maxRecDepth 100000
set_option maxHeartbeats 4000000
namespace NB
open PySem PySem.Spec PyProof.Rows L2
theorem call_tupleL {X : Cx} : CallR X (.type "tuple") (fun xs H Q => ∃ p ys, xs = [.ref p] ∧ SqL X.K H p ys ∧ ∀ l, H l = none → Q (.ref l) (upd H l (.tup ys))) := by
  intro pins s σ H xs us Q I r h
  obtain ⟨p, ys, e, hq, q⟩ := h
  exact call_tuple_of pins s σ H xs us Q I r ⟨p, ys, e, .inl ⟨hq, q⟩⟩
/-! ### for at, sign in enumerate(text) -/
def Ies (x : Str) : It := ⟨fun i _ => i < x.cps.size, fun i H v H' => ∃ T c, v = .ref T ∧ H T = none ∧ x.cps[i]? = some c ∧ H' = upd H T (.tup [.int (i : Nat), .str ⟨#[c]⟩]), fun i _ => x.cps.size ≤ i⟩
theorem turn_ies {P : Program} {w : World} {K : PySem.W.Frag} {elts : List Expr} {kk : Nat} {tpos : Pos} (e it : Addr) (x : Str) (t : Tok) (ty : String) (hty : ty = "str_ascii_iterator" ∨ ty = "str_iterator") :
    Turn P w K (.Tuple elts kk tpos) (Ies x) [e, it] e (fun i h => (∃ old, IsEnum h e it ((i : Nat) : Int) old) ∧ h.IsStrIter it ty x t i ∧ e ≠ it) where
  mem := List.mem_cons_self
  obj := fun i h st b hb => by
    obtain ⟨⟨old, he⟩, ⟨o, ho, _, hd⟩, _⟩ := st
    rcases List.mem_cons.mp hb with z | z
    · exact ⟨_, z ▸ he, fun v q => by cases q⟩
    · exact ⟨o, (List.mem_singleton.mp z) ▸ ho, fun v q => by rw [hd] at q; cases q⟩
  keep := fun i h h' st k => by
    obtain ⟨⟨old, he⟩, ⟨o, ho, r⟩, ne⟩ := st
    exact ⟨⟨old, k e List.mem_cons_self _ he⟩, ⟨o, k it (List.mem_cons_of_mem _ List.mem_cons_self) _ ho, r⟩, ne⟩
  item := by
    intro X hP hw hK hc i pins s σ H E I hf st hg
    subst hP hw hK
    obtain ⟨⟨old, he⟩, hit, ne⟩ := st
    have D : Draws X.prog X.w X.A.in1 it [it] x.cps.size (fun i v => ∃ c u, x.cps[i]? = some c ∧ v = .str ⟨#[c]⟩ u) (fun i h => h.IsStrIter it ty x t i) := by
      rcases hty with z | z
      · rw [z]; exact Draws.strAscii (show X.A.in1.handled = none from I.ok.hd hc) it x t
      · rw [z]; exact Draws.strWide (show X.A.in1.handled = none from I.ok.hd hc) it x t
    have lE : e < s.heap.objs.size := Heap.lt_size he
    have lI : it < s.heap.objs.size := by obtain ⟨_, q, _⟩ := hit; exact Heap.lt_size q
    refine wpAny_pyNext_enum_itemD D he hit hg ne (fun q => ne (List.mem_singleton.mp q)) fun v h1 tk hv ho hit1 hT hsz hk => ?_
    obtain ⟨c, u, hcx, rfl⟩ := hv
    refine ⟨_, rfl, wpAny_letOwnedTupleGo_enum (s := { s with heap := h1, toks := tk + 1 }) ho fun h2 he2 sb => ?_⟩
    have nT : s.heap.objs.size ≠ e := Nat.ne_of_gt lE
    have hT2 := (sb.2 _ nT).trans hT
    have new : ObjOk X.prog X.w (upd H s.heap.objs.size (.tup [.int (i : Nat), .str ⟨#[c]⟩])) h2 s.heap.objs.size (.tup [.int (i : Nat), .str ⟨#[c]⟩]) :=
      ⟨by show 2 ≤ sizeLine; decide, [_, _], .cons ⟨_, rfl⟩ (.cons ⟨_, rfl⟩ .nil), ⟨_, hT2, rfl, _, rfl⟩⟩
    have I2 : Inv X pins σ (upd H s.heap.objs.size (.tup [.int (i : Nat), .str ⟨#[c]⟩])) { s with heap := h2, toks := tk + 1 } := by
      refine I.turnedNew (ch := [e, it]) (fun b o hb q => ?_) hf (Nat.le_refl _) new
      have b1 : b ≠ e := fun z => hb (z ▸ List.mem_cons_self)
      have b2 : b ≠ it := fun z => hb (z ▸ List.mem_cons_of_mem _ List.mem_cons_self)
      exact (sb.2 b b1).trans (hk b o b1 b2 q)
    refine ⟨.ref s.heap.objs.size, _, I2, rfl, ⟨_, c, rfl, I.hok.fresh (Nat.le_refl _), hcx, rfl⟩, ⟨⟨.str ⟨#[c]⟩ u, ?_⟩, ?_, ne⟩, fun b hb => ?_⟩
    · have z : ((i + 1 : Nat) : Int) = (i : Int) + 1 := by omega
      rw [z]; exact he2
    · obtain ⟨o, q1, q2⟩ := hit1
      exact ⟨o, (sb.2 it ne.symm).trans q1, q2⟩
    · have lb : b < s.heap.objs.size := by
        rcases List.mem_cons.mp hb with z | z
        · rw [z]; exact lE
        · rw [List.mem_singleton.mp z]; exact lI
      rw [upd_ne (Nat.ne_of_lt lb)]
      exact (hf b hb).1
  done := by
    intro X hP hw hK hc i pins s σ H E I hf st hg
    subst hP hw hK
    obtain ⟨⟨old, he⟩, hit, ne⟩ := st
    have le : x.cps.size ≤ i := hg
    obtain ⟨f0, f1, f2, f3, f4, f5⟩ := hf it (List.mem_cons_of_mem _ List.mem_cons_self)
    have hx : x.cps[i]? = none := Array.getElem?_eq_none le
    have hT : s.TypeIs (.ref e) "enumerate" := ⟨_, he, rfl⟩
    have fin : ∀ h' : Heap, Heap.ExtBut it s.heap h' → Inv X pins σ H { s with heap := h' } := fun h' eb => I.turned (t' := s.toks) (fun b o hb q => eb b o hb q) f0 f1 f3 f4 f5
    unfold pyNext
    refine wpAny_bind (wpAny_attempt (wpAny_callSpecial?_slot (name := Str.ofString "__next__") hT F.slot_enumerate_next
      (wpAny_call_entry F.slot_enumerate_next hT F.entry_enumerate_next ?_ (F.args_enumerate_next_1 _))))
    show wpAny _ _ (field (.ref e) 2 >>= _) _ _ _
    refine wpAny_bind (wpAny_field he rfl (x := .ref it) rfl ?_)
    refine wpAny_bind ?_
    have go : ∀ {Q : Value → Shared → Prop} {E' : Value → Shared → Prop}, (∀ h' ex, Heap.ExtBut it s.heap h' → (∃ o, h'.get? ex = some o ∧ o.cls = .type "StopIteration") → E' (.ref ex) { s with heap := h' }) →
        wpAny (model X.prog X.w) X.A.in1 (Builtin.SmallTypes.nextOf (.ref it)) Q E' s := fun hE => by
      rcases hty with z | z
      · rw [z] at hit; exact wpAny_nextOf_ascii_end (show X.A.in1.handled = none from I.ok.hd hc) hit hx hE
      · rw [z] at hit; exact wpAny_nextOf_wide_end (show X.A.in1.handled = none from I.ok.hd hc) hit hx hE
    refine go fun h' ex eb hx' => ?_
    obtain ⟨o, ho, hcl⟩ := hx'
    refine wpAny_bind (wpAny_isInstance (T := "StopIteration") (b := true) ⟨o, ho, hcl⟩ isSubtype_stop ?_)
    exact wpAny_pure ⟨rfl, fin h' eb⟩
  self := fun A i s Q E st h => by
    obtain ⟨⟨_, he⟩, _⟩ := st
    exact wpAny_pyIter_enum he h
def iEnumS (ta : TA) : TI := fun σ H R => ta σ H fun vs H1 => ∃ x, vs = [.str x] ∧ R (Ies x) H1
theorem pi_enumS {X : Cx} {e : Expr} {ta : TA} {p pos tpos : Pos} {elts : List Expr} {kk : Nat} (hg : Gl X "enumerate") (hm : X.mg "enumerate" = none) (ha : PA X [e] ta) (hs : starEach [e] X.env = [(false, eval e X.env)] := by rfl) :
    PI X (.Tuple elts kk tpos) (.Call (.Name "enumerate" p) [e] [] pos) (iEnumS ta) := by
  refine ⟨fun pins s σ H R I h => ?_⟩
  refine Call_ (ld_blt I hg hm boot_enumerate (PyProof.Rows.callWith_type1 (thn (ha.run pos pins s σ H _ I h) fun us s1 hq => ?_) hs rfl))
  obtain ⟨vs, H1, I1, r1, x, rfl, q⟩ := hq
  obtain ⟨u, rfl, t, rfl⟩ := vals1 r1
  have ty : strIterType x = "str_ascii_iterator" ∨ strIterType x = "str_iterator" := by
    unfold strIterType
    split
    · exact .inl rfl
    · exact .inr rfl
  refine call_enumerate_str fun h' he hit hsz hk => wpAny_pyIter_enum he ?_
  have I2 : Inv X pins σ H1 { s1 with heap := h' } := I1.kept (t' := s1.toks) hk
  refine ⟨s1.heap.objs.size + 1, [s1.heap.objs.size + 1, s1.heap.objs.size], _, _, H1, rfl, I2, turn_ies (s1.heap.objs.size + 1) s1.heap.objs.size x t _ ty, ⟨⟨.none, he⟩, hit, Nat.succ_ne_self _⟩, fun b hb => ?_, q⟩
  have le : s1.heap.objs.size ≤ b := by
    rcases List.mem_cons.mp hb with z | z
    · rw [z]; exact Nat.le_succ _
    · rw [List.mem_singleton.mp z]; exact Nat.le_refl _
  exact I1.fpOk le (I1.hok.fresh le)
/-- the loop over it, by a word -/
theorem for_enumS {x : Str} {g : TG} {tb : TS} {D : Ends} {σ : L2.St} {H : Hp} (Pv : Nat → L2.St → Hp → Prop) (h0 : Pv 0 σ H)
    (hs : ∀ i c T σ H, x.cps[i]? = some c → Pv i σ H → H T = none → g (.ref T) σ (upd H T (.tup [.int (i : Nat), .str ⟨#[c]⟩])) fun σ2 H2 => tb { D with nx := Pv (i + 1), ct := Pv (i + 1), bk := D.nx } σ2 H2) (hd : ∀ σ H, Pv x.cps.size σ H → D.nx σ H) :
    ∃ W : Nat → Nat → L2.St → Hp → Prop, (∃ m, W 0 m σ H) ∧ ∀ i m σ H, W i m σ H →
      ((Ies x).stop i H ∧ D.nx σ H) ∨ ((Ies x).go i H ∧ ∃ N : L2.St → Hp → Prop, (∀ σ' H', N σ' H' → ∃ m', m' < m ∧ W (i + 1) m' σ' H') ∧ ∀ v H', (Ies x).yld i H v H' → g v σ H' fun σ2 H2 => tb { D with nx := N, ct := N, bk := D.nx } σ2 H2) := by
  refine ⟨fun i m σ H => m = x.cps.size - i ∧ i ≤ x.cps.size ∧ Pv i σ H, ⟨_, rfl, Nat.zero_le _, h0⟩, ?_⟩
  rintro i m σ H ⟨rfl, hi, p⟩
  rcases Nat.lt_or_ge i x.cps.size with c | c
  · refine .inr ⟨c, Pv (i + 1), fun σ' H' p' => ⟨_, by omega, rfl, c, p'⟩, fun v H' y => ?_⟩
    obtain ⟨T, z, rfl, hT, hz, rfl⟩ := y
    exact hs i z T σ H hz p hT
  · obtain rfl : i = x.cps.size := by omega
    exact .inl ⟨Nat.le_refl _, hd σ H p⟩
/-! ### f(k = v, ..), keywords alone -/
structure KB0 (K : PySem.W.Frag) (fd : FuncData) (ps ks : List Str) (g : List Value → List Value) (gV : List V → List V) : Prop where
  to : ∀ (s : Shared) (ws : List Value), ws.length = ks.length → BindsTo s fd ⟨[], ks.zip ws⟩ (ps.zip (g ws))
  rel : ∀ (zs : List V) (ws : List Value), zs.length = ks.length → Vals zs ws → Vals (gV zs) (g ws)
def tCallK0 (n : Nat) (sp : Sp) (gV : List V → List V) (E : XK) (tk : TA) : TE := fun σ H Q => tk σ H fun zs H2 => zs.length = n ∧ sp (gV zs) H2 Q E
theorem pe_callK0 {X : Cx} {CX : CXT} {k : Nat} {f : Addr} {fd : FuncData} {ps ks : List Str} {sp : Sp} {E : XK} {x : Str} {p pos : Pos} {kws : List Keyword} {tk : TA} {g : List Value → List Value} {gV : List V → List V}
    (F : FnOk X.prog X.w X.K X.mg X.base CX k f fd ps sp) (hr : Room k X.A) (hg : Gl X x) (hm : X.mg x = some (.ref f)) (hk : PySem.W.keepIn X.K (.ref f) = true) (hb : KB0 X.K fd ps ks g gV) (hx : Passes CX X E) (hkw : PK X kws tk)
    (hall : (backToKw pos (keywordEach kws X.env)).all (·.1.isSome) = true := by rfl) (hks : (backToKw pos (keywordEach kws X.env)).filterMap (·.1) = ks := by rfl) (hdb : (x == ("__debug__" : Str)) = false := by decide)
    (hpl : ((backTo pos (starEach [] X.env)).any (·.1) || (backToKw pos (keywordEach kws X.env)).any (·.1.isNone)) = false := by rfl) :
    PE X (.Call (.Name x p) [] kws pos) (tCallK0 ks.length sp gV E tk) := by
  refine ⟨fun pins s σ H Q I h => wpAny_Call_Name_kw (ld_glob I hg hm ?_ hdb)⟩
  refine PySem.W.callWith_KW0 (h₀ := X.base) I.ok.mod.kin hk hall (thn (hkw.run pos pins s σ H _ I h) fun ws s2 hq => ?_) hpl
  obtain ⟨zs, H2, I2, rz, hl, q⟩ := hq
  refine ⟨I2.kIn, ?_⟩
  rw [hks]
  have lw : ws.length = ks.length := by rw [← rz.length]; exact hl
  refine wpAny_call (codeAny_mono (F.run X.A X.stack s2 H2 ⟨[], ks.zip ws⟩ (g ws) (gV zs) Q E hr I2.env0 (hb.to s2 ws lw) (hb.rel zs ws hl rz) q) fun r s' hq => ?_)
  match r, hq with
  | .error e, hq => exact hx pins σ H2 s2 e s' I2 hq
  | .ok (.ret u), hq => exact I2.after hq
theorem kb1 {K : PySem.W.Frag} {x qual : Str} {st : Stmt} {f : Addr} {fd : FuncData} {p : Str} (F : Fun K x qual st f fd)
    (h : ∀ (kV doc pm : Value) (an : Option Addr) (cdv ct : Value) (u : Value), bindArgs (PySem.W.fnOf x qual (defArgs st) (defBody st) (defScope st) .none kV doc pm an cdv ct) ⟨[], [(p, u)]⟩ = pure [(p, u)]) : KB0 K fd [p] [p] (fun ws => ws) (fun zs => zs) := by
  obtain ⟨oc, od, kV, doc, pm, an, cdv, ct, osl, rfl, lk, hcd⟩ := F.ex
  refine ⟨fun s ws hl => ?_, fun _ _ _ r => r⟩
  match ws, hl with
  | [u], _ => exact BindsTo.of_eq (h kV doc pm an cdv ct u)
end NB
set_option linter.all false
set_option maxRecDepth 100000
set_option maxHeartbeats 4000000
namespace NB
open PySem PySem.Spec PyProof.Rows L2
/-! ### how long data is, written out -/
mutual
def wd : PyData → Nat
  | .none => 4
  | .bool _ => 5
  | .int _ => 1921
  | .str x => 10 * x.length + 2
  | .list xs => wdAll xs + 4
  | .tuple xs => wdAll xs + 4
  | .dict _ => 0
def wdAll : List PyData → Nat
  | [] => 0
  | x :: r => wd x + 2 + wdAll r
end
mutual
def okd : PyData → Prop
  | .none => True
  | .bool _ => True
  | .int i => i.natAbs.log2 < 1920
  | .str x => ∀ c ∈ x.cps.toList, c < 16 ^ 8
  | .list xs => okAll xs
  | .tuple xs => okAll xs
  | .dict _ => False
def okAll : List PyData → Prop
  | [] => True
  | x :: r => okd x ∧ okAll r
end
theorem piled_le : ∀ (ds : List PyData), (∀ d ∈ ds, d.shown.length ≤ wd d) → piled (PyData.shownAll ds) ≤ wdAll ds
  | [], _ => Nat.le_refl _
  | d :: r, h => by
    simp only [PyData.shownAll, piled_cons, wdAll]
    have h1 := h d List.mem_cons_self
    have h2 := piled_le r fun x hx => h x (List.mem_cons_of_mem _ hx)
    omega
theorem listText_le (ts : List Str) : (listText ts).length ≤ piled ts + 2 := by
  cases ts with
  | nil => exact Nat.le_refl _
  | cons t r =>
    have h := textFrom_length_pos r 1 (("[" : Str) ++ (if (0 : Nat) > 0 then ", " else "" : String) ++ t) (Nat.succ_pos 0)
    have e : ((("[" : Str) ++ (if (0 : Nat) > 0 then ", " else "" : String) ++ t)).length = 1 + t.length := by rw [strLen_append, strLen_append]; rfl
    have x : (listText (t :: r)).length = (textFrom 0 "[" (t :: r)).length + 1 := by
      unfold listText
      rw [strLen_append]; rfl
    have y : textFrom 0 "[" (t :: r) = textFrom 1 (("[" : Str) ++ (if (0 : Nat) > 0 then ", " else "" : String) ++ t) r := rfl
    rw [x, y, h, e, piled_cons]
    omega
theorem tupleText_le (ts : List Str) : (tupleText ts).length ≤ piled ts + 4 := by
  unfold tupleText
  rw [strLen_append, strLen_append]
  have e1 : ((("(" : String) : Str)).length = 1 := rfl
  have e3 : (((if ts.length == 1 then ",)" else ")" : String) : Str)).length ≤ 2 := by split <;> decide
  by_cases h : ts = []
  · subst h
    show 1 + 0 + _ ≤ _
    omega
  · have := join_length_add ts h
    omega
mutual
theorem shown_le : ∀ d : PyData, okd d → d.shown.length ≤ wd d ∧ d.showable = true ∧ d.hasDict = false
  | .none, _ => by simp only [PyData.shown, PyData.showable, PyData.hasDict, wd]; exact ⟨by decide, trivial, trivial⟩
  | .bool b, _ => by simp only [PyData.shown, PyData.showable, PyData.hasDict, wd]; cases b <;> exact ⟨by decide, trivial, trivial⟩
  | .int i, h => by
    simp only [okd] at h
    simp only [PyData.shown, PyData.showable, PyData.hasDict, wd]
    exact ⟨int_text_len_1921 h, by simpa using h, trivial⟩
  | .str x, h => by
    simp only [okd] at h
    simp only [PyData.shown, PyData.showable, PyData.hasDict, wd]
    exact ⟨StrLaws.reprText_len x h, trivial, trivial⟩
  | .list xs, h => by
    simp only [okd] at h
    obtain ⟨a, b, c⟩ := shown_leA xs h
    simp only [PyData.shown, PyData.showable, PyData.hasDict, wd]
    have := listText_le (PyData.shownAll xs)
    exact ⟨by omega, b, c⟩
  | .tuple xs, h => by
    simp only [okd] at h
    obtain ⟨a, b, c⟩ := shown_leA xs h
    simp only [PyData.shown, PyData.showable, PyData.hasDict, wd]
    have := tupleText_le (PyData.shownAll xs)
    exact ⟨by omega, b, c⟩
  | .dict _, h => by simp only [okd] at h
theorem shown_leA : ∀ xs : List PyData, okAll xs → piled (PyData.shownAll xs) ≤ wdAll xs ∧ PyData.showableAll xs = true ∧ PyData.hasDictAll xs = false
  | [], _ => by simp only [PyData.shownAll, PyData.showableAll, PyData.hasDictAll, wdAll]; exact ⟨Nat.le_refl _, trivial, trivial⟩
  | d :: r, h => by
    simp only [okAll] at h
    obtain ⟨a, b, c⟩ := shown_le d h.1
    obtain ⟨a', b', c'⟩ := shown_leA r h.2
    simp only [PyData.shownAll, PyData.showableAll, PyData.hasDictAll, wdAll, piled_cons, b, b', c, c']
    exact ⟨by omega, by rfl, by rfl⟩
end
theorem Sh.of {d : PyData} (h : okd d) (hd : d.depth ≤ 64) (hw : wd d ≤ 16777216) : Sh d := by
  obtain ⟨a, b, c⟩ := shown_le d h
  exact ⟨b, c, hd, Nat.le_trans a (by rw [sizeLine_eq]; exact hw)⟩
theorem okInts : ∀ ns : List Int, (∀ n ∈ ns, n.natAbs.log2 < 1920) → okAll (ns.map PyData.int)
  | [], _ => by simp only [List.map_nil, okAll]
  | n :: r, h => by
    simp only [List.map_cons, okAll, okd]
    exact ⟨h n List.mem_cons_self, okInts r fun x hx => h x (List.mem_cons_of_mem _ hx)⟩
theorem wdInts : ∀ ns : List Int, wdAll (ns.map PyData.int) = 1923 * ns.length
  | [] => by simp only [List.map_nil, wdAll, List.length_nil]
  | n :: r => by simp only [List.map_cons, wdAll, wd, wdInts r, List.length_cons]; omega
theorem log_small {n : Int} (h0 : -1000000000000 ≤ n) (h1 : n ≤ 1000000000000) : n.natAbs.log2 < 1920 := by
  by_cases e : n.natAbs = 0
  · rw [e]; decide
  have : n.natAbs < 2 ^ 1920 := Nat.lt_of_le_of_lt (by omega : n.natAbs ≤ 1000000000000) (by decide)
  exact (Nat.log2_lt e).mpr this
theorem shInts {ns : List Int} (h : ∀ n ∈ ns, -1000000000000 ≤ n ∧ n ≤ 1000000000000) (hl : ns.length ≤ 5000) : Sh (.tuple (ns.map PyData.int)) :=
  Sh.of (by simp only [okd]; exact okInts ns fun n hn => log_small (h n hn).1 (h n hn).2) (by simp [PyData.depth, depInts]) (by simp only [wd, wdInts]; omega)
theorem dpStrs {K : PySem.W.Frag} {H : Hp} : ∀ xs : List Str, DpAll K H (xs.map V.str) (xs.map PyData.str)
  | [] => .nil
  | x :: r => .cons (.str x) (dpStrs r)
theorem depStrs : ∀ xs : List Str, PyData.depthAll (xs.map PyData.str) = 0
  | [] => by simp [PyData.depthAll]
  | n :: r => by simp [PyData.depthAll, PyData.depth, depStrs r]
theorem okStrs : ∀ xs : List Str, (∀ x ∈ xs, ∀ c ∈ x.cps.toList, c < 16 ^ 8) → okAll (xs.map PyData.str)
  | [], _ => by simp only [List.map_nil, okAll]
  | x :: r, h => by
    simp only [List.map_cons, okAll, okd]
    exact ⟨h x List.mem_cons_self, okStrs r fun y hy => h y (List.mem_cons_of_mem _ hy)⟩
theorem wdStrs {m : Nat} : ∀ xs : List Str, (∀ x ∈ xs, x.length ≤ m) → wdAll (xs.map PyData.str) ≤ (10 * m + 4) * xs.length
  | [], _ => by simp only [List.map_nil, wdAll, List.length_nil]; exact Nat.zero_le _
  | x :: r, h => by
    have h1 := h x List.mem_cons_self
    have h2 := wdStrs r fun y hy => h y (List.mem_cons_of_mem _ hy)
    simp only [List.map_cons, wdAll, wd, List.length_cons, Nat.mul_add, Nat.mul_one]
    omega
theorem shStrs {xs : List Str} (h : ∀ x ∈ xs, ∀ c ∈ x.cps.toList, c < 16 ^ 8) (hm : ∀ x ∈ xs, x.length ≤ 1000) (hl : xs.length ≤ 1000) : Sh (.tuple (xs.map PyData.str)) :=
  Sh.of (by simp only [okd]; exact okStrs xs h) (by simp [PyData.depth, depStrs]) (by
    have q := wdStrs (m := 1000) xs hm
    simp only [wd]
    have : (10 * 1000 + 4) * xs.length ≤ 10004 * 1000 := Nat.mul_le_mul_left _ hl
    omega)
end NB
namespace M05
/-! the mathematics of tokens: signs as numbers; B the blanks, W the word signs -/
section
variable (B W : List Nat)
def wlen (cs : List Nat) : Nat := (cs.takeWhile fun c => decide (c ∈ W)).length
def rlen (cs : List Nat) : Nat := (cs.takeWhile fun c => decide (c ≠ 10)).length
def spans (i : Nat) (cs : List Nat) : List (Nat × Nat) :=
  match cs with
  | [] => []
  | c :: r => if c ∈ B then spans (i + 1) r else if c = 35 then spans (i + 1 + rlen r) (r.drop (rlen r))
    else (i, i + 1 + (wlen W (c :: r) - 1)) :: spans (i + 1 + (wlen W (c :: r) - 1)) (r.drop (wlen W (c :: r) - 1))
termination_by cs.length
decreasing_by all_goals (simp only [List.length_cons, List.length_drop]; omega)
abbrev S3 := List (Nat × Nat) × Bool × Bool
def step (s : S3) (i c : Nat) : S3 :=
  if s.2.2 = true then (s.1, false, decide (c ≠ 10))
  else if c = 35 then (s.1, false, true)
  else if c ∈ B then (s.1, false, false)
  else if c ∈ W then (if s.2.1 = true then (s.1.dropLast ++ [((s.1.getLastD (0, 0)).1, i)], true, false) else (s.1 ++ [(i, i)], true, false))
  else (s.1 ++ [(i, i)], false, false)
def run (i : Nat) : List Nat → S3 → S3
  | [], s => s
  | c :: r, s => run (i + 1) r (step B W s i c)
def S (i : Nat) (cs : List Nat) : List (Nat × Nat) := (spans B W i cs).map fun p => (p.1, p.2 - 1)
variable {B W}
variable (h35 : 35 ∉ B) (w35 : 35 ∉ W) (h10 : 10 ∈ B) (hBW : ∀ c ∈ B, c ∉ W)
include h35 w35 h10 hBW
theorem all3 : ∀ (n : Nat) (cs : List Nat), cs.length ≤ n →
    (∀ i F, (run B W i cs (F, false, false)).1 = F ++ S B W i cs) ∧
    (∀ i F, (run B W i cs (F, false, true)).1 = F ++ S B W (i + rlen cs) (cs.drop (rlen cs))) ∧
    (∀ i F f, 1 ≤ i → (run B W i cs (F ++ [(f, i - 1)], true, false)).1 = F ++ [(f, i + wlen W cs - 1)] ++ S B W (i + wlen W cs) (cs.drop (wlen W cs))) := by
  intro n
  induction n with
  | zero =>
    intro cs hl
    obtain rfl : cs = [] := List.length_eq_zero_iff.mp (by omega)
    refine ⟨fun i F => ?_, fun i F => ?_, fun i F f hi => ?_⟩
    · simp [run, S, spans]
    · simp [run, S, spans]
    · simp [run, S, spans, wlen]
  | succ n ih =>
    intro cs hl
    cases cs with
    | nil =>
      refine ⟨fun i F => ?_, fun i F => ?_, fun i F f hi => ?_⟩
      · simp [run, S, spans]
      · simp [run, S, spans]
      · simp [run, S, spans, wlen]
    | cons c r =>
      have hr : r.length ≤ n := by simp only [List.length_cons] at hl; omega
      obtain ⟨i1, i2, i3⟩ := ih r hr
      have p1 : ∀ i F, (run B W i (c :: r) (F, false, false)).1 = F ++ S B W i (c :: r) := by
        intro i F
        unfold S
        rw [spans]
        simp only [run, step]
        by_cases c35 : c = 35
        · subst c35
          simp only [Bool.false_eq_true, if_false, if_true, h35, i2]
          rfl
        · by_cases cB : c ∈ B
          · simp only [Bool.false_eq_true, if_false, c35, cB, if_true, i1]
            rfl
          · by_cases cW : c ∈ W
            · simp only [Bool.false_eq_true, if_false, c35, cB, cW, if_true]
              have q := i3 (i + 1) F i (by omega)
              simp only [Nat.add_sub_cancel] at q
              rw [q]
              have e : wlen W (c :: r) = wlen W r + 1 := by unfold wlen; rw [List.takeWhile_cons_of_pos (by simpa using cW)]; rfl
              rw [e]
              simp only [Nat.add_sub_cancel, List.map_cons, List.append_assoc, List.singleton_append, S]
            · simp only [Bool.false_eq_true, if_false, c35, cB, cW, i1]
              have e : wlen W (c :: r) = 0 := by unfold wlen; rw [List.takeWhile_cons_of_neg (by simpa using cW)]; rfl
              rw [e]
              simp [S]
      refine ⟨p1, fun i F => ?_, fun i F f hi => ?_⟩
      · simp only [run, step, if_true]
        by_cases c10 : c = 10
        · subst c10
          have e : rlen (10 :: r) = 0 := by unfold rlen; rw [List.takeWhile_cons_of_neg (by simp)]; rfl
          rw [e]
          simp only [ne_eq, not_true_eq_false, decide_false, Nat.add_zero, List.drop_zero]
          rw [i1]
          unfold S
          conv => rhs; rw [spans]
          simp only [h10, if_true]
        · have e : rlen (c :: r) = rlen r + 1 := by unfold rlen; rw [List.takeWhile_cons_of_pos (by simpa using c10)]; rfl
          rw [e]
          simp only [ne_eq, c10, not_false_eq_true, decide_true, List.drop_succ_cons]
          rw [i2, show i + 1 + rlen r = i + (rlen r + 1) from by omega]
      · by_cases cW : c ∈ W
        · have c35 : c ≠ 35 := fun e => w35 (e ▸ cW)
          have cB : c ∉ B := fun e => hBW c e cW
          simp only [run, step, Bool.false_eq_true, if_false, c35, cB, cW, if_true, List.dropLast_concat]
          have g : ((F ++ [(f, i - 1)]).getLastD (0, 0)).1 = f := by simp
          rw [g]
          have q := i3 (i + 1) F f (by omega)
          simp only [Nat.add_sub_cancel] at q
          rw [q]
          have e : wlen W (c :: r) = wlen W r + 1 := by unfold wlen; rw [List.takeWhile_cons_of_pos (by simpa using cW)]; rfl
          rw [e, show i + 1 + wlen W r = i + (wlen W r + 1) from by omega]
          simp only [List.drop_succ_cons]
        · have same : run B W i (c :: r) (F ++ [(f, i - 1)], true, false) = run B W i (c :: r) (F ++ [(f, i - 1)], false, false) := by
            simp only [run, step, cW, if_false]
          rw [same, p1]
          have e : wlen W (c :: r) = 0 := by unfold wlen; rw [List.takeWhile_cons_of_neg (by simpa using cW)]; rfl
          rw [e]
          simp
theorem both (cs : List Nat) : (run B W 0 cs ([], false, false)).1 = S B W 0 cs := by
  have q := (all3 h35 w35 h10 hBW cs.length cs (Nat.le_refl _)).1 0 []
  simpa using q
end
end M05
set_option linter.all false
set_option maxRecDepth 100000
set_option maxHeartbeats 4000000
namespace K05
open PySem PySem.Spec PyProof.Rows L2 NB
theorem cxK {CX : CXT} {P : Program} {w : World} {K : PySem.W.Frag} {mg : Str → Option Value} {base : Heap} {N : List Str} {qual : Str} {scope : Scope} {f : Addr} {cd : Value} {A : Around} {outer : List Env} {s : Shared} {H : Hp} {E : XK} :
  (cxOf CX P w K mg base N qual scope f cd A outer s H E).K = K := rfl
local macro_rules | `(tactic| walk_at "rd") => `(tactic| simp only [cxK, tCall, tLc, iList, iTup, tRevL, tSl, tNoPart, tPart, rSlL, tYes, L2.start, List.map_cons, List.map_nil, List.length_cons, List.length_nil, List.replicate_succ, List.replicate_zero, Nat.reduceAdd, Nat.reduceSub, List.cons_append, List.nil_append, wipe, List.foldl_cons, List.foldl_nil, tAnd, tOr, tNot, tTest, tB, tOp, tUn, tVar, tC, tCB, tCons, tNil, tLst, tTup, tSeq, tNext, tAsg, tIfS, tRet, tDrop, gName, gSub, tBM0, tBM, rI, rI0, rU, rIxL, rIxT, rIxS, ↓reduceIte, rNeD, rEqD, rEq, rNe, rPop, rAppend, rSetL,
  List.getElem?_cons_zero, List.getElem?_cons_succ, List.set_cons_zero, List.set_cons_succ, Option.some.injEq, V.ref.injEq, V.int.injEq, V.bl.injEq, V.str.injEq, List.cons.injEq, exists_eq_left, exists_eq_left', exists_and_left, reduceCtorEq, false_and, and_false, exists_false, or_false, false_or, and_true, true_and])
def topS (i : Nat) : Stmt := PySem.Challenge.pw_newsbehind_k05_tokens_and_their_places.main.body.getD i (.Pass ⟨0, 0, 0, 0⟩)
abbrev sAny : Stmt := topS 10
section
variable {P : Program} {w : World} {K : PySem.W.Frag} {mg : Str → Option Value} {base : Heap}
theorem scAny : FnScope ["deal", "bound", "rest"] ["deal", "bound"] (defScope sAny) := ⟨rfl, rfl, rfl, by decide +kernel, rfl, by decide +kernel, by decide +kernel⟩
theorem ok_any {f : Addr} {fd : FuncData} (F : Fun K "_law_any" "_law_any" sAny f fd) (mI : mg "int" = none) : FnOk P w K mg base CX0 1 f fd ["deal", "bound"] spAny := by
  refine F.ok scAny (fun vs H Q E h => ?_) (fun cdv A outer s H vs Q E hr h => ?_)
  · obtain ⟨a, l, m, rfl, _⟩ := h
    rfl
  obtain ⟨a, l, m, rfl, D, m1, m2, k⟩ := h
  have hu := Room.units hr
  obtain ⟨ns0, b0, D0⟩ := D
  refine ⟨_, Evl.pss_cut (ps_while PassesOwn.never (PW.pt (pw_and (pt_cmpR (op_neD hu) (pe_ix ix_list (pv 0) pe_int (fun _ _ => rfl)) (pe_lst pa_nil) (nomark _))
        (pw_and1 (pt_cmpR op_eq (pe_ix ix_list (pe_ix ix_list (pv 0) pe_int (fun _ _ => rfl)) (pe_un un_neg pe_int) (fun _ _ => rfl)) pe_int (nomark _)))))
      (pss_one (ps_expr (pe_bm0 PySem.F.plainAttrs_list PySem.F.slot_list_pop PySem.F.type_list_pop mt_pop (pe_ix ix_list (pv 0) pe_int (fun _ _ => rfl))))))
    (pss_cons (ps_if (pt_cmpR (op_neD hu) (pe_ix ix_list (pv 0) pe_int (fun _ _ => rfl)) (pe_lst pa_nil) (nomark _))
      (pss_cons (ps_set (i := 2) scAny.nd rfl (Or.inl rfl) (pe_callTy call_intI (by rfl) mI boot_int (pa_cons (pe_bm0 PySem.F.plainAttrs_list PySem.F.slot_list_pop PySem.F.type_list_pop mt_pop (pe_ix ix_list (pv 0) pe_int (fun _ _ => rfl))) pa_nil)))
      (pss_cons (ps_expr (pe_bm PySem.F.plainAttrs_list PySem.F.slot_list_append PySem.F.type_list_append mt_append (pe_ix ix_list (pv 0) pe_int (fun _ _ => rfl)) (pa_cons (pe_op op_fdiv (pv 2) (pv 1)) pa_nil)))
      (pss_one (ps_ret (pe_op op_mod (pv 2) (pv 1)))))) pss_nil)
    (pss_cons (ps_asg (pe_op op_mod (pe_callTy call_intI (by rfl) mI boot_int (pa_cons (pe_op op_add (pe_op op_mul (pe_ix ix_list (pv 0) pe_int (fun _ _ => rfl)) pe_int) pe_int) pa_nil)) pe_int) (pg_sub (pv 0) pe_int set_list))
    (pss_one (ps_ret (pe_op op_mod (pe_callTy call_intI (by rfl) mI boot_int (pa_cons (pe_op op_fdiv (pe_ix ix_list (pv 0) pe_int (fun _ _ => rfl)) pe_int) pa_nil)) (pv 1)))))), ?_⟩
  refine ⟨fun σ H' => ∃ ns, σ = [some (.ref a), some (.int m), none] ∧ DealAt H' a l ns b0 ∧ Kp a l H H', ?_, ?_⟩
  · refine ⟨fun n σ H' => ∃ ns, n = ns.length ∧ σ = [some (.ref a), some (.int m), none] ∧ DealAt H' a l ns b0 ∧ Kp a l H H', ⟨_, ns0, rfl, rfl, D0, Kp.refl _ _ _⟩, ?_⟩
    rintro _ σ H1 ⟨ns, rfl, rfl, D1, K1⟩
    walk_at "rd"
    refine ⟨_, SqL.of D1.ob, _, rfl, Nat.zero_le _, fun p hp => ?_⟩
    have D2 := D1.new (o := .lst []) hp
    have K2 := K1.new1 (o := .lst []) hp
    refine ⟨.list (ns.map PyData.int), .lst (SqL.of D2.li) (dpInts ns), .list [], .lst (SqL.of upd_same) .nil, shapedInts ns, shapedInts [], ?_⟩
    rw [eqvNil]
    cases ns with
    | nil =>
      refine iteF ?_
      exact ⟨[], D2, K2⟩
    | cons n r =>
      obtain ⟨z, e1, e2, e3, e4⟩ := last_int (ns := n :: r) (by simp)
      refine iteT ⟨_, SqL.of D2.ob, _, rfl, l, rfl, _, SqL.of D2.li, _, e2, rfl, ?_⟩
      refine ite2 (fun _ => ?_) (fun _ => ?_)
      · refine ⟨fun σ' H' => ∃ ms : List Int, ms.length < (n :: r).length ∧ σ' = [some (.ref a), some (.int m), none] ∧ DealAt H' a l ms b0 ∧ Kp a l H H', fun σ' H' ⟨ms, h1, h2⟩ => ⟨_, h1, ms, rfl, h2⟩, _, SqL.of D2.ob, _, rfl, .inl ⟨rfl, _, SqL.of D2.li⟩, l, rfl, _, D2.li, _, e3, (n :: r).dropLast, by simp, rfl, ?_, K2.putL⟩
        rw [e4]
        exact D2.put (fun x hx => D2.nn x (List.dropLast_subset _ hx)) (by have := D2.ln; rw [List.length_dropLast]; omega)
      · exact ⟨_, D2, K2⟩
  · rintro σ H1 ⟨ns, rfl, D1, K1⟩
    walk_at "rd"
    refine ⟨_, SqL.of D1.ob, _, rfl, Nat.zero_le _, fun p hp => ?_⟩
    have D2 := D1.new (o := .lst []) hp
    have K2 := K1.new1 (o := .lst []) hp
    refine ⟨.list (ns.map PyData.int), .lst (SqL.of D2.li) (dpInts ns), .list [], .lst (SqL.of upd_same) .nil, shapedInts ns, shapedInts [], ?_⟩
    rw [eqvNil]
    have mod : ∀ x : Int, 0 ≤ x % m ∧ x % m < m := fun x => ⟨Int.emod_nonneg _ (by omega), Int.emod_lt_of_pos _ (by omega)⟩
    cases ns with
    | nil =>
      refine iteF ⟨_, SqL.of D2.ob, _, rfl, b0, rfl, ?_⟩
      refine ⟨.inl ⟨by have := D2.b0; omega, by have := D2.b1; omega⟩, by decide, _, D2.ob, 1, rfl, ?_⟩
      have t0 : 0 ≤ (b0 * 40693 + 71) % 2147483647 := Int.emod_nonneg _ (by decide)
      have t1 : (b0 * 40693 + 71) % 2147483647 < 2147483647 := Int.emod_lt_of_pos _ (by decide)
      have D3 := D2.turn t0 t1
      refine ⟨_, SqL.of D3.ob, _, rfl, _, rfl, ⟨by decide, by decide⟩, by omega, ?_⟩
      exact k _ _ (mod _).1 (mod _).2 ⟨_, _, D3⟩ K2.putA
    | cons n r =>
      obtain ⟨z, e1, e2, e3, e4⟩ := last_int (ns := n :: r) (by simp)
      have z0 : 0 ≤ z := D2.nn z (by rw [e1]; simp)
      have D3 : DealAt _ a l (n :: r).dropLast b0 := D2.put (fun x hx => D2.nn x (List.dropLast_subset _ hx)) (by have := D2.ln; rw [List.length_dropLast]; omega)
      rw [← e4] at D3
      refine iteT ⟨_, SqL.of D2.ob, _, rfl, .inl ⟨rfl, _, SqL.of D2.li⟩, l, rfl, _, D2.li, _, e3, z, rfl, _, SqL.of D3.ob, _, rfl, .inl ⟨rfl, _, SqL.of upd_same⟩, ?_⟩
      refine ⟨⟨by omega, by omega⟩, l, rfl, _, upd_same, ?_, by omega, ?_⟩
      · have := D2.ln
        rw [List.length_dropLast, List.length_map]
        exact small1000 (by omega)
      · refine k _ _ (mod _).1 (mod _).2 ⟨(n :: r).dropLast ++ [z / m], b0, ?_⟩ K2.putL.putL
        have e : (List.map V.int (n :: r)).dropLast ++ [V.int (z / m)] = ((n :: r).dropLast ++ [z / m]).map V.int := by rw [e4, List.map_append]; rfl
        rw [e]
        refine D3.put (fun x hx => ?_) ?_
        · rcases List.mem_append.mp hx with q | q
          · exact D2.nn x (List.dropLast_subset _ q)
          · rw [List.mem_singleton.mp q]
            exact Int.ediv_nonneg z0 (by omega)
        · have := D2.ln
          have h1 : (n :: r).length = (n :: r).dropLast.length + 1 := by rw [List.length_dropLast]; simp
          rw [List.length_append, List.length_singleton]
          omega

abbrev s_law_of : Stmt := topS 11
theorem sc_law_of : FnScope ["deal", "some"] ["deal", "some"] (defScope s_law_of) := ⟨rfl, rfl, rfl, by decide +kernel, rfl, by decide +kernel, by decide +kernel⟩
theorem ok_of {f fA : Addr} {fd fdA : FuncData} (F : Fun K "_law_of" "_law_of" s_law_of f fd) (FA : FnOk P w K mg base CX0 1 fA fdA ["deal", "bound"] spAny) (gA : mg "_law_any" = some (.ref fA)) (kA : PySem.W.keepIn K (.ref fA) = true)
    (bA : Binds K fdA ["deal", "bound"] []) (mL : mg "len" = none) : FnOk P w K mg base CX0 2 f fd ["deal", "some"] (spOf K) := by
  refine F.ok sc_law_of (fun vs H Q E h => ?_) (fun cdv A outer s H vs Q E hr h => ?_)
  · obtain ⟨a, l, p, xs, rfl, _⟩ := h
    rfl
  obtain ⟨a, l, p, xs, rfl, D, hp, na, nl, ne, hz, k⟩ := h
  refine ⟨_, pss_one (ps_ret (pe_ix (IxR.or ix_list ix_tup) (pv 1) (pe_call FA hr rfl gA kA bA .nil pass0 (pa_cons (pv 0) (pa_cons (pe_callB call_len_seq (by rfl) mL PySem.boot_len (pa_cons (pv 1) pa_nil)) pa_nil))) (fun _ _ => rfl))), ?_⟩
  walk_at "rd"
  have hl : 0 < xs.length := List.length_pos_iff.mpr ne
  refine ⟨xs, ?_, a, l, _, rfl, D, by omega, by omega, fun r H' r0 r1 D' K' => ?_⟩
  · rcases hp with h | h
    · exact .inl (SqL.of h)
    · exact .inr (SqT.of h)
  have hi : r.toNat < xs.length := by omega
  have er : r = (r.toNat : Int) := by omega
  have at_ : atI xs r = some xs[r.toNat] := by
    have q := atI_nat (List.getElem?_eq_getElem hi)
    rw [← er] at q
    exact q
  have q := k r.toNat _ H' (List.getElem?_eq_getElem hi) D' K'
  rcases hp with h | h
  · exact .inl ⟨xs, r, rfl, SqL.of (K' _ _ h na nl), _, at_, q⟩
  · exact .inr ⟨xs, r, rfl, SqT.of (K' _ _ h na nl), _, at_, q⟩

abbrev s_law_draw : Stmt := topS 9
theorem sc_law_draw : FnScope ["script", "salt", "cell", "cells", "blend"] ["script", "salt"] (defScope s_law_draw) := ⟨rfl, rfl, rfl, by decide +kernel, rfl, by decide +kernel, by decide +kernel⟩
theorem ok_draw {f : Addr} {fd : FuncData} (F : Fun K "_law_draw" "_law_draw" s_law_draw f fd) (mI : mg "int" = none) (mA : mg "abs" = none) : FnOk P w K mg base CX0 1 f fd ["script", "salt"] (spDraw K) := by
  refine F.ok sc_law_draw (fun vs H Q E h => ?_) (fun cdv A outer s H vs Q E hr h => ?_)
  · obtain ⟨a, ns, z, rfl, _⟩ := h
    rfl
  obtain ⟨a, ns, z, rfl, hS, z0, z1, k⟩ := h
  refine ⟨_, (pss_cons (ps_setLc (i := 3) (own := [("cell", 2)]) (g := gName 2) rfl sc_law_draw.nd rfl rfl (sw_true rfl rfl rfl (by decide +kernel)) (pi_list (pe_slice sl_list (pv 0) po_none (po_some pe_int))) (blkOk_by (N := ["script", "salt", "cell", "cells", "blend"]) (sc := defScope s_law_draw) (by decide +kernel)) (fun _ _ _ _ _ => pg_name (i := 2) sc_law_draw.nd rfl (Or.inl rfl)) (fun _ _ _ _ _ => pts_nil) (fun _ _ _ _ _ => (pe_callB call_abs (by rfl) mA boot_abs (pa_cons (pe_callTy call_intI (by rfl) mI boot_int (pa_cons (pv 2) pa_nil)) pa_nil))))
  (pss_cons (ps_set (i := 4) sc_law_draw.nd rfl (by first | exact Or.inl rfl | exact Or.inr rfl) (pe_op op_add pe_int (pe_op op_mul pe_int (pv 1))))
  (pss_cons (ps_for PassesOwn.never rfl (pi_list (pv 3)) (pg_name (i := 2) sc_law_draw.nd rfl (by first | exact Or.inl rfl | exact Or.inr rfl))
    (pss_one (ps_set (i := 4) sc_law_draw.nd rfl (by first | exact Or.inl rfl | exact Or.inr rfl) (pe_op op_mod (pe_callTy call_intI (by rfl) mI boot_int (pa_cons (pe_op op_add (pe_op op_add (pe_op op_mul (pv 4) pe_int) (pe_op op_mod (pv 2) pe_int)) pe_int) pa_nil)) pe_int))))
  (pss_one (ps_ret (pe_lst (pa_cons (pe_revL (pe_lc (own := [("cell", 2)]) (g := gName 2) (tt := tTest (tOp (rI0 fun i j => .bl (decide (j ≤ i))) (tVar 2) (tOp (rI CPow fun i j => .int (i ^ j.toNat)) (tC (.int 10)) (tC (.int 18))))) rfl sc_law_draw.nd (pi_list (pv 3)) (blkOk_by (N := ["script", "salt", "cell", "cells", "blend"]) (sc := defScope s_law_draw) (by decide +kernel)) (fun _ _ _ _ _ => pg_name (i := 2) sc_law_draw.nd rfl (Or.inl rfl)) (fun _ _ _ _ _ => (pts_one (pt_cmpR op_ge (pv 2) (pe_op op_pow pe_int pe_int) (nomark _)))) (fun _ _ _ _ _ => (pv 2)))) (pa_cons (pv 4) pa_nil)))))))), ?_⟩
  walk_at "rd"
  refine ⟨_, hS, fun p hp => ⟨⟨_, SqL.of upd_same⟩, fun D hD => ?_⟩⟩
  have cut : cutV (ns.map V.int) none (some 48) = (ns.take 48).map V.int := by
    rw [List.map_take]
    unfold cutV
    rw [HT.sIx_none, show (some (48 : Int)) = some ((48 : Nat) : Int) from rfl, HT.sIx_nat, List.drop_zero, Nat.sub_zero, List.take_eq_take_iff]
    omega
  rw [cut]
  rw [cut] at hD
  have nD : D ≠ p := fun e => by rw [e, upd_same] at hD; cases hD
  have dH : H D = none := by rw [upd_ne nD] at hD; exact hD
  have hlen : (ns.take 48).length ≤ 48 := by rw [List.length_take]; omega
  refine lcL (xs := (ns.take 48).map V.int) (fun i H' => ∃ acc : List Int, acc.length = i ∧ (∀ n ∈ acc, 0 ≤ n) ∧ H' D = some (.lst (acc.map V.int)) ∧ H' p = some (.lst ((ns.take 48).map V.int)) ∧ Same H H') ?_ ?_ ?_ ?_
  · refine ⟨[], rfl, by simp, upd_same, by rw [upd_ne nD.symm, upd_same], fun c o e => ?_⟩
    rw [upd_ne (ne_of_none e dH), upd_ne (ne_of_none e hp)]
    exact e
  · rintro i H' _ ⟨acc, _, _, _, h, _⟩
    exact SqL.of h
  · rintro i x H' hx ⟨acc, h1, h2, h3, h4, h5⟩
    rw [List.getElem?_map] at hx
    obtain ⟨n, hn, rfl⟩ := Option.map_eq_some_iff.mp hx
    have hi := (List.getElem?_eq_some_iff.mp hn).1
    refine ⟨n, rfl, _, h3, by rw [List.length_map]; exact small1000 (by omega), acc ++ [if n < 0 then -n else n], by simp [h1], ?_, by rw [upd_same, List.map_append]; rfl, by rw [upd_ne nD.symm]; exact h4, fun c o e => by rw [upd_ne (ne_of_none e dH)]; exact h5 c o e⟩
    intro m hm
    rcases List.mem_append.mp hm with q | q
    · exact h2 m q
    · rw [List.mem_singleton.mp q]
      split <;> omega
  · rintro H1 ⟨acc, h1, h2, h3, h4, h5⟩
    rw [List.length_map] at h1
    refine ⟨.inl (by decide), ?_⟩
    refine ⟨_, rfl, D, rfl, ⟨_, SqL.of h3⟩, for_list (K := K) (a := D) (xs := acc.map V.int) (fun i σ H2 => ∃ v b, σ = [some (.ref a), some (.int z), v, some (.ref D), some (.int b)] ∧ 0 ≤ b ∧ b < 2147483647 ∧ H2 = H1) ⟨none, _, rfl, by omega, by omega, rfl⟩ (fun i σ H2 _ ⟨_, _, _, _, _, e⟩ => by rw [e]; exact SqL.of h3) ?_ ?_⟩
    · rintro i x σ H2 hx ⟨v, b, rfl, b0, b1, rfl⟩
      rw [List.getElem?_map] at hx
      obtain ⟨n, hn, rfl⟩ := Option.map_eq_some_iff.mp hx
      walk_at "rd"
      refine ⟨.inr (by decide), by decide, by decide, _, _, ⟨rfl, rfl⟩, Int.emod_nonneg _ (by decide), Int.emod_lt_of_pos _ (by decide)⟩
    · rintro σ H2 ⟨v, b, rfl, b0, b1, rfl⟩
      walk_at "rd"
      refine ⟨⟨_, SqL.of h3⟩, fun B hB => ?_⟩
      have nB : B ≠ D := fun e => by rw [e, h3] at hB; cases hB
      refine lcL (xs := acc.map V.int) (fun i H' => ∃ out : List Int, out.length ≤ i ∧ (∀ n ∈ out, 0 ≤ n) ∧ H' B = some (.lst (out.map V.int)) ∧ H' D = some (.lst (acc.map V.int)) ∧ Same H H') ?_ ?_ ?_ ?_
      · exact ⟨[], Nat.zero_le _, by simp, upd_same, by rw [upd_ne nB.symm]; exact h3, fun c o e => by rw [upd_ne (ne_of_none (h5 c o e) hB)]; exact h5 c o e⟩
      · rintro i H' _ ⟨_, _, _, _, h, _⟩
        exact SqL.of h
      · rintro i x H' hx ⟨out, o1, o2, o3, o4, o5⟩
        rw [List.getElem?_map] at hx
        obtain ⟨n, hn, rfl⟩ := Option.map_eq_some_iff.mp hx
        have hi := (List.getElem?_eq_some_iff.mp hn).1
        refine ⟨⟨by decide, by decide, by decide⟩, n, rfl, ?_⟩
        refine ite2 (fun _ => ?_) (fun _ => ⟨out, Nat.le_succ_of_le o1, o2, o3, o4, o5⟩)
        refine ⟨_, o3, by rw [List.length_map]; exact small1000 (by omega), out ++ [n], by rw [List.length_append]; exact Nat.add_le_add_right o1 1, ?_, by rw [upd_same, List.map_append]; rfl, by rw [upd_ne nB.symm]; exact o4, fun c o e => ?_⟩
        · intro m hm
          rcases List.mem_append.mp hm with q | q
          · exact o2 m q
          · rw [List.mem_singleton.mp q]
            exact h2 n (List.mem_of_getElem? hn)
        · rw [upd_ne (ne_of_none (h5 c o e) hB)]
          exact o5 c o e
      · rintro H3 ⟨out, o1, o2, o3, o4, o5⟩
        rw [List.length_map] at o1
        refine ⟨_, SqL.of o3, fun l hl => ⟨by decide, fun d hd => ?_⟩⟩
        have nd : l ≠ d := fun e => by rw [← e, upd_same] at hd; cases hd
        have hd3 : H3 d = none := by rw [upd_ne nd.symm] at hd; exact hd
        refine k d l _ ⟨out.reverse, b, upd_same, by rw [upd_ne nd, upd_same, List.map_reverse], fun n hn => o2 n (List.mem_reverse.mp hn), by rw [List.length_reverse]; omega, b0, b1⟩ (Same.free o5 hd3) (Same.free o5 hl) fun c o e => ?_
        rw [upd_ne (ne_of_none (o5 c o e) hd3), upd_ne (ne_of_none (o5 c o e) hl)]
        exact o5 c o e
end
end K05
set_option linter.all false
set_option maxRecDepth 100000
set_option maxHeartbeats 4000000
namespace K05
open PySem PySem.Spec PyProof.Rows L2 NB
local macro_rules | `(tactic| walk_at "rd") => `(tactic| simp only [cxK, tIf, tChain, tAug, ipI, rSlS, tThru, iRng1, iRng2, iEnumS, iStr, tPar, gTup, gNil, gCons, tRetN, tCall, tLc, iList, iTup, tRevL, tSl, tNoPart, tPart, rSlL, tYes, L2.start, List.map_cons, List.map_nil, List.length_cons, List.length_nil, List.replicate_succ, List.replicate_zero, Nat.reduceAdd, Nat.reduceSub, List.cons_append, List.nil_append, wipe, List.foldl_cons, List.foldl_nil, tAnd, tOr, tNot, tTest, tB, tOp, tUn, tVar, tC, tCB, tCons, tNil, tLst, tTup, tSeq, tNext, tAsg, tIfS, tRet, tDrop, gName, gSub, tBM0, tBM, rI, rI0, rU, rIxL, rIxT, rIxS, ↓reduceIte, rNeD, rEqD, rEq, rNe, rPop, rAppend, rSetL,
  List.getElem?_cons_zero, List.getElem?_cons_succ, List.set_cons_zero, List.set_cons_succ, Option.some.injEq, V.ref.injEq, V.int.injEq, V.bl.injEq, V.str.injEq, List.cons.injEq, exists_eq_left, exists_eq_left', exists_and_left, reduceCtorEq, false_and, and_false, exists_false, or_false, false_or, and_true, true_and])
/-! ### the tokens -/
theorem rlen_all {l : List Nat} (h : ∀ v, v < l.length → l[v]? ≠ some 10) : M05.rlen l = l.length := by
  induction l with
  | nil => rfl
  | cons c r ih =>
    have h0 : c ≠ 10 := fun e => h 0 (by simp) (by simp [e])
    have q := ih fun v hv e => h (v + 1) (by simpa using hv) (by simpa using e)
    unfold M05.rlen at *
    rw [List.takeWhile_cons_of_pos (by simpa using h0), List.length_cons, q, List.length_cons]
theorem rlen_at {l : List Nat} {j : Nat} (hj : l[j]? = some 10) (h : ∀ v, v < j → l[v]? ≠ some 10) : M05.rlen l = j := by
  induction l generalizing j with
  | nil => simp at hj
  | cons c r ih =>
    cases j with
    | zero =>
      obtain rfl : c = 10 := by simpa using hj
      unfold M05.rlen
      rw [List.takeWhile_cons_of_neg (by simp)]; rfl
    | succ j =>
      have h0 : c ≠ 10 := fun e => h 0 (by omega) (by simp [e])
      have q := ih (j := j) (by simpa using hj) fun v hv e => h (v + 1) (by omega) (by simpa using e)
      unfold M05.rlen at *
      rw [List.takeWhile_cons_of_pos (by simpa using h0), List.length_cons, q]
theorem drop_cps {z : Str} {k v : Nat} : (z.cps.toList.drop k)[v]? = z.cps[k + v]? := by rw [List.getElem?_drop, Array.getElem?_toList]
theorem getD_iff {z : Str} {v c : Nat} (h : v < z.length) : z.cps.getD v 0 = c ↔ z.cps[v]? = some c := by
  have h' : v < z.cps.size := h
  rw [Array.getElem?_eq_getElem h', Option.some.injEq, Array.getD_eq_getD_getElem?, Array.getElem?_eq_getElem h']; rfl
abbrev cs (z : Str) : List Nat := z.cps.toList
theorem cs_len (z : Str) : (cs z).length = z.length := by simp [cs, Str.length]
def brem (z : Str) (k : Nat) : Nat := k + M05.rlen ((cs z).drop k)
theorem find_brem {z : Str} {k : Nat} (hk : k ≤ z.length) : (if Txt.find3 z ⟨#[10]⟩ (k : Int) < 0 then (z.length : Int) else Txt.find3 z ⟨#[10]⟩ (k : Int)) = (brem z k : Int) := by
  have fi : PySem.fromIndex z.length (k : Int) = k := by
    unfold PySem.fromIndex
    rw [if_neg (by omega)]
    omega
  have dl : ((cs z).drop k).length = z.length - k := by rw [List.length_drop, cs_len]
  rcases StrLaws.find3_spec z 10 (k : Int) with ⟨h0, hn⟩ | ⟨j, h0, h1, h2, h3, hn⟩
  · rw [h0, if_pos (by decide)]
    rw [fi] at hn
    have q : M05.rlen ((cs z).drop k) = ((cs z).drop k).length := rlen_all fun v hv e => by
      rw [dl] at hv
      rw [drop_cps] at e
      exact hn (k + v) (by omega) (by omega) ((getD_iff (by omega)).mpr e)
    unfold brem
    rw [q, dl]
    omega
  · rw [h0, if_neg (by omega)]
    rw [fi] at h1 hn
    have q : M05.rlen ((cs z).drop k) = j - k := rlen_at (by rw [drop_cps, show k + (j - k) = j from by omega]; exact (getD_iff h2).mp h3) fun v hv e => by
      rw [drop_cps] at e
      exact hn (k + v) (by omega) (by omega) ((getD_iff (by omega)).mpr e)
    unfold brem
    rw [q]
    omega
def spBR : Sp := fun vs H Q _ => ∃ (z : Str) (k : Nat), vs = [.str z, .int (k : Int)] ∧ k ≤ z.length ∧ z.length ≤ 1000 ∧ Q (.int (brem z k : Int)) H
section
variable {P : Program} {w : World} {K : PySem.W.Frag} {mg : Str → Option Value} {base : Heap}
abbrev s_behind_remark : Stmt := topS 3
theorem sc_behind_remark : FnScope ["text", "at", "end"] ["text", "at"] (defScope s_behind_remark) := ⟨rfl, rfl, rfl, by decide +kernel, rfl, by decide +kernel, by decide +kernel⟩
theorem ok_behind_remark {f : Addr} {fd : FuncData} (F : Fun K "_behind_remark" "_behind_remark" s_behind_remark f fd) (mL : mg "len" = none) : FnOk P w K mg base CX0 1 f fd ["text", "at"] spBR := by
  refine F.ok sc_behind_remark (fun vs H Q E h => ?_) (fun cdv A outer s H vs Q E hr h => ?_)
  · obtain ⟨z, k, rfl, _⟩ := h
    rfl
  obtain ⟨z, k, rfl, h1, h2, q⟩ := h
  refine ⟨_, (pss_cons (ps_set (i := 2) sc_behind_remark.nd rfl (by first | exact Or.inl rfl | exact Or.inr rfl) (pe_bm PySem.F.plainAttrs_str PySem.F.slot_str_find PySem.F.type_str_find mt_find3 (pv 0) (pa_cons pe_str (pa_cons (pv 1) pa_nil))))
  (pss_one (ps_ret (pe_ifExp (pt_cmpR op_lt (pv 2) pe_int (nomark _)) (pe_callB call_len_str (by rfl) mL PySem.boot_len (pa_cons (pv 0) pa_nil)) (pv 2))))), ?_⟩
  walk_at "rd"
  refine ⟨rfl, _, _, ⟨rfl, rfl⟩, ?_⟩
  have nl : Str.ofString "\n" = ⟨#[10]⟩ := by decide +kernel
  have e := find_brem h1
  rw [nl]
  rw [← e] at q
  refine ite2 (fun c => ?_) (fun c => ?_)
  · rw [if_pos (of_decide_eq_true c)] at q
    exact ⟨Nat.le_trans h2 (by decide), q⟩
  · rw [if_neg (of_decide_eq_false (Bool.eq_false_iff.mpr c))] at q
    exact q
def WS : Str := "abcdefghijklmnopqrstuvwxyzABCDEFGHIJKLMNOPQRSTUVWXYZ_0123456789"
def BS : Str := " \n"
abbrev Wc : List Nat := WS.cps.toList
abbrev Bc : List Nat := BS.cps.toList
/-- the end of the token that begins at k -/
def btok (z : Str) (k : Nat) : Nat := k + 1 + (M05.wlen Wc ((cs z).drop k) - 1)
def spBT : Sp := fun vs H Q _ => ∃ (z : Str) (k : Nat), vs = [.str z, .int (k : Int)] ∧ k < z.length ∧ z.length ≤ 1000 ∧ Q (.int (btok z k : Int)) H
theorem wlen_step {l : List Nat} {c : Nat} {r : List Nat} (h : l = c :: r) (hc : c ∈ Wc) : M05.wlen Wc l = M05.wlen Wc r + 1 := by
  subst h
  unfold M05.wlen
  rw [List.takeWhile_cons_of_pos (by simpa using hc)]; rfl
theorem wlen_stop {l : List Nat} {c : Nat} {r : List Nat} (h : l = c :: r) (hc : c ∉ Wc) : M05.wlen Wc l = 0 := by
  subst h
  unfold M05.wlen
  rw [List.takeWhile_cons_of_neg (by simpa using hc)]; rfl
theorem drop_at {z : Str} {k : Nat} (h : k < z.length) : ∃ c, z.cps[k]? = some c ∧ (cs z).drop k = c :: (cs z).drop (k + 1) := by
  have h' : k < (cs z).length := by rw [cs_len]; exact h
  refine ⟨(cs z)[k], ?_, List.drop_eq_getElem_cons h'⟩
  rw [← Array.getElem?_toList]
  exact List.getElem?_eq_getElem h'
theorem at_cps {z : Str} {k c : Nat} (h : z.cps[k]? = some c) : atI z.cps.toList (k : Int) = some c := atI_nat (by rw [Array.getElem?_toList]; exact h)
abbrev s_behind_token : Stmt := topS 4
theorem sc_behind_token : FnScope ["text", "at", "end"] ["text", "at"] (defScope s_behind_token) := ⟨rfl, rfl, rfl, by decide +kernel, rfl, by decide +kernel, by decide +kernel⟩
theorem ok_behind_token {f : Addr} {fd : FuncData} (F : Fun K "_behind_token" "_behind_token" s_behind_token f fd) (mL : mg "len" = none) (mM : mg "max" = none) (mW : ∃ t, mg "WORD_SIGNS" = some (.str WS t)) : FnOk P w K mg base CX0 1 f fd ["text", "at"] spBT := by
  obtain ⟨tW, mW⟩ := mW
  refine F.ok sc_behind_token (fun vs H Q E h => ?_) (fun cdv A outer s H vs Q E hr h => ?_)
  · obtain ⟨z, k, rfl, _⟩ := h
    rfl
  obtain ⟨z, k, rfl, h1, h2, q⟩ := h
  have hz : z.length ≤ sizeLine := Nat.le_trans h2 (by decide)
  refine ⟨_, (pss_cons (ps_set (i := 2) sc_behind_token.nd rfl (by first | exact Or.inl rfl | exact Or.inr rfl) (pv 1))
  (Evl.pss_cut (ps_while PassesOwn.never (PW.pt (pw_and (pt_cmpR op_lt (pv 2) (pe_callB call_len_str (by rfl) mL PySem.boot_len (pa_cons (pv 0) pa_nil)) (nomark _)) (pw_and1 (pt_cmpR op_in_sign (pe_ix ix_str (pv 0) (pv 2) (fun _ _ => rfl)) (pe_glob (v := .str WS) rfl mW ⟨_, rfl⟩) (by rfl))))) (pss_one (ps_aug (i := 2) sc_behind_token.nd rfl (by first | exact Or.inl rfl | exact Or.inr rfl) pe_int ip_add)))
  (pss_one (ps_ret (pe_callB (call_max2 rfl) (by rfl) mM boot_max (pa_cons (pv 2) (pa_cons (pe_op op_add (pv 1) pe_int) pa_nil))))))), ?_⟩
  walk_at "rd"
  refine ⟨fun σ H' => H' = H ∧ σ = [some (.str z), some (.int (k : Int)), some (.int ((k + M05.wlen Wc ((cs z).drop k) : Nat) : Int))], ?_, ?_⟩
  · refine ⟨fun m σ H' => ∃ e : Nat, m = z.length - e ∧ e ≤ z.length ∧ k ≤ e ∧ H' = H ∧ σ = [some (.str z), some (.int (k : Int)), some (.int (e : Int))] ∧ e + M05.wlen Wc ((cs z).drop e) = k + M05.wlen Wc ((cs z).drop k), ⟨_, k, rfl, by omega, Nat.le_refl _, rfl, rfl, rfl⟩, ?_⟩
    rintro m σ H' ⟨e, rfl, e1, e2, rfl, rfl, e3⟩
    walk_at "rd"
    refine ⟨hz, ?_⟩
    refine ite2 (fun c => ?_) (fun c => ?_)
    · have c' : (e : Int) < (z.length : Int) := of_decide_eq_true c
      obtain ⟨d, d1, d2⟩ := drop_at (z := z) (k := e) (by omega)
      refine ⟨hz, d, at_cps d1, d, rfl, ?_⟩
      refine ite2 (fun w => ?_) (fun w => ?_)
      · have w' : d ∈ Wc := of_decide_eq_true w
        refine ⟨fun σ' H2 => H2 = H' ∧ σ' = [some (.str z), some (.int (k : Int)), some (.int ((e : Int) + 1))], fun σ' H2 ⟨q1, q2⟩ => ⟨_, by omega, e + 1, rfl, by omega, by omega, q1, q2, ?_⟩, rfl, rfl⟩
        rw [wlen_step d2 w'] at e3
        omega
      · have w' : d ∉ Wc := of_decide_eq_false (Bool.eq_false_iff.mpr w)
        rw [wlen_stop d2 w'] at e3
        omega
    · have c' : ¬ (e : Int) < (z.length : Int) := of_decide_eq_false (Bool.eq_false_iff.mpr c)
      have : (cs z).drop e = [] := List.drop_eq_nil_of_le (by rw [cs_len]; omega)
      rw [this] at e3
      simp only [M05.wlen, List.takeWhile_nil, List.length_nil] at e3
      unfold M05.wlen
      omega
  · rintro σ H' ⟨rfl, rfl⟩
    walk_at "rd"
    refine ⟨_, _, ⟨rfl, rfl⟩, ?_⟩
    have e : (if (k : Int) + 1 > ((k + M05.wlen Wc ((cs z).drop k) : Nat) : Int) then (k : Int) + 1 else ((k + M05.wlen Wc ((cs z).drop k) : Nat) : Int)) = (btok z k : Int) := by
      unfold btok
      split <;> omega
    rw [e]
    exact q
/-- the pairs at these places -/
def PrAt (H : Hp) (ts : List Addr) (ps : List (Nat × Nat)) : Prop := ts.length = ps.length ∧ ∀ (i : Nat) (t : Addr) (p : Nat × Nat), ts[i]? = some t → ps[i]? = some p → H t = some (.tup [.int (p.1 : Int), .int (p.2 : Int)])
theorem PrAt.nil (H : Hp) : PrAt H [] [] := ⟨rfl, fun i t p e => by simp at e⟩
theorem PrAt.mono {H H' : Hp} {ts : List Addr} {ps : List (Nat × Nat)} (h : PrAt H ts ps) (k : ∀ b xs, H b = some (.tup xs) → H' b = some (.tup xs)) : PrAt H' ts ps := ⟨h.1, fun i t p e1 e2 => k _ _ (h.2 i t p e1 e2)⟩
theorem PrAt.snoc {H : Hp} {ts : List Addr} {ps : List (Nat × Nat)} {t : Addr} {p : Nat × Nat} (h : PrAt H ts ps) (ht : H t = some (.tup [.int (p.1 : Int), .int (p.2 : Int)])) : PrAt H (ts ++ [t]) (ps ++ [p]) := by
  refine ⟨by rw [List.length_append, List.length_append, h.1]; rfl, fun i u q e1 e2 => ?_⟩
  by_cases hi : i < ts.length
  · rw [List.getElem?_append_left hi] at e1
    rw [List.getElem?_append_left (by rw [← h.1]; exact hi)] at e2
    exact h.2 i u q e1 e2
  · have e : i = ts.length := by
      have := (List.getElem?_eq_some_iff.mp e1).1
      rw [List.length_append, List.length_singleton] at this
      omega
    subst e
    rw [List.getElem?_append_right (Nat.le_refl _), Nat.sub_self] at e1
    rw [h.1, List.getElem?_append_right (Nat.le_refl _), Nat.sub_self] at e2
    simp only [List.getElem?_cons_zero, Option.some.injEq] at e1 e2
    subst e1 e2
    exact ht
abbrev SP (z : Str) (k : Nat) : List (Nat × Nat) := M05.spans Bc Wc k ((cs z).drop k)
def spSpans : Sp := fun vs H Q _ => ∃ z : Str, vs = [.str z] ∧ z.length ≤ 1000 ∧ ∀ (p : Addr) (ts : List Addr) (H' : Hp), Same H H' → H' p = some (.lst (ts.map V.ref)) → PrAt H' ts (SP z 0) → Q (.ref p) H'
theorem sp_blank {z : Str} {k c : Nat} (hd : (cs z).drop k = c :: (cs z).drop (k + 1)) (hc : c ∈ Bc) : SP z k = SP z (k + 1) := by
  unfold SP
  rw [hd, M05.spans, if_pos hc]
theorem sp_hash {z : Str} {k : Nat} (hd : (cs z).drop k = 35 :: (cs z).drop (k + 1)) : SP z k = SP z (brem z k) ∧ brem z k = k + 1 + M05.rlen ((cs z).drop (k + 1)) := by
  have r : M05.rlen ((cs z).drop k) = M05.rlen ((cs z).drop (k + 1)) + 1 := by
    rw [hd]
    unfold M05.rlen
    rw [List.takeWhile_cons_of_pos (by decide)]; rfl
  have e : brem z k = k + 1 + M05.rlen ((cs z).drop (k + 1)) := by unfold brem; omega
  refine ⟨?_, e⟩
  rw [e]
  unfold SP
  conv => lhs; rw [hd, M05.spans, if_neg (by decide +kernel), if_pos rfl, List.drop_drop]
theorem sp_token {z : Str} {k c : Nat} (hd : (cs z).drop k = c :: (cs z).drop (k + 1)) (h1 : c ∉ Bc) (h2 : c ≠ 35) : SP z k = (k, btok z k) :: SP z (btok z k) := by
  unfold SP btok
  conv => lhs; rw [hd, M05.spans, if_neg h1, if_neg h2, List.drop_drop]
  rw [← hd]
theorem brem_le {z : Str} {k : Nat} (h : k ≤ z.length) : brem z k ≤ z.length := by
  have : M05.rlen ((cs z).drop k) ≤ ((cs z).drop k).length := (List.takeWhile_sublist _).length_le
  rw [List.length_drop, cs_len] at this
  unfold brem
  omega
theorem btok_le {z : Str} {k : Nat} (h : k < z.length) : btok z k ≤ z.length := by
  have : M05.wlen Wc ((cs z).drop k) ≤ ((cs z).drop k).length := (List.takeWhile_sublist _).length_le
  rw [List.length_drop, cs_len] at this
  unfold btok
  omega
end
end K05
set_option linter.all false
set_option maxRecDepth 100000
set_option maxHeartbeats 4000000
namespace K05
open PySem PySem.Spec PyProof.Rows L2 NB
local macro_rules | `(tactic| walk_at "rd") => `(tactic| simp only [cxK, tIf, tChain, tAug, ipI, rSlS, tThru, iRng1, iRng2, iEnumS, iStr, tPar, gTup, gNil, gCons, tRetN, tCall, tLc, iList, iTup, tRevL, tSl, tNoPart, tPart, rSlL, tYes, L2.start, List.map_cons, List.map_nil, List.length_cons, List.length_nil, List.replicate_succ, List.replicate_zero, Nat.reduceAdd, Nat.reduceSub, List.cons_append, List.nil_append, wipe, List.foldl_cons, List.foldl_nil, tAnd, tOr, tNot, tTest, tB, tOp, tUn, tVar, tC, tCB, tCons, tNil, tLst, tTup, tSeq, tNext, tAsg, tIfS, tRet, tDrop, gName, gSub, tBM0, tBM, rI, rI0, rU, rIxL, rIxT, rIxS, ↓reduceIte, rNeD, rEqD, rEq, rNe, rPop, rAppend, rSetL,
  List.getElem?_cons_zero, List.getElem?_cons_succ, List.set_cons_zero, List.set_cons_succ, Option.some.injEq, V.ref.injEq, V.int.injEq, V.bl.injEq, V.str.injEq, List.cons.injEq, exists_eq_left, exists_eq_left', exists_and_left, reduceCtorEq, false_and, and_false, exists_false, or_false, false_or, and_true, true_and])
section
variable {P : Program} {w : World} {K : PySem.W.Frag} {mg : Str → Option Value} {base : Heap}
abbrev s_spans : Stmt := topS 5
theorem sc_spans : FnScope ["text", "spans", "at", "end"] ["text"] (defScope s_spans) := ⟨rfl, rfl, rfl, by decide +kernel, rfl, by decide +kernel, by decide +kernel⟩
theorem ok_spans {f fR fT : Addr} {fd fdR fdT : FuncData} (F : Fun K "_spans" "_spans" s_spans f fd) (mL : mg "len" = none) (mB : ∃ t, mg "BLANKS" = some (.str BS t))
    (FR : FnOk P w K mg base CX0 1 fR fdR ["text", "at"] spBR) (gR : mg "_behind_remark" = some (.ref fR)) (kR : PySem.W.keepIn K (.ref fR) = true) (bR : Binds K fdR ["text", "at"] [])
    (FT : FnOk P w K mg base CX0 1 fT fdT ["text", "at"] spBT) (gT : mg "_behind_token" = some (.ref fT)) (kT : PySem.W.keepIn K (.ref fT) = true) (bT : Binds K fdT ["text", "at"] []) : FnOk P w K mg base CX0 2 f fd ["text"] spSpans := by
  obtain ⟨tB, mB⟩ := mB
  refine F.ok sc_spans (fun vs H Q E h => ?_) (fun cdv A outer s H vs Q E hr h => ?_)
  · obtain ⟨z, rfl, _⟩ := h
    rfl
  obtain ⟨z, rfl, h2, q⟩ := h
  have hz : z.length ≤ sizeLine := Nat.le_trans h2 (by decide)
  refine ⟨_, (pss_cons (ps_set (i := 1) sc_spans.nd rfl (by first | exact Or.inl rfl | exact Or.inr rfl) (pe_lst pa_nil))
  (pss_cons (ps_set (i := 2) sc_spans.nd rfl (by first | exact Or.inl rfl | exact Or.inr rfl) pe_int)
  (Evl.pss_cut (ps_while PassesOwn.never (pt_cmpR op_lt (pv 2) (pe_callB call_len_str (by rfl) mL PySem.boot_len (pa_cons (pv 0) pa_nil)) (nomark _)) (pss_one (ps_if (pt_cmpR op_in_sign (pe_ix ix_str (pv 0) (pv 2) (fun _ _ => rfl)) (pe_glob (v := .str BS) rfl mB ⟨_, rfl⟩) (by rfl)) (pss_one (ps_aug (i := 2) sc_spans.nd rfl (by first | exact Or.inl rfl | exact Or.inr rfl) pe_int ip_add))
      (pss_one (ps_if (pt_cmpR op_eq (pe_ix ix_str (pv 0) (pv 2) (fun _ _ => rfl)) pe_str (nomark _)) (pss_one (ps_set (i := 2) sc_spans.nd rfl (by first | exact Or.inl rfl | exact Or.inr rfl) (pe_call FR hr rfl gR kR bR .nil pass0 (pa_cons (pv 0) (pa_cons (pv 2) pa_nil)))))
        (pss_cons (ps_set (i := 3) sc_spans.nd rfl (by first | exact Or.inl rfl | exact Or.inr rfl) (pe_call FT hr rfl gT kT bT .nil pass0 (pa_cons (pv 0) (pa_cons (pv 2) pa_nil))))
        (pss_cons (ps_expr (pe_bm PySem.F.plainAttrs_list PySem.F.slot_list_append PySem.F.type_list_append mt_append (pv 1) (pa_cons (pe_tup (pa_cons (pv 2) (pa_cons (pv 3) pa_nil))) pa_nil)))
        (pss_one (ps_set (i := 2) sc_spans.nd rfl (by first | exact Or.inl rfl | exact Or.inr rfl) (pv 3))))))))))
  (pss_one (ps_ret (pv 1)))))), ?_⟩
  walk_at "rd"
  refine ⟨Nat.zero_le _, fun p hp => ?_⟩
  refine ⟨fun σ H' => ∃ (e : Int) (v : Option V) (ts : List Addr), σ = [some (.str z), some (.ref p), some (.int e), v] ∧ Same H H' ∧ H' p = some (.lst (ts.map V.ref)) ∧ PrAt H' ts (SP z 0), ?_, ?_⟩
  · refine ⟨fun m σ H' => ∃ (e : Nat) (v : Option V) (ts : List Addr) (ps : List (Nat × Nat)), m = z.length - e ∧ e ≤ z.length ∧ ts.length ≤ e ∧ σ = [some (.str z), some (.ref p), some (.int (e : Int)), v] ∧ Same H H' ∧ H' p = some (.lst (ts.map V.ref)) ∧ PrAt H' ts ps ∧ ps ++ SP z e = SP z 0,
      ⟨_, 0, none, [], [], rfl, Nat.zero_le _, Nat.le_refl _, rfl, fun b o e => ?_, upd_same, PrAt.nil _, rfl⟩, ?_⟩
    · rw [upd_ne (ne_of_none e hp)]; exact e
    rintro m σ H' ⟨e, v, ts, ps, rfl, e1, e2, rfl, S1, hL, R, eq⟩
    walk_at "rd"
    refine ⟨hz, ?_⟩
    refine ite2 (fun c => ?_) (fun c => ?_)
    · have c' : (e : Int) < (z.length : Int) := of_decide_eq_true c
      have el : e < z.length := by omega
      obtain ⟨d, d1, d2⟩ := drop_at el
      refine ⟨fun σ' H2 => ∃ (e' : Nat) (v : Option V) (ts : List Addr) (ps : List (Nat × Nat)), e < e' ∧ e' ≤ z.length ∧ ts.length ≤ e' ∧ σ' = [some (.str z), some (.ref p), some (.int (e' : Int)), v] ∧ Same H H2 ∧ H2 p = some (.lst (ts.map V.ref)) ∧ PrAt H2 ts ps ∧ ps ++ SP z e' = SP z 0,
        fun σ' H2 ⟨e', v', ts', ps', r0, r1, r2, r3, r4, r5, r6, r7⟩ => ⟨_, by omega, e', rfl, r1, v', ts', r2, r3, r4, r5, ps', r6, r7⟩, hz, d, at_cps d1, d, rfl, ?_⟩
      refine ite2 (fun w => ?_) (fun w => ?_)
      · exact ⟨e + 1, v, ts, ps, by omega, by omega, by omega, rfl, S1, hL, R, by rw [← sp_blank d2 (of_decide_eq_true w)]; exact eq⟩
      · have w' : d ∉ Bc := of_decide_eq_false (Bool.eq_false_iff.mpr w)
        refine ⟨hz, d, at_cps d1, rfl, ?_⟩
        have sharp : Str.ofString "#" = ⟨#[35]⟩ := by decide +kernel
        rw [sharp]
        refine ite2 (fun y => ?_) (fun y => ?_)
        · have y' : d = 35 := by
            have := of_decide_eq_true y
            simpa using this
          subst y'
          obtain ⟨h1, h3⟩ := sp_hash d2
          refine ⟨z, e, rfl, by omega, h2, ?_⟩
          exact ⟨brem z e, v, ts, ps, by omega, brem_le (by omega), by omega, rfl, S1, hL, R, by rw [← h1]; exact eq⟩
        · have y' : d ≠ 35 := fun x => y (by rw [x]; decide)
          have bt := btok_le el
          have bg : e < btok z e := by unfold btok; omega
          refine ⟨z, e, rfl, el, h2, .inl ⟨rfl, _, SqL.of hL⟩, by decide, fun t ht => ?_⟩
          have pt : p ≠ t := ne_of_none hL ht
          refine ⟨_, by rw [upd_ne pt]; exact hL, by rw [List.length_map]; exact small1000 (by omega), btok z e, some (.int (btok z e : Int)), ts ++ [t], ps ++ [(e, btok z e)], bg, bt, by rw [List.length_append, List.length_singleton]; omega, rfl, fun b o eb => ?_, by rw [upd_same, List.map_append]; rfl, ?_, ?_⟩
          · have bp : b ≠ p := ne_of_none eb hp
            rw [upd_ne bp, upd_ne (ne_of_none (S1 b o eb) ht)]
            exact S1 b o eb
          · refine PrAt.snoc (R.mono fun b xs eb => ?_) ?_
            · have bp : b ≠ p := ne_of eb hL (by intro x; cases x)
              rw [upd_ne bp, upd_ne (ne_of_none eb ht)]
              exact eb
            · rw [upd_ne (Ne.symm pt), upd_same]
          · rw [List.append_assoc, List.singleton_append, ← sp_token d2 w' y']
            exact eq
    · have c' : ¬ (e : Int) < (z.length : Int) := of_decide_eq_false (Bool.eq_false_iff.mpr c)
      have n0 : (cs z).drop e = [] := List.drop_eq_nil_of_le (by rw [cs_len]; omega)
      have e0 : SP z e = [] := by unfold SP; rw [n0, M05.spans]
      rw [e0, List.append_nil] at eq
      rw [← eq]
      exact ⟨_, _, ⟨rfl, rfl⟩, S1, ts, hL, R⟩
  · rintro σ H' ⟨e, v, ts, rfl, S1, hL, R⟩
    walk_at "rd"
    exact q p ts H' S1 hL R

/-- the pieces of a text -/
def toks (z : Str) : List Str := (SP z 0).map fun p => cutS z (some (p.1 : Int)) (some (p.2 : Int))
def plcs (z : Str) : List Int := (SP z 0).map fun p => (p.1 : Int)
def spToks : Sp := fun vs H Q _ => ∃ z : Str, vs = [.str z] ∧ z.length ≤ 1000 ∧ ∀ (p : Addr) (H' : Hp), Same H H' → H' p = some (.tup ((toks z).map V.str)) → Q (.ref p) H'
def spPlcs : Sp := fun vs H Q _ => ∃ z : Str, vs = [.str z] ∧ z.length ≤ 1000 ∧ ∀ (p : Addr) (H' : Hp), Same H H' → H' p = some (.tup ((plcs z).map V.int)) → Q (.ref p) H'
theorem SP_len (z : Str) : ∀ (n k : Nat), z.length - k ≤ n → (SP z k).length ≤ z.length - k := by
  intro n
  induction n with
  | zero =>
    intro k h
    have : (cs z).drop k = [] := List.drop_eq_nil_of_le (by rw [cs_len]; omega)
    have e0 : SP z k = [] := by unfold SP; rw [this, M05.spans]
    rw [e0]; exact Nat.zero_le _
  | succ n ih =>
    intro k h
    rcases Nat.lt_or_ge k z.length with hk | hk
    · obtain ⟨d, d1, d2⟩ := drop_at hk
      by_cases hb : d ∈ Bc
      · rw [sp_blank d2 hb]
        have := ih (k + 1) (by omega)
        omega
      · by_cases h35 : d = 35
        · subst h35
          obtain ⟨h1, h3⟩ := sp_hash d2
          rw [h1]
          have := ih (brem z k) (by omega)
          omega
        · rw [sp_token d2 hb h35, List.length_cons]
          have bg : k < btok z k := by unfold btok; omega
          have bt := btok_le hk
          have := ih (btok z k) (by omega)
          omega
    · exact ih k (by omega)
abbrev s_tokens_of : Stmt := topS 6
theorem sc_tokens_of : FnScope ["text", "start", "end"] ["text"] (defScope s_tokens_of) := ⟨rfl, rfl, rfl, by decide +kernel, rfl, by decide +kernel, by decide +kernel⟩
theorem ok_tokens_of {f fS : Addr} {fd fdS : FuncData} (F : Fun K "tokens_of" "tokens_of" s_tokens_of f fd) (mT : mg "tuple" = none)
    (FS : FnOk P w K mg base CX0 2 fS fdS ["text"] spSpans) (gS : mg "_spans" = some (.ref fS)) (kS : PySem.W.keepIn K (.ref fS) = true) (bS : Binds K fdS ["text"] []) : FnOk P w K mg base CX0 3 f fd ["text"] spToks := by
  refine F.ok sc_tokens_of (fun vs H Q E h => ?_) (fun cdv A outer s H vs Q E hr h => ?_)
  · obtain ⟨z, rfl, _⟩ := h
    rfl
  obtain ⟨z, rfl, h2, q⟩ := h
  have hz : z.length ≤ sizeLine := Nat.le_trans h2 (by decide)
  refine ⟨_, (pss_one (ps_ret (pe_callTy call_tupleL (by rfl) mT boot_tuple (pa_cons (pe_lc (own := [("start", 1), ("end", 2)]) (g := gTup K 2 (gCons (gName 1) (gCons (gName 2) gNil))) rfl sc_tokens_of.nd (pi_list (pe_call FS hr rfl gS kS bS .nil pass0 (pa_cons (pv 0) pa_nil))) (blkOk_by (N := ["text", "start", "end"]) (sc := defScope s_tokens_of) (by decide +kernel)) (fun _ _ _ _ _ => pg_tup rfl (pgs_cons (pg_name (i := 1) sc_tokens_of.nd rfl (Or.inl rfl)) (pgs_cons (pg_name (i := 2) sc_tokens_of.nd rfl (Or.inl rfl)) pgs_nil))) (fun _ _ _ _ _ => pts_nil) (fun _ _ _ _ _ => (pe_slice sl_str (pv 0) (po_some (pv 1)) (po_some (pv 2))))) pa_nil)))), ?_⟩
  walk_at "rd"
  refine ⟨z, rfl, h2, fun a ts H1 S1 hL R => ⟨a, rfl, ⟨_, SqL.of hL⟩, fun D hD => ?_⟩⟩
  have lz := SP_len z z.length 0 (by omega)
  have DH : H D = none := Same.free S1 hD
  have Da : a ≠ D := ne_of_none hL hD
  refine lcL (xs := ts.map V.ref) (fun i H' => H' D = some (.lst (((SP z 0).take i).map fun p => V.str (cutS z (some (p.1 : Int)) (some (p.2 : Int))))) ∧ Same H1 H') ?_ ?_ ?_ ?_
  · exact ⟨upd_same, fun b o e => by rw [upd_ne (ne_of_none e hD)]; exact e⟩
  · rintro i H' _ ⟨_, S2⟩
    exact SqL.of (S2 _ _ hL)
  · rintro i x H' hx ⟨h3, S2⟩
    rw [List.getElem?_map] at hx
    obtain ⟨t, ht, rfl⟩ := Option.map_eq_some_iff.mp hx
    have it : i < (SP z 0).length := by rw [← R.1]; exact (List.getElem?_eq_some_iff.mp ht).1
    have hp : (SP z 0)[i]? = some (SP z 0)[i] := List.getElem?_eq_getElem it
    have tt := S2 _ _ (R.2 i t _ ht hp)
    refine ⟨t, rfl, _, SqT.of tt, rfl, _, _, rfl, _, _, rfl, rfl, _, rfl, _, rfl, hz, _, h3, ?_, ?_, fun b o e => ?_⟩
    · rw [List.length_map, List.length_take]; exact small1000 (by omega)
    · rw [upd_same, List.take_succ, hp, Option.toList_some, List.map_append]; rfl
    · rw [upd_ne (ne_of_none e hD)]; exact S2 b o e
  · rintro H' ⟨h3, S2⟩
    rw [List.length_map, R.1, List.take_length] at h3
    refine ⟨_, SqL.of h3, fun l hl => ?_⟩
    refine q l _ (fun b o e => ?_) ?_
    · rw [upd_ne (ne_of_none (S2 b o (S1 b o e)) hl)]; exact S2 b o (S1 b o e)
    · rw [upd_same]; unfold toks; rw [List.map_map]; rfl

abbrev s_token_places : Stmt := topS 7
theorem sc_token_places : FnScope ["text", "start", "_"] ["text"] (defScope s_token_places) := ⟨rfl, rfl, rfl, by decide +kernel, rfl, by decide +kernel, by decide +kernel⟩
theorem ok_token_places {f fS : Addr} {fd fdS : FuncData} (F : Fun K "token_places" "token_places" s_token_places f fd) (mT : mg "tuple" = none)
    (FS : FnOk P w K mg base CX0 2 fS fdS ["text"] spSpans) (gS : mg "_spans" = some (.ref fS)) (kS : PySem.W.keepIn K (.ref fS) = true) (bS : Binds K fdS ["text"] []) : FnOk P w K mg base CX0 3 f fd ["text"] spPlcs := by
  refine F.ok sc_token_places (fun vs H Q E h => ?_) (fun cdv A outer s H vs Q E hr h => ?_)
  · obtain ⟨z, rfl, _⟩ := h
    rfl
  obtain ⟨z, rfl, h2, q⟩ := h
  refine ⟨_, (pss_one (ps_ret (pe_callTy call_tupleL (by rfl) mT boot_tuple (pa_cons (pe_lc (own := [("start", 1), ("_", 2)]) (g := gTup K 2 (gCons (gName 1) (gCons (gName 2) gNil))) rfl sc_token_places.nd (pi_list (pe_call FS hr rfl gS kS bS .nil pass0 (pa_cons (pv 0) pa_nil))) (blkOk_by (N := ["text", "start", "_"]) (sc := defScope s_token_places) (by decide +kernel)) (fun _ _ _ _ _ => pg_tup rfl (pgs_cons (pg_name (i := 1) sc_token_places.nd rfl (Or.inl rfl)) (pgs_cons (pg_name (i := 2) sc_token_places.nd rfl (Or.inl rfl)) pgs_nil))) (fun _ _ _ _ _ => pts_nil) (fun _ _ _ _ _ => (pv 1))) pa_nil)))), ?_⟩
  walk_at "rd"
  refine ⟨z, rfl, h2, fun a ts H1 S1 hL R => ⟨a, rfl, ⟨_, SqL.of hL⟩, fun D hD => ?_⟩⟩
  have lz := SP_len z z.length 0 (by omega)
  have DH : H D = none := Same.free S1 hD
  have Da : a ≠ D := ne_of_none hL hD
  refine lcL (xs := ts.map V.ref) (fun i H' => H' D = some (.lst (((SP z 0).take i).map fun p => V.int (p.1 : Int))) ∧ Same H1 H') ?_ ?_ ?_ ?_
  · exact ⟨upd_same, fun b o e => by rw [upd_ne (ne_of_none e hD)]; exact e⟩
  · rintro i H' _ ⟨_, S2⟩
    exact SqL.of (S2 _ _ hL)
  · rintro i x H' hx ⟨h3, S2⟩
    rw [List.getElem?_map] at hx
    obtain ⟨t, ht, rfl⟩ := Option.map_eq_some_iff.mp hx
    have it : i < (SP z 0).length := by rw [← R.1]; exact (List.getElem?_eq_some_iff.mp ht).1
    have hp : (SP z 0)[i]? = some (SP z 0)[i] := List.getElem?_eq_getElem it
    have tt := S2 _ _ (R.2 i t _ ht hp)
    refine ⟨t, rfl, _, SqT.of tt, rfl, _, _, rfl, _, _, rfl, rfl, _, h3, ?_, ?_, fun b o e => ?_⟩
    · rw [List.length_map, List.length_take]; exact small1000 (by omega)
    · rw [upd_same, List.take_succ, hp, Option.toList_some, List.map_append]; rfl
    · rw [upd_ne (ne_of_none e hD)]; exact S2 b o e
  · rintro H' ⟨h3, S2⟩
    rw [List.length_map, R.1, List.take_length] at h3
    refine ⟨_, SqL.of h3, fun l hl => ?_⟩
    refine q l _ (fun b o e => ?_) ?_
    · rw [upd_ne (ne_of_none (S2 b o (S1 b o e)) hl)]; exact S2 b o (S1 b o e)
    · rw [upd_same]; unfold plcs; rw [List.map_map]; rfl
end
end K05
set_option linter.all false
set_option maxRecDepth 100000
set_option maxHeartbeats 4000000
namespace K05
open PySem PySem.Spec PyProof.Rows L2 NB
local macro_rules | `(tactic| walk_at "rd") => `(tactic| simp only [cxK, tIf, tChain, tAug, ipI, rSlS, tThru, iRng1, iRng2, iEnumS, iStr, tPar, tPar3, gTup, gNil, gCons, tRetN, tCall, tLc, iList, iTup, tRevL, tSl, tNoPart, tPart, rSlL, tYes, L2.start, List.map_cons, List.map_nil, List.length_cons, List.length_nil, List.replicate_succ, List.replicate_zero, Nat.reduceAdd, Nat.reduceSub, List.cons_append, List.nil_append, wipe, List.foldl_cons, List.foldl_nil, tAnd, tOr, tNot, tTest, tB, tOp, tUn, tVar, tC, tCB, tCons, tNil, tLst, tTup, tSeq, tNext, tAsg, tIfS, tRet, tDrop, gName, gSub, tBM0, tBM, rI, rI0, rU, rIxL, rIxT, rIxS, ↓reduceIte, rNeD, rEqD, rEq, rNe, rPop, rAppend, rSetL,
  List.getElem?_cons_zero, List.getElem?_cons_succ, List.set_cons_zero, List.set_cons_succ, Option.some.injEq, V.ref.injEq, V.int.injEq, V.bl.injEq, V.str.injEq, List.cons.injEq, exists_eq_left, exists_eq_left', exists_and_left, reduceCtorEq, false_and, and_false, exists_false, or_false, false_or, and_true, true_and])
def LS : Str := "abcdefghijklmnopqrstuvwxyzABCDEFGHIJKLMNOPQRSTUVWXYZ0123456789_"
abbrev Lc : List Nat := LS.cps.toList
theorem WL (c : Nat) : c ∈ Lc ↔ c ∈ Wc := by
  have h1 : Lc.all (fun c => decide (c ∈ Wc)) = true := by decide +kernel
  have h2 : Wc.all (fun c => decide (c ∈ Lc)) = true := by decide +kernel
  rw [List.all_eq_true] at h1 h2
  exact ⟨fun h => of_decide_eq_true (h1 c h), fun h => of_decide_eq_true (h2 c h)⟩
theorem step_WL (s : M05.S3) (i c : Nat) : M05.step Bc Lc s i c = M05.step Bc Wc s i c := by
  unfold M05.step
  simp only [WL]
theorem run_WL : ∀ (l : List Nat) (i : Nat) (s : M05.S3), M05.run Bc Lc i l s = M05.run Bc Wc i l s
  | [], _, _ => rfl
  | c :: r, i, s => by
    show M05.run Bc Lc (i + 1) r (M05.step Bc Lc s i c) = M05.run Bc Wc (i + 1) r (M05.step Bc Wc s i c)
    rw [step_WL, run_WL r]
theorem run_take (B W l : List Nat) (s : M05.S3) : ∀ (n i : Nat), n < l.length → M05.run B W i (l.take (n + 1)) s = M05.step B W (M05.run B W i (l.take n) s) (i + n) (l.getD n 0) := by
  induction l generalizing s with
  | nil => intro n i h; simp at h
  | cons c r ih =>
    intro n i h
    cases n with
    | zero => simp [M05.run]
    | succ n =>
      simp only [List.take_succ_cons, M05.run]
      rw [ih _ n (i + 1) (by simpa using h)]
      simp only [List.getD_cons_succ]
      rw [show i + 1 + n = i + (n + 1) from by omega]
/-- the lists of two at these places -/
def LsAt (H : Hp) (ts : List Addr) (ps : List (Nat × Nat)) : Prop := ts.length = ps.length ∧ ts.Nodup ∧ ∀ (i : Nat) (t : Addr) (p : Nat × Nat), ts[i]? = some t → ps[i]? = some p → H t = some (.lst [.int (p.1 : Int), .int (p.2 : Int)])
def spPl : Sp := fun vs H Q _ => ∃ z : Str, vs = [.str z] ∧ z.length ≤ 1000 ∧ ∀ (p : Addr) (ts : List Addr) (H' : Hp), Same H H' → H' p = some (.lst (ts.map V.ref)) → LsAt H' ts (M05.S Bc Wc 0 (cs z)) → Q (.ref p) H'
theorem LsAt.snoc {H : Hp} {ts : List Addr} {ps : List (Nat × Nat)} {t : Addr} {p : Nat × Nat} (h : LsAt H ts ps) (nt : t ∉ ts) (ht : H t = some (.lst [.int (p.1 : Int), .int (p.2 : Int)])) : LsAt H (ts ++ [t]) (ps ++ [p]) := by
  refine ⟨by rw [List.length_append, List.length_append, h.1]; rfl, ?_, fun i u q e1 e2 => ?_⟩
  · rw [List.nodup_append]
    exact ⟨h.2.1, by simp, fun a ha b hb e => nt (by rw [List.mem_singleton.mp hb] at e; exact e ▸ ha)⟩
  by_cases hi : i < ts.length
  · rw [List.getElem?_append_left hi] at e1
    rw [List.getElem?_append_left (by rw [← h.1]; exact hi)] at e2
    exact h.2.2 i u q e1 e2
  · have e : i = ts.length := by
      have := (List.getElem?_eq_some_iff.mp e1).1
      rw [List.length_append, List.length_singleton] at this
      omega
    subst e
    rw [List.getElem?_append_right (Nat.le_refl _), Nat.sub_self] at e1
    rw [h.1, List.getElem?_append_right (Nat.le_refl _), Nat.sub_self] at e2
    simp only [List.getElem?_cons_zero, Option.some.injEq] at e1 e2
    subst e1 e2
    exact ht
theorem LsAt.mono {H H' : Hp} {ts : List Addr} {ps : List (Nat × Nat)} (h : LsAt H ts ps) (k : ∀ t ∈ ts, ∀ o, H t = some o → H' t = some o) : LsAt H' ts ps :=
  ⟨h.1, h.2.1, fun i t p e1 e2 => k t (List.mem_of_getElem? e1) _ (h.2.2 i t p e1 e2)⟩
theorem LsAt.front {H : Hp} {ts : List Addr} {ps : List (Nat × Nat)} {t : Addr} {p : Nat × Nat} (h : LsAt H (ts ++ [t]) (ps ++ [p])) : LsAt H ts ps ∧ t ∉ ts ∧ H t = some (.lst [.int (p.1 : Int), .int (p.2 : Int)]) := by
  have hl : ts.length = ps.length := by have := h.1; simpa using this
  have nd := h.2.1
  rw [List.nodup_append] at nd
  refine ⟨⟨hl, nd.1, fun i u q e1 e2 => h.2.2 i u q ?_ ?_⟩, fun hm => nd.2.2 t hm t (by simp) rfl, h.2.2 ts.length t p (by simp) (by rw [hl]; simp)⟩
  · rw [List.getElem?_append_left (List.getElem?_eq_some_iff.mp e1).1]; exact e1
  · rw [List.getElem?_append_left (List.getElem?_eq_some_iff.mp e2).1]; exact e2
theorem snoc_of {α : Type} {l : List α} (h : l ≠ []) : ∃ r x, l = r ++ [x] := ⟨l.dropLast, l.getLast h, (List.dropLast_concat_getLast h).symm⟩
theorem atI_last {ts : List Addr} {t : Addr} : atI ((ts ++ [t]).map V.ref) (-1) = some (.ref t) := by
  unfold atI ixN
  rw [List.length_map, List.length_append, List.length_singleton, if_neg (by omega), if_pos (by omega)]
  have q : ((-1 : Int) + ((ts.length + 1 : Nat) : Int)).toNat = ts.length := by omega
  simp only [Option.bind_some, q]
  simp
/-- what holds between two turns -/
structure Tn (H H' : Hp) (p : Addr) (ts : List Addr) (st : M05.S3) (n : Nat) : Prop where
  sm : Same H H'
  li : H' p = some (.lst (ts.map V.ref))
  ls : LsAt H' ts st.1
  np : p ∉ ts
  nh : ∀ t ∈ ts, H t = none
  sz : ts.length ≤ n
  wi : st.2.1 = true → st.1 ≠ []
theorem Tn.more {H H' : Hp} {p : Addr} {ts : List Addr} {st st' : M05.S3} {n : Nat} {T : Addr} {o : HO} (h : Tn H H' p ts st n) (hT : H' T = none) (e1 : st'.1 = st.1) (e2 : st'.2.1 = false) : Tn H (upd H' T o) p ts st' (n + 1) := by
  have k : ∀ b u, H' b = some u → upd H' T o b = some u := fun b u e => by rw [upd_ne (ne_of_none e hT)]; exact e
  refine ⟨fun b u e => k _ _ (h.sm b u e), k _ _ h.li, ?_, h.np, h.nh, Nat.le_succ_of_le h.sz, fun e => by rw [e2] at e; cases e⟩
  rw [e1]
  exact h.ls.mono fun t _ u e => k t u e
theorem Tn.keep {H H' : Hp} {p : Addr} {ts : List Addr} {st : M05.S3} {n : Nat} {T : Addr} {o : HO} (h : Tn H H' p ts st n) (hT : H' T = none) : Tn H (upd H' T o) p ts st n := by
  have k : ∀ b u, H' b = some u → upd H' T o b = some u := fun b u e => by rw [upd_ne (ne_of_none e hT)]; exact e
  exact ⟨fun b u e => k _ _ (h.sm b u e), k _ _ h.li, h.ls.mono fun t _ u e => k t u e, h.np, h.nh, h.sz, h.wi⟩
theorem Tn.fin {H H' : Hp} {p : Addr} {ts : List Addr} {ps : List (Nat × Nat)} {w r r' : Bool} {n : Nat} (h : Tn H H' p ts (ps, w, r) n) : Tn H H' p ts (ps, false, r') (n + 1) :=
  ⟨h.sm, h.li, h.ls, h.np, h.nh, Nat.le_succ_of_le h.sz, fun e => by cases e⟩
theorem Tn.add {H H' : Hp} {p : Addr} {ts : List Addr} {st : M05.S3} {n : Nat} {q : Addr} {a b : Nat} {w r : Bool} (h : Tn H H' p ts st n) (hp : H p = none) (hq : H' q = none) :
    Tn H (upd (upd H' q (.lst [.int (a : Int), .int (b : Int)])) p (.lst ((ts ++ [q]).map V.ref))) p (ts ++ [q]) (st.1 ++ [(a, b)], w, r) (n + 1) := by
  have qp : q ≠ p := fun e => by rw [e, h.li] at hq; cases hq
  have qt : q ∉ ts := fun e => by
    obtain ⟨i, hi, e'⟩ := List.getElem_of_mem e
    have e2 : st.1[i]? = some (st.1[i]'(by rw [← h.ls.1]; exact hi)) := List.getElem?_eq_getElem _
    have e3 := h.ls.2.2 i q _ (by rw [← e']; exact List.getElem?_eq_getElem hi) e2
    rw [hq] at e3; cases e3
  have k : ∀ c u, H' c = some u → c ≠ p → upd (upd H' q (.lst [.int (a : Int), .int (b : Int)])) p (.lst ((ts ++ [q]).map V.ref)) c = some u := fun c u e ne => by
    rw [upd_ne ne, upd_ne (ne_of_none e hq)]; exact e
  refine ⟨fun c u e => k _ _ (h.sm c u e) (ne_of_none e hp), upd_same, LsAt.snoc (h.ls.mono fun t ht u e => k t u e fun z => h.np (z ▸ ht)) qt (by rw [upd_ne qp, upd_same]), ?_, ?_, ?_, fun _ => by simp⟩
  · intro e
    rcases List.mem_append.mp e with z | z
    · exact h.np z
    · exact qp (List.mem_singleton.mp z).symm
  · intro t ht
    rcases List.mem_append.mp ht with z | z
    · exact h.nh t z
    · rw [List.mem_singleton.mp z]; exact Same.free h.sm hq
  · rw [List.length_append, List.length_singleton]; exact Nat.add_le_add_right h.sz 1
theorem Tn.last {H H' : Hp} {p : Addr} {ts : List Addr} {ps : List (Nat × Nat)} {t : Addr} {f l a n : Nat} {w r w' r' : Bool} (h : Tn H H' p (ts ++ [t]) (ps ++ [(f, l)], w, r) n) :
    Tn H (upd H' t (.lst [.int (f : Int), .int (a : Int)])) p (ts ++ [t]) (ps ++ [(f, a)], w', r') n := by
  have tp : p ≠ t := fun e => h.np (by simp [e])
  obtain ⟨l1, l2, l3⟩ := LsAt.front h.ls
  have ht : H t = none := h.nh t (by simp)
  refine ⟨fun c u e => by rw [upd_ne (ne_of_none e ht)]; exact h.sm c u e, by rw [upd_ne tp]; exact h.li, LsAt.snoc (l1.mono fun c hc u e => ?_) l2 upd_same, h.np, h.nh, h.sz, fun _ => by simp⟩
  have : c ≠ t := fun z => l2 (z ▸ hc)
  rw [upd_ne this]; exact e
section
variable {P : Program} {w : World} {K : PySem.W.Frag} {mg : Str → Option Value} {base : Heap}
abbrev s_law_places : Stmt := topS 13
theorem sc_law_places : FnScope ["text", "letters", "found", "at", "within", "remark", "sign"] ["text"] (defScope s_law_places) := ⟨rfl, rfl, rfl, by decide +kernel, rfl, by decide +kernel, by decide +kernel⟩
theorem ok_law_places {f : Addr} {fd : FuncData} (F : Fun K "_law_places" "_law_places" s_law_places f fd) (mE : mg "enumerate" = none) : FnOk P w K mg base CX0 1 f fd ["text"] spPl := by
  refine F.ok sc_law_places (fun vs H Q E h => ?_) (fun cdv A outer s H vs Q E hr h => ?_)
  · obtain ⟨z, rfl, _⟩ := h
    rfl
  obtain ⟨z, rfl, h2, q⟩ := h
  refine ⟨_, (pss_cons (ps_par3 (i := 1) (j := 2) (l := 3) rfl sc_law_places.nd rfl rfl rfl (by decide) (by decide) (by decide) rfl rfl rfl (pa_cons pe_str (pa_cons (pe_lst pa_nil) (pa_cons pe_int pa_nil))) rfl)
  (pss_cons (ps_asg (pe_tup (pa_cons pe_bl (pa_cons pe_bl pa_nil))) (pg_tup rfl (pgs_cons (pg_name (i := 4) sc_law_places.nd rfl (Or.inl rfl)) (pgs_cons (pg_name (i := 5) sc_law_places.nd rfl (Or.inl rfl)) pgs_nil))))
  (pss_cons (ps_for PassesOwn.never rfl (pi_enumS rfl mE (pa_cons (pv 0) pa_nil)) (pg_tup rfl (pgs_cons (pg_name (i := 3) sc_law_places.nd rfl (Or.inl rfl)) (pgs_cons (pg_name (i := 6) sc_law_places.nd rfl (Or.inl rfl)) pgs_nil)))
    (pss_one (ps_if (pt_val (pv 5)) (pss_one (ps_par (i := 5) (j := 4) rfl sc_law_places.nd rfl rfl (by decide) rfl rfl (pa_cons (pe_cmpR op_ne (pv 6) pe_str (nomark _)) (pa_cons pe_bl pa_nil)) rfl))
      (pss_one (ps_if (pt_cmpR op_eq (pv 6) pe_str (nomark _)) (pss_one (ps_asg (pe_tup (pa_cons pe_bl (pa_cons pe_bl pa_nil))) (pg_tup rfl (pgs_cons (pg_name (i := 5) sc_law_places.nd rfl (Or.inl rfl)) (pgs_cons (pg_name (i := 4) sc_law_places.nd rfl (Or.inl rfl)) pgs_nil)))))
        (pss_one (ps_if (pt_cmpR op_in_sign (pv 6) pe_str (by rfl)) (pss_one (ps_set (i := 4) sc_law_places.nd rfl (by first | exact Or.inl rfl | exact Or.inr rfl) pe_bl))
          (pss_one (ps_if (pt_cmpR op_in_sign (pv 6) (pv 1) (by rfl)) (pss_cons (ps_if (pt_not (pt_val (pv 4))) (pss_one (ps_expr (pe_bm PySem.F.plainAttrs_list PySem.F.slot_list_append PySem.F.type_list_append mt_append (pv 2) (pa_cons (pe_lst (pa_cons (pv 3) (pa_cons (pv 3) pa_nil))) pa_nil))))
              pss_nil)
            (pss_cons (ps_asg (pv 3) (pg_sub (pe_ix ix_list (pv 2) (pe_un un_neg pe_int) (fun _ _ => rfl)) pe_int set_list))
            (pss_one (ps_set (i := 4) sc_law_places.nd rfl (by first | exact Or.inl rfl | exact Or.inr rfl) pe_bl))))
            (pss_cons (ps_expr (pe_bm PySem.F.plainAttrs_list PySem.F.slot_list_append PySem.F.type_list_append mt_append (pv 2) (pa_cons (pe_lst (pa_cons (pv 3) (pa_cons (pv 3) pa_nil))) pa_nil)))
            (pss_one (ps_set (i := 4) sc_law_places.nd rfl (by first | exact Or.inl rfl | exact Or.inr rfl) pe_bl))))))))))))
  (pss_one (ps_ret (pv 2)))))), ?_⟩
  walk_at "rd"
  refine ⟨Nat.zero_le _, fun p hp => ⟨_, _, _, ⟨rfl, rfl, rfl⟩, by decide, fun u hu => ⟨_, SqT.of upd_same, rfl, _, _, rfl, _, _, rfl, rfl, ?_⟩⟩⟩
  have up : p ≠ u := fun e => by rw [← e, upd_same] at hu; cases hu
  have hu' : H u = none := by rw [upd_ne up.symm] at hu; exact hu
  refine ⟨_, rfl, z, rfl, for_enumS (fun i σ H' => ∃ (ts : List Addr) (v3 : V) (v6 : Option V), σ = [some (.str z), some (.str LS), some (.ref p), some v3, some (.bl (M05.run Bc Lc 0 ((cs z).take i) ([], false, false)).2.1), some (.bl (M05.run Bc Lc 0 ((cs z).take i) ([], false, false)).2.2), v6] ∧ Tn H H' p ts (M05.run Bc Lc 0 ((cs z).take i) ([], false, false)) i)
    ⟨[], .int 0, none, rfl, ⟨fun b o e => ?_, by rw [upd_ne up, upd_same]; rfl, ⟨rfl, List.nodup_nil, fun i t q e => by simp at e⟩, by simp, by simp, Nat.le_refl _, fun e => by cases e⟩⟩ ?_ ?_⟩
  · rw [upd_ne (ne_of_none e hu'), upd_ne (ne_of_none e hp)]; exact e
  · rintro i c T σ H' hc ⟨ts, v3, v6, rfl, R⟩ hT
    have il : i < (cs z).length := by
      rw [cs_len]; exact (Array.getElem?_eq_some_iff.mp hc).1
    have gd : (cs z).getD i 0 = c := by
      rw [List.getD_eq_getElem?_getD, Array.getElem?_toList, hc]; rfl
    rw [run_take Bc Lc (cs z) _ i 0 il, gd, Nat.zero_add]
    generalize M05.run Bc Lc 0 ((cs z).take i) ([], false, false) = st at R ⊢
    obtain ⟨ps, wi, re⟩ := st
    walk_at "rd"
    refine ⟨_, SqT.of upd_same, rfl, _, _, rfl, _, _, rfl, rfl, ?_⟩
    have nl : Str.ofString "\n" = ⟨#[10]⟩ := by decide +kernel
    have sharp : Str.ofString "#" = ⟨#[35]⟩ := by decide +kernel
    have bs : (Str.ofString " \n") = BS := rfl
    rw [nl, sharp, bs]
    have sg : ∀ d : Nat, (V.str ⟨#[c]⟩ = V.str ⟨#[d]⟩) ↔ c = d := fun d => by
      constructor
      · intro e; injection e with e; injection e with e; simpa using e
      · intro e; rw [e]
    simp only [sg]
    have R1 := R.keep (o := .tup [.int (i : Nat), .str ⟨#[c]⟩]) hT
    cases re with
    | true =>
      refine iteT ⟨rfl, _, _, ⟨rfl, rfl⟩, ts, _, _, ⟨rfl, rfl, ?_, rfl⟩, R1.fin⟩
      show V.bl (!decide (c = 10)) = V.bl (decide (c ≠ 10))
      simp
    | false =>
      refine iteF ⟨rfl, ?_⟩
      refine ite2 (fun y => ?_) (fun y => ?_)
      · have y' : c = 35 := of_decide_eq_true y
        have hs : M05.step Bc Lc (ps, wi, false) i c = (ps, false, true) := by unfold M05.step; rw [if_neg Bool.false_ne_true, if_pos y']
        rw [hs]
        exact ⟨by decide, fun u hu => ⟨_, SqT.of upd_same, rfl, _, _, rfl, _, _, rfl, rfl, ts, _, _, ⟨rfl, rfl, rfl, rfl⟩, (R1.keep hu).fin⟩⟩
      have y' : ¬ c = 35 := of_decide_eq_false (Bool.eq_false_iff.mpr y)
      refine ⟨c, rfl, ?_⟩
      refine ite2 (fun b => ?_) (fun b => ?_)
      · have b' : c ∈ Bc := of_decide_eq_true b
        have hs : M05.step Bc Lc (ps, wi, false) i c = (ps, false, false) := by unfold M05.step; rw [if_neg Bool.false_ne_true, if_neg y', if_pos b']
        rw [hs]
        exact ⟨ts, _, _, ⟨rfl, rfl, rfl, rfl⟩, R1.fin⟩
      have b' : c ∉ Bc := of_decide_eq_false (Bool.eq_false_iff.mpr b)
      refine ⟨c, rfl, ?_⟩
      refine ite2 (fun w => ?_) (fun w => ?_)
      · have w' : c ∈ Lc := of_decide_eq_true w
        cases wi with
        | false =>
          have hs : M05.step Bc Lc (ps, false, false) i c = (ps ++ [(i, i)], true, false) := by unfold M05.step; rw [if_neg Bool.false_ne_true, if_neg y', if_neg b', if_pos w', if_neg Bool.false_ne_true]
          rw [hs]
          refine iteT ⟨.inl ⟨rfl, _, SqL.of R1.li⟩, by decide, fun u hu => ?_⟩
          have pu : p ≠ u := ne_of_none R1.li hu
          have R2 := R1.add (a := i) (b := i) (w := true) (r := false) hp hu
          refine ⟨_, by rw [upd_ne pu]; exact R1.li, by rw [List.length_map]; have := R1.sz; exact small1000 (by rw [cs_len] at il; omega), ?_⟩
          rw [show ts.map V.ref ++ [V.ref u] = (ts ++ [u]).map V.ref from by rw [List.map_append]; rfl]
          refine ⟨_, SqL.of upd_same, _, atI_last, u, rfl, _, (LsAt.front R2.ls).2.2, 1, rfl, ts ++ [u], _, _, ⟨rfl, rfl, rfl, rfl⟩, R2.last⟩
        | true =>
          have ne := R1.wi rfl
          obtain ⟨ps', q0, e⟩ := snoc_of (l := ps) ne
          obtain ⟨f0, l0⟩ := q0
          have e : ps = ps' ++ [(f0, l0)] := e
          subst e
          have tne : ts ≠ [] := fun z => by have := R1.ls.1; rw [z] at this; simp at this
          obtain ⟨ts', t, e⟩ := snoc_of tne
          subst e
          have hs : M05.step Bc Lc (ps' ++ [(f0, l0)], true, false) i c = (ps' ++ [(f0, i)], true, false) := by
            unfold M05.step
            rw [if_neg Bool.false_ne_true, if_neg y', if_neg b', if_pos w', if_pos rfl]
            simp
          rw [hs]
          refine iteF ⟨_, SqL.of R1.li, _, atI_last, t, rfl, _, (LsAt.front R1.ls).2.2, 1, rfl, ts' ++ [t], _, _, ⟨rfl, rfl, rfl, rfl⟩, ?_⟩
          have R2 := R1.last (a := i) (w' := true) (r' := false)
          exact ⟨R2.sm, R2.li, R2.ls, R2.np, R2.nh, Nat.le_succ_of_le R2.sz, R2.wi⟩
      · have w' : c ∉ Lc := of_decide_eq_false (Bool.eq_false_iff.mpr w)
        have hs : M05.step Bc Lc (ps, wi, false) i c = (ps ++ [(i, i)], false, false) := by unfold M05.step; rw [if_neg Bool.false_ne_true, if_neg y', if_neg b', if_neg w']
        rw [hs]
        refine ⟨.inl ⟨rfl, _, SqL.of R1.li⟩, by decide, fun u hu => ?_⟩
        have pu : p ≠ u := ne_of_none R1.li hu
        refine ⟨_, by rw [upd_ne pu]; exact R1.li, by rw [List.length_map]; have := R1.sz; exact small1000 (by rw [cs_len] at il; omega), ts ++ [u], _, _, ⟨rfl, rfl, rfl, rfl⟩, ?_⟩
        rw [show ts.map V.ref ++ [V.ref u] = (ts ++ [u]).map V.ref from by rw [List.map_append]; rfl]
        exact R1.add hp hu
  · rintro σ H' ⟨ts, v3, v6, rfl, R⟩
    walk_at "rd"
    have e : (cs z).take z.cps.size = cs z := List.take_of_length_le (by rw [cs_len]; exact Nat.le_refl _)
    rw [e, run_WL] at R
    have b := M05.both (B := Bc) (W := Wc) (by decide +kernel) (by decide +kernel) (by decide +kernel) (by decide +kernel) (cs z)
    refine q p ts H' R.sm R.li ?_
    rw [← b]
    exact R.ls
end
end K05
set_option linter.all false
set_option maxRecDepth 100000
set_option maxHeartbeats 4000000
namespace K05
open PySem PySem.Spec PyProof.Rows L2 NB
local macro_rules | `(tactic| walk_at "rd") => `(tactic| simp only [cxK, tCallK0, gLst, iRng1, tIf, tChain, tAug, ipI, rSlS, tThru, iRng1, iRng2, iEnumS, iStr, tPar, tPar3, gTup, gNil, gCons, tRetN, tCall, tLc, iList, iTup, tRevL, tSl, tNoPart, tPart, rSlL, tYes, L2.start, List.map_cons, List.map_nil, List.length_cons, List.length_nil, List.replicate_succ, List.replicate_zero, Nat.reduceAdd, Nat.reduceSub, List.cons_append, List.nil_append, wipe, List.foldl_cons, List.foldl_nil, tAnd, tOr, tNot, tTest, tB, tOp, tUn, tVar, tC, tCB, tCons, tNil, tLst, tTup, tSeq, tNext, tAsg, tIfS, tRet, tDrop, gName, gSub, tBM0, tBM, rI, rI0, rU, rIxL, rIxT, rIxS, ↓reduceIte, rNeD, rEqD, rEq, rNe, rPop, rAppend, rSetL,
  List.getElem?_cons_zero, List.getElem?_cons_succ, List.set_cons_zero, List.set_cons_succ, Option.some.injEq, V.ref.injEq, V.int.injEq, V.bl.injEq, V.str.injEq, List.cons.injEq, exists_eq_left, exists_eq_left', exists_and_left, reduceCtorEq, false_and, and_false, exists_false, or_false, false_or, and_true, true_and])
abbrev pieces : List Str := ["house", "top", ":", ";", "(", ")", ",", "of", "12", "007", "a_B9", " ", "  ", "\n", "#", "# top ;\n", "-", "\t", "?", "least"]
theorem pieces_ok : ∀ x ∈ pieces, x.length ≤ 8 ∧ ∀ c ∈ x.cps.toList, c < 128 := by
  have h : pieces.all (fun x => decide (x.length ≤ 8) && x.cps.toList.all (fun c => decide (c < 128))) = true := by decide +kernel
  rw [List.all_eq_true] at h
  intro x hx
  have := h x hx
  simp only [Bool.and_eq_true, decide_eq_true_eq, List.all_eq_true] at this
  exact this
theorem join_facts {ys : List Str} (h : ∀ y ∈ ys, y ∈ pieces) (hl : ys.length ≤ 20) : (Txt.join (Str.ofString "") ys).length ≤ 1000 ∧ ∀ c ∈ (Txt.join (Str.ofString "") ys).cps.toList, c < 128 := by
  unfold Txt.join
  constructor
  · rw [size_glued]
    have e : (Str.ofString "").length = 0 := by decide +kernel
    have : (ys.map (·.length)).sum ≤ 8 * ys.length := by
      clear hl
      induction ys with
      | nil => exact Nat.le_refl _
      | cons y r ih =>
        have h1 := (pieces_ok y (h y List.mem_cons_self)).1
        have h2 := ih fun x hx => h x (List.mem_cons_of_mem _ hx)
        simp only [List.map_cons, List.sum_cons, List.length_cons]
        omega
    rw [e]
    omega
  · rw [StrLaws.glued_eq_join]
    clear hl
    induction ys with
    | nil => intro c hc; cases hc
    | cons y r ih =>
      have h1 := (pieces_ok y (h y List.mem_cons_self)).2
      have h2 := ih fun x hx => h x (List.mem_cons_of_mem _ hx)
      cases r with
      | nil => exact h1
      | cons y2 r2 =>
        intro c hc
        have hc' : c ∈ (y.cps ++ (Str.ofString "").cps ++ (Str.join (Str.ofString "") (y2 :: r2)).cps).toList := hc
        rw [Array.toList_append, Array.toList_append] at hc'
        rcases List.mem_append.mp hc' with q | q
        · rcases List.mem_append.mp q with q | q
          · exact h1 c q
          · exact absurd q (by rw [show (Str.ofString "").cps.toList = [] from by decide +kernel]; simp)
        · exact h2 c q
theorem len_sum_le {ys : List Str} (h : ∀ y ∈ ys, y ∈ pieces) : (ys.map (·.length)).sum ≤ 8 * ys.length := by
  induction ys with
  | nil => exact Nat.le_refl _
  | cons y r ih =>
    have h1 := (pieces_ok y (h y List.mem_cons_self)).1
    have h2 := ih fun x hx => h x (List.mem_cons_of_mem _ hx)
    simp only [List.map_cons, List.sum_cons, List.length_cons]
    omega
theorem SP_bound (z : Str) : ∀ (n k : Nat), z.length - k ≤ n → ∀ p ∈ SP z k, p.1 < z.length ∧ 1 ≤ p.2 := by
  intro n
  induction n with
  | zero =>
    intro k h
    have : (cs z).drop k = [] := List.drop_eq_nil_of_le (by rw [cs_len]; omega)
    have e0 : SP z k = [] := by unfold SP; rw [this, M05.spans]
    rw [e0]; intro p hp; cases hp
  | succ n ih =>
    intro k h
    rcases Nat.lt_or_ge k z.length with hk | hk
    · obtain ⟨d, d1, d2⟩ := drop_at hk
      by_cases hb : d ∈ Bc
      · rw [sp_blank d2 hb]
        exact ih (k + 1) (by omega)
      · by_cases h35 : d = 35
        · subst h35
          obtain ⟨h1, h3⟩ := sp_hash d2
          rw [h1]
          exact ih (brem z k) (by omega)
        · rw [sp_token d2 hb h35]
          have bg : k < btok z k := by unfold btok; omega
          intro p hp
          rcases List.mem_cons.mp hp with e | hp
          · rw [e]; exact ⟨hk, by show 1 ≤ btok z k; omega⟩
          · exact ih (btok z k) (by omega) p hp
    · exact ih k (by omega)
theorem S_SP (z : Str) : M05.S Bc Wc 0 (cs z) = (SP z 0).map fun p => (p.1, p.2 - 1) := rfl
theorem plcs_sh {z : Str} (h : z.length ≤ 1000) : Sh (.tuple ((plcs z).map PyData.int)) := by
  refine shInts (fun n hn => ?_) ?_
  · obtain ⟨p, hp, rfl⟩ := List.mem_map.mp hn
    have := SP_bound z z.length 0 (by omega) p hp
    omega
  · unfold plcs
    rw [List.length_map]
    have := SP_len z z.length 0 (by omega)
    omega
theorem cut_sub (z : Str) (a b : Option Int) : (cutS z a b).length ≤ z.length ∧ ∀ c ∈ (cutS z a b).cps.toList, c ∈ z.cps.toList := by
  unfold cutS
  constructor
  · have : ((z.cps.toList.drop (HT.sIx z.length 0 a)).take (HT.sIx z.length z.length b - HT.sIx z.length 0 a)).length ≤ z.cps.toList.length := by
      rw [List.length_take, List.length_drop]; omega
    simpa [Str.length] using this
  · intro c hc
    have hc' : c ∈ (z.cps.toList.drop (HT.sIx z.length 0 a)).take (HT.sIx z.length z.length b - HT.sIx z.length 0 a) := by simpa using hc
    exact List.mem_of_mem_drop (List.mem_of_mem_take hc')
theorem toks_sh {z : Str} (h : z.length ≤ 1000) (hc : ∀ c ∈ z.cps.toList, c < 128) : Sh (.tuple ((toks z).map PyData.str)) := by
  have len : (toks z).length ≤ 1000 := by
    unfold toks
    rw [List.length_map]
    have := SP_len z z.length 0 (by omega)
    omega
  refine shStrs (fun x hx c hcx => ?_) (fun x hx => ?_) len
  · obtain ⟨p, hp, rfl⟩ := List.mem_map.mp hx
    exact Nat.lt_trans (hc c ((cut_sub z _ _).2 c hcx)) (by decide)
  · obtain ⟨p, hp, rfl⟩ := List.mem_map.mp hx
    exact Nat.le_trans (cut_sub z _ _).1 h
section
variable {P : Program} {w : World} {K : PySem.W.Frag} {mg : Str → Option Value} {base : Heap}
def spLaw (K : PySem.W.Frag) : Sp := fun vs H Q _ => ∃ (a : Addr) (ns : List Int), vs = [.ref a] ∧ SqL K H a (ns.map V.int) ∧ ∀ H', Q (.bl true) H'
abbrev s_law : Stmt := topS 14
theorem sc_law : FnScope ["script", "deal", "pieces", "turn", "piece", "text", "due", "first", "last"] ["script"] (defScope s_law) := ⟨rfl, rfl, rfl, by decide +kernel, rfl, by decide +kernel, by decide +kernel⟩
structure Env5 (P : Program) (w : World) (K : PySem.W.Frag) (mg : Str → Option Value) (base : Heap) (fD fA fO fP fT fK : Addr) (dD dA dO dP dT dK : FuncData) : Prop where
  FD : FnOk P w K mg base CX0 1 fD dD ["script", "salt"] (spDraw K)
  FA : FnOk P w K mg base CX0 1 fA dA ["deal", "bound"] spAny
  FO : FnOk P w K mg base CX0 2 fO dO ["deal", "some"] (spOf K)
  FP : FnOk P w K mg base CX0 1 fP dP ["text"] spPl
  FT : FnOk P w K mg base CX0 3 fT dT ["text"] spPlcs
  FK : FnOk P w K mg base CX0 3 fK dK ["text"] spToks
  gD : mg "_law_draw" = some (.ref fD)
  gA : mg "_law_any" = some (.ref fA)
  gO : mg "_law_of" = some (.ref fO)
  gP : mg "_law_places" = some (.ref fP)
  gT : mg "token_places" = some (.ref fT)
  gK : mg "tokens_of" = some (.ref fK)
  kD : PySem.W.keepIn K (.ref fD) = true
  kA : PySem.W.keepIn K (.ref fA) = true
  kO : PySem.W.keepIn K (.ref fO) = true
  kP : PySem.W.keepIn K (.ref fP) = true
  kT : PySem.W.keepIn K (.ref fT) = true
  kK : PySem.W.keepIn K (.ref fK) = true
  bD : Binds K dD ["script", "salt"] []
  bA : Binds K dA ["deal", "bound"] []
  bO : Binds K dO ["deal", "some"] []
  bP : Binds K dP ["text"] []
  bT : KB0 K dT ["text"] ["text"] (fun ws => ws) (fun zs => zs)
  bK : KB0 K dK ["text"] ["text"] (fun ws => ws) (fun zs => zs)
  nR : mg "range" = none
  nT : mg "tuple" = none
  nP : mg "repr" = none
theorem ok_law {f : Addr} {fd : FuncData} (F : Fun K "law" "law" s_law f fd) {fD fA fO fP fT fK : Addr} {dD dA dO dP dT dK : FuncData} (T : Env5 P w K mg base fD fA fO fP fT fK dD dA dO dP dT dK) : FnA callerA P w K mg base CX0 f fd ["script"] (spLaw K) := by
  refine funA (k := 5) F sc_law ⟨rfl, by decide, by decide⟩ (fun vs H Q E h => ?_) (fun cdv outer s H vs Q E hr h => ?_)
  · obtain ⟨a, ns, rfl, _⟩ := h
    rfl
  obtain ⟨a, ns, rfl, hS, q⟩ := h
  have hu := Room.units hr
  have hr1 : Room 1 _ := hr.mono (by decide : 1 ≤ 5)
  have hr2 : Room 2 _ := hr.mono (by decide : 2 ≤ 5)
  have hr3 : Room 3 _ := hr.mono (by decide : 3 ≤ 5)
  have hu2 : ((callerA.deeper (envOfC "law" (defScope s_law) s.heap.objs.size f cdv))).units + 70 < cLine := by have := hr.un; omega
  refine ⟨_, (pss_cons (ps_set (i := 1) sc_law.nd rfl (by first | exact Or.inl rfl | exact Or.inr rfl) (pe_call T.FD hr1 rfl T.gD T.kD T.bD .nil pass0 (pa_cons (pv 0) (pa_cons pe_int pa_nil))))
  (pss_cons (ps_set (i := 2) sc_law.nd rfl (by first | exact Or.inl rfl | exact Or.inr rfl) (pe_lst (pa_cons pe_str (pa_cons pe_str (pa_cons pe_str (pa_cons pe_str (pa_cons pe_str (pa_cons pe_str (pa_cons pe_str (pa_cons pe_str (pa_cons pe_str (pa_cons pe_str (pa_cons pe_str (pa_cons pe_str (pa_cons pe_str (pa_cons pe_str (pa_cons pe_str (pa_cons pe_str (pa_cons pe_str (pa_cons pe_str (pa_cons pe_str (pa_cons pe_str pa_nil))))))))))))))))))))))
  (pss_cons (ps_for PassesOwn.never rfl (pi_range1 rfl T.nR (pa_cons pe_int pa_nil)) (pg_name (i := 3) sc_law.nd rfl (by first | exact Or.inl rfl | exact Or.inr rfl))
    (pss_cons (ps_set (i := 5) sc_law.nd rfl (by first | exact Or.inl rfl | exact Or.inr rfl) (pe_bm PySem.F.plainAttrs_str PySem.F.slot_str_join PySem.F.type_str_join mt_join pe_str (pa_cons (pe_lc (own := [("piece", 4)]) (g := gName 4) rfl sc_law.nd (pi_range1 rfl T.nR (pa_cons (pe_call T.FA hr1 rfl T.gA T.kA T.bA .nil pass0 (pa_cons (pv 1) (pa_cons pe_int pa_nil))) pa_nil)) (blkOk_by (N := ["script", "deal", "pieces", "turn", "piece", "text", "due", "first", "last"]) (sc := defScope s_law) (by decide +kernel)) (fun _ _ _ _ _ => pg_name (i := 4) sc_law.nd rfl (Or.inl rfl)) (fun _ _ _ _ _ => pts_nil) (fun _ _ _ _ _ => (pe_call T.FO hr2 rfl T.gO T.kO T.bO .nil pass0 (pa_cons (pv 1) (pa_cons (pv 2) pa_nil))))) pa_nil)))
    (pss_cons (ps_set (i := 6) sc_law.nd rfl (by first | exact Or.inl rfl | exact Or.inr rfl) (pe_call T.FP hr1 rfl T.gP T.kP T.bP .nil pass0 (pa_cons (pv 5) pa_nil)))
    (pss_cons (ps_if (pt_cmpR op_ne (pe_callB (call_reprD rfl hu2) (by rfl) T.nP boot_repr (pa_cons (pe_callK0 T.FT hr3 rfl T.gT T.kT T.bT pass0 (pk_cons (pv 5) pk_nil)) pa_nil)) (pe_callB (call_reprD rfl hu2) (by rfl) T.nP boot_repr (pa_cons (pe_callTy call_tupleL (by rfl) T.nT boot_tuple (pa_cons (pe_lc (own := [("first", 7), ("last", 8)]) (g := gLst K 2 (gCons (gName 7) (gCons (gName 8) gNil))) rfl sc_law.nd (pi_list (pv 6)) (blkOk_by (N := ["script", "deal", "pieces", "turn", "piece", "text", "due", "first", "last"]) (sc := defScope s_law) (by decide +kernel)) (fun _ _ _ _ _ => pg_lst rfl (pgs_cons (pg_name (i := 7) sc_law.nd rfl (Or.inl rfl)) (pgs_cons (pg_name (i := 8) sc_law.nd rfl (Or.inl rfl)) pgs_nil))) (fun _ _ _ _ _ => pts_nil) (fun _ _ _ _ _ => (pv 7))) pa_nil)) pa_nil)) (nomark _)) (pss_one (ps_ret pe_bl))
      pss_nil)
    (pss_one (ps_if (pt_cmpR op_ne (pe_callB (call_reprD rfl hu2) (by rfl) T.nP boot_repr (pa_cons (pe_callK0 T.FK hr3 rfl T.gK T.kK T.bK pass0 (pk_cons (pv 5) pk_nil)) pa_nil)) (pe_callB (call_reprD rfl hu2) (by rfl) T.nP boot_repr (pa_cons (pe_callTy call_tupleL (by rfl) T.nT boot_tuple (pa_cons (pe_lc (own := [("first", 7), ("last", 8)]) (g := gLst K 2 (gCons (gName 7) (gCons (gName 8) gNil))) rfl sc_law.nd (pi_list (pv 6)) (blkOk_by (N := ["script", "deal", "pieces", "turn", "piece", "text", "due", "first", "last"]) (sc := defScope s_law) (by decide +kernel)) (fun _ _ _ _ _ => pg_lst rfl (pgs_cons (pg_name (i := 7) sc_law.nd rfl (Or.inl rfl)) (pgs_cons (pg_name (i := 8) sc_law.nd rfl (Or.inl rfl)) pgs_nil))) (fun _ _ _ _ _ => pts_nil) (fun _ _ _ _ _ => (pe_slice sl_str (pv 5) (po_some (pv 7)) (po_some (pe_op op_add (pv 8) pe_int))))) pa_nil)) pa_nil)) (nomark _)) (pss_one (ps_ret pe_bl))
      pss_nil))))))
  (pss_one (ps_ret pe_bl))))), ?_⟩
  walk_at "rd"
  refine ⟨a, ns, 5, rfl, hS, by decide, by decide, fun d l H1 D1 d0 l0 S1 => ⟨by decide, fun p hp => ?_⟩⟩
  have pd : p ≠ d := fun e => by obtain ⟨_, _, D⟩ := D1; rw [e, D.ob] at hp; cases hp
  have pl : p ≠ l := fun e => by obtain ⟨_, _, D⟩ := D1; rw [e, D.li] at hp; cases hp
  refine ⟨5, rfl, by decide, by decide, for_range (lo := 0) (n := 5) (fun i σ H' => ∃ v3 v4 v5 v6 v7 v8, σ = [some (.ref a), some (.ref d), some (.ref p), v3, v4, v5, v6, v7, v8] ∧ Deal H' d l ∧ H' p = some (.lst (pieces.map V.str))) ⟨none, none, none, none, none, none, rfl, D1.new hp, upd_same⟩ ?_ ?_⟩
  · rintro i σ H' hi ⟨v3, v4, v5, v6, v7, v8, rfl, D2, P2⟩
    walk_at "rd"
    refine ⟨rfl, d, l, 20, rfl, D2, by decide, by decide, fun r H2 r0 r1 D3 K3 => ⟨r, rfl, by omega, by omega, fun B hB => ?_⟩⟩
    have P3 : H2 p = some (.lst (pieces.map V.str)) := K3 p _ P2 pd pl
    have Bp : B ≠ p := fun e => by rw [e, P3] at hB; cases hB
    have Bd : B ≠ d := fun e => by obtain ⟨_, _, D⟩ := D3; rw [e, D.ob] at hB; cases hB
    have Bl : B ≠ l := fun e => by obtain ⟨_, _, D⟩ := D3; rw [e, D.li] at hB; cases hB
    refine lcR (lo := 0) (n := r.toNat) (fun i H' => ∃ ys : List Str, ys.length = i ∧ (∀ y ∈ ys, y ∈ pieces) ∧ H' B = some (.lst (ys.map V.str)) ∧ Deal H' d l ∧ H' p = some (.lst (pieces.map V.str))) ⟨[], rfl, by simp, upd_same, D3.new hB, by rw [upd_ne Bp.symm]; exact P3⟩ ?_ ?_
    · rintro j H3 hj ⟨ys, y1, y2, y3, D4, P4⟩
      refine ⟨d, l, p, pieces.map V.str, rfl, D4, .inl P4, pd, pl, by simp [pieces], by simp [pieces], fun k x H4 hk D5 K5 => ?_⟩
      rw [List.getElem?_map] at hk
      obtain ⟨y, hy, rfl⟩ := Option.map_eq_some_iff.mp hk
      have y4 := K5 B _ y3 Bd Bl
      have HB : ∀ o, Deal (upd H4 B o) d l := fun o => by
        obtain ⟨ns', b', D⟩ := D5
        exact ⟨ns', b', by rw [upd_ne Bd.symm]; exact D.ob, by rw [upd_ne Bl.symm]; exact D.li, D.nn, D.ln, D.b0, D.b1⟩
      refine ⟨_, y4, by rw [List.length_map]; exact small1000 (by omega), ys ++ [y], by rw [List.length_append, y1]; rfl, ?_, by rw [upd_same, List.map_append]; rfl, HB _, by rw [upd_ne Bp.symm]; exact K5 p _ P4 pd pl⟩
      intro u hu
      rcases List.mem_append.mp hu with z | z
      · exact y2 u z
      · rw [List.mem_singleton.mp z]; exact List.mem_of_getElem? hy
    · rintro H3 ⟨ys, y1, y2, y3, D4, P4⟩
      have yl : ys.length ≤ 20 := by omega
      obtain ⟨zl, zc⟩ := join_facts y2 yl
      have e0 : (Str.ofString "").length = 0 := by decide +kernel
      refine ⟨ys, .inl (SqL.of y3), by rw [e0]; have := len_sum_le y2; omega, ?_⟩
      generalize Txt.join (Str.ofString "") ys = z at zl zc
      have hz : z.length ≤ sizeLine := Nat.le_trans zl (by decide)
      have sl := SP_len z z.length 0 (by omega)
      refine ⟨z, rfl, zl, fun du ts H4 S4 L4 R4 => ?_⟩
      rw [S_SP] at R4
      have rl : ts.length = (SP z 0).length := by rw [R4.1, List.length_map]
      have item : ∀ (i : Nat) (t : Addr), ts[i]? = some t → ∃ q, (SP z 0)[i]? = some q ∧ H4 t = some (.lst [.int (q.1 : Int), .int ((q.2 - 1 : Nat) : Int)]) ∧ 1 ≤ q.2 := fun i t ht => by
        have il : i < (SP z 0).length := by rw [← rl]; exact (List.getElem?_eq_some_iff.mp ht).1
        have hq : (SP z 0)[i]? = some (SP z 0)[i] := List.getElem?_eq_getElem il
        exact ⟨_, hq, R4.2.2 i t _ ht (by rw [List.getElem?_map, hq]; rfl), (SP_bound z z.length 0 (by omega) _ (List.getElem_mem il)).2⟩
      -- token_places against the firsts
      refine ⟨z, rfl, zl, fun t1 H5 S5 T5 => ?_⟩
      refine ⟨.tuple ((plcs z).map PyData.int), .tup (SqT.of T5) (dpInts _), plcs_sh zl, du, rfl, ⟨_, SqL.of (S5 _ _ L4)⟩, fun A hA => ?_⟩
      refine lcL (xs := ts.map V.ref) (fun i H' => H' A = some (.lst (((SP z 0).take i).map fun p => V.int (p.1 : Int))) ∧ Same H5 H') ⟨upd_same, fun b o e => by rw [upd_ne (ne_of_none e hA)]; exact e⟩ (fun i H' _ h => SqL.of (h.2 _ _ (S5 _ _ L4))) ?_ ?_
      · rintro i x H' hx ⟨h3, S6⟩
        rw [List.getElem?_map] at hx
        obtain ⟨t, ht, rfl⟩ := Option.map_eq_some_iff.mp hx
        obtain ⟨q0, hq, tt, _⟩ := item i t ht
        have il := (List.getElem?_eq_some_iff.mp hq).1
        refine ⟨t, rfl, _, SqL.of (S6 _ _ (S5 _ _ tt)), rfl, _, _, rfl, _, _, rfl, rfl, _, h3, ?_, ?_, fun b o e => ?_⟩
        · rw [List.length_map, List.length_take]; exact small1000 (by omega)
        · rw [upd_same, List.take_succ, hq, Option.toList_some, List.map_append]; rfl
        · rw [upd_ne (ne_of_none e hA)]; exact S6 b o e
      rintro H6 ⟨h3, S6⟩
      rw [List.length_map, rl, List.take_length] at h3
      refine ⟨_, SqL.of h3, fun t2 ht2 => ?_⟩
      have e2 : ((SP z 0).map fun p => V.int (p.1 : Int)) = (plcs z).map V.int := by unfold plcs; rw [List.map_map]; rfl
      rw [e2]
      refine ⟨.tuple ((plcs z).map PyData.int), .tup (SqT.of upd_same) (dpInts _), plcs_sh zl, rfl, ?_⟩
      refine iteNS rfl ?_
      have S7 : Same H4 (upd H6 t2 (.tup ((plcs z).map V.int))) := fun b o e => by
        have e' := S6 b o (S5 b o e)
        rw [upd_ne (ne_of_none e' ht2)]; exact e'
      generalize upd H6 t2 (.tup ((plcs z).map V.int)) = H7 at S7
      -- tokens_of against the slices
      refine ⟨z, rfl, zl, fun t3 H8 S8 T8 => ?_⟩
      refine ⟨.tuple ((toks z).map PyData.str), .tup (SqT.of T8) (dpStrs _), toks_sh zl zc, du, rfl, ⟨_, SqL.of (S8 _ _ (S7 _ _ L4))⟩, fun A2 hA2 => ?_⟩
      refine lcL (xs := ts.map V.ref) (fun i H' => H' A2 = some (.lst (((SP z 0).take i).map fun p => V.str (cutS z (some (p.1 : Int)) (some (p.2 : Int))))) ∧ Same H8 H') ⟨upd_same, fun b o e => by rw [upd_ne (ne_of_none e hA2)]; exact e⟩ (fun i H' _ h => SqL.of (h.2 _ _ (S8 _ _ (S7 _ _ L4)))) ?_ ?_
      · rintro i x H' hx ⟨h4, S9⟩
        rw [List.getElem?_map] at hx
        obtain ⟨t, ht, rfl⟩ := Option.map_eq_some_iff.mp hx
        obtain ⟨q0, hq, tt, q1⟩ := item i t ht
        have il := (List.getElem?_eq_some_iff.mp hq).1
        have e1 : (((q0.2 - 1 : Nat) : Int) + 1) = (q0.2 : Int) := by omega
        refine ⟨t, rfl, _, SqL.of (S9 _ _ (S8 _ _ (S7 _ _ tt))), rfl, _, _, rfl, _, _, rfl, rfl, _, rfl, _, rfl, hz, _, h4, ?_, ?_, fun b o e => ?_⟩
        · rw [List.length_map, List.length_take]; exact small1000 (by omega)
        · rw [upd_same, List.take_succ, hq, Option.toList_some, List.map_append, e1]; rfl
        · rw [upd_ne (ne_of_none e hA2)]; exact S9 b o e
      rintro H9 ⟨h4, S9⟩
      rw [List.length_map, rl, List.take_length] at h4
      refine ⟨_, SqL.of h4, fun t4 ht4 => ?_⟩
      have e3 : ((SP z 0).map fun p => V.str (cutS z (some (p.1 : Int)) (some (p.2 : Int)))) = (toks z).map V.str := by unfold toks; rw [List.map_map]; rfl
      rw [e3]
      refine ⟨.tuple ((toks z).map PyData.str), .tup (SqT.of upd_same) (dpStrs _), toks_sh zl zc, rfl, ?_⟩
      refine iteNS rfl ?_
      have S10 : Same H3 (upd H9 t4 (.tup ((toks z).map V.str))) := fun b o e => by
        have e' := S9 b o (S8 b o (S7 b o (S4 b o e)))
        rw [upd_ne (ne_of_none e' ht4)]; exact e'
      obtain ⟨ns', b', D6⟩ := D4
      exact ⟨_, _, _, _, _, _, ⟨rfl, rfl, rfl, rfl, rfl, rfl⟩, ⟨ns', b', S10 _ _ D6.ob, S10 _ _ D6.li, D6.nn, D6.ln, D6.b0, D6.b1⟩, S10 _ _ P4⟩
  · rintro σ H' ⟨v3, v4, v5, v6, v7, v8, rfl, D2, P2⟩
    walk_at "rd"
    exact q H'
end
end K05
set_option linter.all false
set_option maxRecDepth 100000
set_option maxHeartbeats 4000000
namespace K05
open PySem PySem.Spec PyProof.Rows L2 NB
theorem all_mk {l : PySem.W.OpenLaw} {w : World} {K : PySem.W.Frag} {h : Heap} {mg : Str → Option Value} {fa : Addr} (X : K.In h) (G : h.Ns mainGlobals mg) (hfa : mg "law" = some (.ref fa))
    {f1 f2 f3 f4 f5 f6 f7 f8 f9 f10 : Addr} {od1 an1 od2 an2 od3 an3 od4 an4 od5 an5 od6 an6 od7 an7 od8 an8 od9 an9 od10 an10 : Option Addr} {sl1 sl2 sl3 sl4 sl5 sl6 sl7 sl8 sl9 sl10 : Array (Option Value)} {oc1 kV1 dc1 pm1 cd1 ct1 oc2 kV2 dc2 pm2 cd2 ct2 oc3 kV3 dc3 pm3 cd3 ct3 oc4 kV4 dc4 pm4 cd4 ct4 oc5 kV5 dc5 pm5 cd5 ct5 oc6 kV6 dc6 pm6 cd6 ct6 oc7 kV7 dc7 pm7 cd7 ct7 oc8 kV8 dc8 pm8 cd8 ct8 oc9 kV9 dc9 pm9 cd9 ct9 oc10 kV10 dc10 pm10 cd10 ct10 : Value} {t1 : Tok} {t2 : Tok}
    (a1 : PySem.W.nsIn K mainGlobals "_behind_remark" = some (some (.ref f1))) (l1 : K.lookup f1 = some ⟨oc1, od1, .func (PySem.W.fnOf "_behind_remark" "_behind_remark" (defArgs s_behind_remark) (defBody s_behind_remark) (defScope s_behind_remark) .none kV1 dc1 pm1 an1 cd1 ct1), sl1⟩) (c1 : PySem.W.codeIn K cd1 "_behind_remark" = true) (k1 : PySem.W.keepIn K (.ref f1) = true)
    (a2 : PySem.W.nsIn K mainGlobals "_behind_token" = some (some (.ref f2))) (l2 : K.lookup f2 = some ⟨oc2, od2, .func (PySem.W.fnOf "_behind_token" "_behind_token" (defArgs s_behind_token) (defBody s_behind_token) (defScope s_behind_token) .none kV2 dc2 pm2 an2 cd2 ct2), sl2⟩) (c2 : PySem.W.codeIn K cd2 "_behind_token" = true) (k2 : PySem.W.keepIn K (.ref f2) = true)
    (a3 : PySem.W.nsIn K mainGlobals "_spans" = some (some (.ref f3))) (l3 : K.lookup f3 = some ⟨oc3, od3, .func (PySem.W.fnOf "_spans" "_spans" (defArgs s_spans) (defBody s_spans) (defScope s_spans) .none kV3 dc3 pm3 an3 cd3 ct3), sl3⟩) (c3 : PySem.W.codeIn K cd3 "_spans" = true) (k3 : PySem.W.keepIn K (.ref f3) = true)
    (a4 : PySem.W.nsIn K mainGlobals "tokens_of" = some (some (.ref f4))) (l4 : K.lookup f4 = some ⟨oc4, od4, .func (PySem.W.fnOf "tokens_of" "tokens_of" (defArgs s_tokens_of) (defBody s_tokens_of) (defScope s_tokens_of) .none kV4 dc4 pm4 an4 cd4 ct4), sl4⟩) (c4 : PySem.W.codeIn K cd4 "tokens_of" = true) (k4 : PySem.W.keepIn K (.ref f4) = true)
    (a5 : PySem.W.nsIn K mainGlobals "token_places" = some (some (.ref f5))) (l5 : K.lookup f5 = some ⟨oc5, od5, .func (PySem.W.fnOf "token_places" "token_places" (defArgs s_token_places) (defBody s_token_places) (defScope s_token_places) .none kV5 dc5 pm5 an5 cd5 ct5), sl5⟩) (c5 : PySem.W.codeIn K cd5 "token_places" = true) (k5 : PySem.W.keepIn K (.ref f5) = true)
    (a6 : PySem.W.nsIn K mainGlobals "_law_draw" = some (some (.ref f6))) (l6 : K.lookup f6 = some ⟨oc6, od6, .func (PySem.W.fnOf "_law_draw" "_law_draw" (defArgs s_law_draw) (defBody s_law_draw) (defScope s_law_draw) .none kV6 dc6 pm6 an6 cd6 ct6), sl6⟩) (c6 : PySem.W.codeIn K cd6 "_law_draw" = true) (k6 : PySem.W.keepIn K (.ref f6) = true)
    (a7 : PySem.W.nsIn K mainGlobals "_law_any" = some (some (.ref f7))) (l7 : K.lookup f7 = some ⟨oc7, od7, .func (PySem.W.fnOf "_law_any" "_law_any" (defArgs sAny) (defBody sAny) (defScope sAny) .none kV7 dc7 pm7 an7 cd7 ct7), sl7⟩) (c7 : PySem.W.codeIn K cd7 "_law_any" = true) (k7 : PySem.W.keepIn K (.ref f7) = true)
    (a8 : PySem.W.nsIn K mainGlobals "_law_of" = some (some (.ref f8))) (l8 : K.lookup f8 = some ⟨oc8, od8, .func (PySem.W.fnOf "_law_of" "_law_of" (defArgs s_law_of) (defBody s_law_of) (defScope s_law_of) .none kV8 dc8 pm8 an8 cd8 ct8), sl8⟩) (c8 : PySem.W.codeIn K cd8 "_law_of" = true) (k8 : PySem.W.keepIn K (.ref f8) = true)
    (a9 : PySem.W.nsIn K mainGlobals "_law_places" = some (some (.ref f9))) (l9 : K.lookup f9 = some ⟨oc9, od9, .func (PySem.W.fnOf "_law_places" "_law_places" (defArgs s_law_places) (defBody s_law_places) (defScope s_law_places) .none kV9 dc9 pm9 an9 cd9 ct9), sl9⟩) (c9 : PySem.W.codeIn K cd9 "_law_places" = true) (k9 : PySem.W.keepIn K (.ref f9) = true)
    (a10 : PySem.W.nsIn K mainGlobals "law" = some (some (.ref f10))) (l10 : K.lookup f10 = some ⟨oc10, od10, .func (PySem.W.fnOf "law" "law" (defArgs s_law) (defBody s_law) (defScope s_law) .none kV10 dc10 pm10 an10 cd10 ct10), sl10⟩) (c10 : PySem.W.codeIn K cd10 "law" = true) (k10 : PySem.W.keepIn K (.ref f10) = true)
    (z1 : PySem.W.nsIn K mainGlobals "len" = some none)
    (z2 : PySem.W.nsIn K mainGlobals "max" = some none)
    (z3 : PySem.W.nsIn K mainGlobals "tuple" = some none)
    (z4 : PySem.W.nsIn K mainGlobals "int" = some none)
    (z5 : PySem.W.nsIn K mainGlobals "abs" = some none)
    (z6 : PySem.W.nsIn K mainGlobals "enumerate" = some none)
    (z7 : PySem.W.nsIn K mainGlobals "range" = some none)
    (z8 : PySem.W.nsIn K mainGlobals "repr" = some none)
    (u1 : PySem.W.nsIn K mainGlobals "BLANKS" = some (some (.str BS t1)))
    (u2 : PySem.W.nsIn K mainGlobals "WORD_SIGNS" = some (some (.str WS t2)))
    : ∃ fd : FuncData, (∀ (s : Shared) (v : Value), BindsTo s fd ⟨[v], []⟩ [("script", v)]) ∧ ∀ base : Heap, K.In base → base.Ns mainGlobals mg → FnA callerA l.prog w K mg base CX0 fa fd ["script"] (spLaw K) := by
  have e := hfa.symm.trans (PySem.W.mg_of X G a10)
  cases e
  have F1 := fun_mk (st := s_behind_remark) l1 c1 k1
  have F2 := fun_mk (st := s_behind_token) l2 c2 k2
  have F3 := fun_mk (st := s_spans) l3 c3 k3
  have F4 := fun_mk (st := s_tokens_of) l4 c4 k4
  have F5 := fun_mk (st := s_token_places) l5 c5 k5
  have F6 := fun_mk (st := s_law_draw) l6 c6 k6
  have F7 := fun_mk (st := sAny) l7 c7 k7
  have F8 := fun_mk (st := s_law_of) l8 c8 k8
  have F9 := fun_mk (st := s_law_places) l9 c9 k9
  have F10 := fun_mk (st := s_law) l10 c10 k10
  have b1 := F1.binds (ps := ["text", "at"]) fun _ _ _ _ _ _ us hl => match us, hl with | [_, _], _ => rfl
  have b2 := F2.binds (ps := ["text", "at"]) fun _ _ _ _ _ _ us hl => match us, hl with | [_, _], _ => rfl
  have b3 := F3.binds (ps := ["text"]) fun _ _ _ _ _ _ us hl => match us, hl with | [_], _ => rfl
  have b4 := F4.binds (ps := ["text"]) fun _ _ _ _ _ _ us hl => match us, hl with | [_], _ => rfl
  have b5 := F5.binds (ps := ["text"]) fun _ _ _ _ _ _ us hl => match us, hl with | [_], _ => rfl
  have b6 := F6.binds (ps := ["script", "salt"]) fun _ _ _ _ _ _ us hl => match us, hl with | [_, _], _ => rfl
  have b7 := F7.binds (ps := ["deal", "bound"]) fun _ _ _ _ _ _ us hl => match us, hl with | [_, _], _ => rfl
  have b8 := F8.binds (ps := ["deal", "some"]) fun _ _ _ _ _ _ us hl => match us, hl with | [_, _], _ => rfl
  have b9 := F9.binds (ps := ["text"]) fun _ _ _ _ _ _ us hl => match us, hl with | [_], _ => rfl
  have g1 := PySem.W.mg_of X G a1
  have g2 := PySem.W.mg_of X G a2
  have g3 := PySem.W.mg_of X G a3
  have g4 := PySem.W.mg_of X G a4
  have g5 := PySem.W.mg_of X G a5
  have g6 := PySem.W.mg_of X G a6
  have g7 := PySem.W.mg_of X G a7
  have g8 := PySem.W.mg_of X G a8
  have g9 := PySem.W.mg_of X G a9
  have g10 := PySem.W.mg_of X G a10
  have n1 := PySem.W.mg_none_of X G z1
  have n2 := PySem.W.mg_none_of X G z2
  have n3 := PySem.W.mg_none_of X G z3
  have n4 := PySem.W.mg_none_of X G z4
  have n5 := PySem.W.mg_none_of X G z5
  have n6 := PySem.W.mg_none_of X G z6
  have n7 := PySem.W.mg_none_of X G z7
  have n8 := PySem.W.mg_none_of X G z8
  have m1 := PySem.W.mg_of X G u1
  have m2 := PySem.W.mg_of X G u2
  refine ⟨PySem.W.fnOf "law" "law" (defArgs s_law) (defBody s_law) (defScope s_law) .none kV10 dc10 pm10 an10 cd10 ct10, fun s v => .of_eq rfl, fun base _ _ => ?_⟩
  have O1 := ok_behind_remark (P := l.prog) (w := w) (base := base) F1 n1
  have O2 := ok_behind_token (P := l.prog) (w := w) (base := base) F2 n1 n2 ⟨_, m2⟩
  have O3 := ok_spans (P := l.prog) (w := w) (base := base) F3 n1 ⟨_, m1⟩ O1 g1 k1 b1 O2 g2 k2 b2
  have O4 := ok_tokens_of F4 n3 O3 g3 k3 b3
  have O5 := ok_token_places F5 n3 O3 g3 k3 b3
  have O6 := ok_draw (P := l.prog) (w := w) (base := base) F6 n4 n5
  have O7 := ok_any (P := l.prog) (w := w) (base := base) F7 n4
  have O8 := ok_of F8 O7 g7 k7 b7 n1
  have O9 := ok_law_places (P := l.prog) (w := w) (base := base) F9 n6
  exact ok_law F10 ⟨O6, O7, O8, O9, O5, O4, g6, g7, g8, g9, g5, g4, k6, k7, k8, k9, k5, k4, b6, b7, b8, b9, kb1 F5 fun _ _ _ _ _ _ _ => rfl, kb1 F4 fun _ _ _ _ _ _ _ => rfl, n7, n3, n8⟩
theorem walk {l : PySem.W.OpenLaw} {q : Program} {loose : List Str} {XP : (Str → Option Value) → Heap → Prop} {YP : World → Heap → Prop} {d : DefRec} {K : Params → PySem.W.Frag} (hn : l.most = some 63) (hdf : d.params.defaults = [])
    (hY : ∀ (w : World) (h : Heap), YP w h → (K w.params).In h)
    (F : ∀ (w : World) (mg : Str → Option Value) (fa : Addr) (h : Heap), (K w.params).In h → h.Ns mainGlobals mg → mg d.name = some (.ref fa) →
      ∃ fd : FuncData, (∀ (s : Shared) (u : Value), BindsTo s fd ⟨[u], []⟩ [("script", u)]) ∧ ∀ base : Heap, (K w.params).In base → base.Ns mainGlobals mg → FnA callerA l.prog w (K w.params) mg base CX0 fa fd ["script"] (spLaw (K w.params))) :
    PySem.W.WalkO q loose XP YP l.row.toRowW d [] (fun f vs => PySem.call f vs) :=
  walkA (n := 63) (x := "script") (sp := fun w => spLaw (K w.params)) hn (by decide) hdf hY F (fun _ _ a ns hl hb hS => ⟨a, ns, rfl, hS, fun _ => rfl⟩)
end K05
open PySem PySem.W PyProof.Rows
set_option maxRecDepth 100000 in
set_option maxHeartbeats 0 in
theorem PySem.Challenge.cw_newsbehind_k05_tokens_and_their_places_holds : PySem.Challenge.rw_newsbehind_k05_tokens_and_their_places.Holds := by
  w_on; o_law; k_head; (case hw => w_witness2)
  k_fill
  refine K05.walk (l := PySem.Challenge.rw_newsbehind_k05_tokens_and_their_places) rfl rfl (fun w h Y => PySem.W.kIn_of Y) ?F
  case F =>
    intro w mg fa h KX G hmg
    refine' K05.all_mk KX G hmg ?a1 ?l1 ?c1 ?k1 ?a2 ?l2 ?c2 ?k2 ?a3 ?l3 ?c3 ?k3 ?a4 ?l4 ?c4 ?k4 ?a5 ?l5 ?c5 ?k5 ?a6 ?l6 ?c6 ?k6 ?a7 ?l7 ?c7 ?k7 ?a8 ?l8 ?c8 ?k8 ?a9 ?l9 ?c9 ?k9 ?a10 ?l10 ?c10 ?k10 ?z1 ?z2 ?z3 ?z4 ?z5 ?z6 ?z7 ?z8 ?u1 ?u2
    (case a1 => k_is)
    (case l1 => k_is)
    (case c1 => k_is)
    (case k1 => k_is)
    (case a2 => k_is)
    (case l2 => k_is)
    (case c2 => k_is)
    (case k2 => k_is)
    (case a3 => k_is)
    (case l3 => k_is)
    (case c3 => k_is)
    (case k3 => k_is)
    (case a4 => k_is)
    (case l4 => k_is)
    (case c4 => k_is)
    (case k4 => k_is)
    (case a5 => k_is)
    (case l5 => k_is)
    (case c5 => k_is)
    (case k5 => k_is)
    (case a6 => k_is)
    (case l6 => k_is)
    (case c6 => k_is)
    (case k6 => k_is)
    (case a7 => k_is)
    (case l7 => k_is)
    (case c7 => k_is)
    (case k7 => k_is)
    (case a8 => k_is)
    (case l8 => k_is)
    (case c8 => k_is)
    (case k8 => k_is)
    (case a9 => k_is)
    (case l9 => k_is)
    (case c9 => k_is)
    (case k9 => k_is)
    (case a10 => k_is)
    (case l10 => k_is)
    (case c10 => k_is)
    (case k10 => k_is)
    (case z1 => k_is)
    (case z2 => k_is)
    (case z3 => k_is)
    (case z4 => k_is)
    (case z5 => k_is)
    (case z6 => k_is)
    (case z7 => k_is)
    (case z8 => k_is)
    (case u1 => k_is)
    (case u2 => k_is)

#print axioms PySem.Challenge.cw_newsbehind_k05_tokens_and_their_places_holds
