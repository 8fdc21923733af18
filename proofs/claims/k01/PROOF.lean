import PyProof.Rows.All
import Wide.All
import OpenK.AllK
import Wide.FinOn
import HandS.Base
import HandS.Call
import HandS.List
import HandS.Comp
import HandS.Ends
import HandS.Dict
import HandS.Iter
import HandS.Text
import HandS.Words
import HandS.EndBits
import HandS.Evl
import HandS.Style
import HandS.StrMore
import PyProof.EnumMake
import PyProof.Draws
import HandS.TryOnly
import PyProof.StrLawsRepr
import PyProof.AutoSeq1
import HandS.TupAny
import HandS.ForExc
import HandS.ForMost
import HandS.Deep
import HandS.AnyAll
import HandS.TupMul
import KE.GoesMore
import PyProof.WalksMore
import HandS.Strs
import HandS.Zip
import HandS.IsInst
import HandS.SortInts
import HandS.TupLe
import HandS.CallLocal
import HandS.More
import KE.KDictZip
import HandS.GenOver
import HandS.EndTab
import HandS.ExcInit
import HandS.ExcField
import PySem.Challenge.RW_newsbehind_k01_rules_and_what_they_tell
set_option Elab.async false
set_option linter.all false
set_option maxRecDepth 100000
set_option maxHeartbeats 4000000
namespace NB
open PySem PySem.Spec PyProof.Rows L2

/-! ### repr of data -/
/-- data that repr writes out in full -/
structure Sh (d : PyData) : Prop where
  sh : d.showable = true
  nd : d.hasDict = false
  dp : d.depth ≤ 64
  sz : d.shown.length ≤ sizeLine
theorem call_reprD {X : Cx} (hg : X.A.guards = some []) (hu : X.A.units + 70 < cLine) :
    CallR X (.builtin "repr") (fun xs H Q => ∃ x d, xs = [x] ∧ Dp X.K H x d ∧ Sh d ∧ Q (.str d.shown) H) := by
  intro pins s σ H xs us Q I r h
  obtain ⟨x, d, rfl, hd, S, q⟩ := h
  obtain ⟨u, rfl, ru⟩ := vals1 r
  have fin : ∀ tk t, EP X pins σ Q (.str d.shown t) { s with toks := tk } := fun tk t => ⟨.str d.shown, H, I.tok _, ⟨t, rfl⟩, q⟩
  have sh := S.sh
  have sz := S.sz
  have big : ∀ a as, u = .ref a → Reads s.heap (.ref a) d as → wpAny (model X.prog X.w) X.A (call (.builtin "repr") [u]) (EP X pins σ Q) X.xe s := by
    rintro a as rfl rd
    refine repr_of_reads' rd S.sh (PyData.noDict_hsm S.nd) hg (by have := S.dp; omega) (fun _ _ e => e) (fun h' v tk hk => ?_) S.sz
    exact ⟨.str d.shown, H, I.kept (t' := tk) hk, ⟨v, rfl⟩, q⟩
  obtain ⟨as, rd⟩ := Dp.reads I d x u hd ru
  cases rd with
  | none => exact PySem.P.repr_of_none (by simpa only [PyData.shown] using fin _ _)
  | bool b => exact PySem.P.repr_of_bool (by simpa only [PyData.shown] using fin _ _)
  | int i t => exact PySem.P.repr_of_int (by simpa only [PyData.showable, decide_eq_true_eq] using sh) (by simpa only [PyData.shown] using fin _ _)
  | str z t => exact PySem.P.repr_of_str (by simpa only [PyData.shown] using fin _ _) (by simpa only [PyData.shown] using sz)
  | list h1 h2 h3 h4 => exact big _ _ rfl (.list h1 h2 h3 h4)
  | tuple h1 h2 h3 h4 => exact big _ _ rfl (.tuple h1 h2 h3 h4)
  | dict h1 h2 h3 h4 h5 => exact big _ _ rfl (.dict h1 h2 h3 h4 h5)

/-! ### a def whose callers stand at one place of the run that is known -/
structure FnA (A : Around) (P : Program) (w : World) (K : PySem.W.Frag) (mg : Str → Option Value) (base : Heap) (CX : CXT) (f : Addr) (fd : FuncData) (ps : List Str) (sp : Sp) : Prop where
  len : ∀ vs H Q E, sp vs H Q E → vs.length = ps.length
  run : ∀ (outer : List Env) (s : Shared) (H : Hp) (args : Args) (us : List Value) (vs : List V) (Q : VK) (E : XK), Env0 P w K mg base A outer s H →
    BindsTo s fd args (ps.zip us) → Vals vs us → sp vs H Q E → codeAny (model P w) A (.call (.ref f) args) (CR CX outer P w H s Q E) s
variable {P : Program} {w : World} {K : PySem.W.Frag} {mg : Str → Option Value} {base : Heap}
theorem funA {A : Around} {x qual : Str} {st : Stmt} {f : Addr} {fd : FuncData} {N ps : List Str} {k : Nat} {sp : Sp} (F : Fun K x qual st f fd) (S : FnScope N ps (defScope st)) (hr : Room (k + 1) A)
    (len : ∀ vs H Q E, sp vs H Q E → vs.length = ps.length)
    (body : ∀ (cdv : Value) (outer : List Env) (s : Shared) (H : Hp) (vs : List V) (Q : VK) (E : XK), Room k (A.deeper (envOfC qual (defScope st) s.heap.objs.size f cdv)) → sp vs H Q E →
      ∃ t, PSs (cxOf CX0 P w K mg base N qual (defScope st) f cdv A outer s H E).nox (defBody st) t ∧ t { nx := fun _ H' => Q .non H', rt := Q } (start N vs) H) :
    FnA A P w K mg base CX0 f fd ps sp := by
  obtain ⟨oc, od, kV, doc, pm, an, cdv, ct, osl, rfl, lk, hcd⟩ := F.ex
  refine ⟨len, fun outer s H args us vs Q E e0 hb r hsp => ?_⟩
  have hl := len _ _ _ _ hsp
  have old : ∀ b o, base.get? b = some o → s.heap.get? b = some o := fun b o e => (e0.bs b o e).1
  have names : ∀ y ∈ ps.zip us, (defScope st).names.lookup y.1 = some .local ∨ (defScope st).names.lookup y.1 = some .cell := fun y hy => S.par y.1 (List.of_mem_zip hy).1
  have hall : ((ps.zip us).all fun y => (defScope st).names.lookup y.1 == some .local || (defScope st).names.lookup y.1 == some .cell) = true := by
    rw [List.all_eq_true]
    intro y hy
    rcases names y hy with q | q
    · rw [q]; rfl
    · rw [q]; rfl
  refine Att.call_fn (e0.mod.kin.keeps old) (e0.mod.nolimit.keeps old) lk hcd hr.depth hb hall (fun s1 x => ?_) S.co S.gen S.kind
  obtain ⟨t, ht, hq⟩ := body cdv outer s H vs Q E (hr.deeper _) hsp
  have I := inv_start (CX := CX0) (E := E) (f := f) (cd := cdv) (qual := qual) S hr.hd e0 hl r x
  refine wpAny_mono (ht.nox.run [] s1 (start N vs) H _ I hq) (fun fl s' hs => ?_) fun e s' hs => hs
  cases fl with
  | ret u => obtain ⟨v, σ', H', J, rv, q⟩ := hs; exact ⟨v, H', J.os, J.bare, J.base, J.hok, rv, q⟩
  | next => obtain ⟨σ', H', J, q⟩ := hs; exact ⟨V.non, H', J.os, J.bare, J.base, J.hok, rfl, q⟩
  | brk => obtain ⟨_, _, _, q⟩ := hs; exact q.elim
  | cont => obtain ⟨_, _, _, q⟩ := hs; exact q.elim

/-- the law's call, its own def known at the caller's place alone -/
theorem callA {mb : Str → Option Value} {fa a : Addr} {fd : FuncData} {x : Str} {sp : Sp} {s1 : Shared} {vs : List Value} {ns : List Int}
    (KX : K.In s1.heap) (hns : s1.heap.Ns mainGlobals mg) (hb : s1.heap.Ns builtinsNs mb) (hbb : ∀ x : Str, x ≠ "__name__" → mb x = bootBuiltins x) (hlim : s1.heap.NoLimit) (hg : s1.gens = #[])
    (ha : s1.heap.get? a = some { cls := .type "list", data := .seq vs.toArray }) (hi : IntsAre vs ns) (hl : ns.length ≤ sizeLine)
    (F : ∀ base : Heap, K.In base → base.Ns mainGlobals mg → FnA callerA P w K mg base CX0 fa fd [x] sp) (hbind : ∀ (s : Shared) (u : Value), BindsTo s fd ⟨[u], []⟩ [(x, u)])
    (hsp : ∀ H : Hp, SqL K H a (ns.map V.int) → sp [.ref a] H (fun v _ => v = .bl true) E0) :
    codeAny (model P w) callerA (.call (.ref fa) ⟨[.ref a], []⟩) (fun r s' => r = .ok (.ret (.bool true)) ∧ OldK s1.heap s'.heap ∧ s'.os = s1.os ∧ AllBare s'.gens) s1 := by
  have rv := vals_ints hi
  let ob : Obj := { cls := .type "list", data := .seq vs.toArray }
  let H : Hp := fun b => if b = a ∧ K.lookup a = none then some (.frz ob (.lst (ns.map V.int))) else none
  have Hn : ∀ b, H b = none ∨ (b = a ∧ K.lookup a = none ∧ H b = some (.frz ob (.lst (ns.map V.int)))) := fun b => by
    by_cases c : b = a ∧ K.lookup a = none
    · exact .inr ⟨c.1, c.2, if_pos c⟩
    · exact .inl (if_neg c)
  have free : ∀ b o, s1.heap.get? b = some o → (∀ es ep, o.data = .dict es ep → H b = none) := fun b o e es ep hd => by
    rcases Hn b with z | ⟨rfl, _, _⟩
    · exact z
    · rw [ha] at e
      cases e
      cases hd
  have nsK : ∀ {b : Addr} {m : Str → Option Value}, s1.heap.Ns b m → (hidT s1.heap H).Ns b m := fun {b m} z => by
    obtain ⟨o, es, ep, e, hd, rest⟩ := z
    exact ⟨o, es, ep, hidT_get e (free b o e es ep hd), hd, rest⟩
  have KB : K.In (hidT s1.heap H) := fun b o e => hidT_get (KX b o e) (by
    rcases Hn b with z | ⟨rfl, hk, _⟩
    · exact z
    · rw [hk] at e; cases e)
  have ok : HOk P w H s1.heap := fun b o e => by
    rcases Hn b with z | ⟨rfl, hk, z⟩
    · rw [z] at e; cases e
    · rw [z] at e
      cases e
      exact ⟨ha, by rw [List.length_map]; exact hl, vs, _, rv, ha⟩
  have hS : SqL K H a (ns.map V.int) := by
    cases hk : K.lookup a with
    | none => exact .inl (.inr ⟨ob, if_pos ⟨rfl, hk⟩⟩)
    | some o =>
      have e := (KX a o hk).symm.trans ha
      obtain rfl := Option.some.inj e
      exact .inr ⟨_, vs.toArray, _, hk, rfl, rfl, rfl, by rw [List.size_toArray, hi.length]; exact hl, by simpa using rv⟩
  have M : Mod K mg (hidT s1.heap H) := ⟨KB, nsK hns, ⟨mb, nsK hb, hbb⟩, by obtain ⟨mc, h1, h2⟩ := hlim; exact ⟨mc, nsK h1, h2⟩⟩
  have e0 : Env0 P w K mg (hidT s1.heap H) callerA [] s1 H :=
    ⟨rfl, M, fun b o e => of_hidT e, Nat.le_of_eq (hidT_size _ _), trivial, fun b hb => (by cases hb), ok, .of_eq hg⟩
  refine codeAny_mono ((F _ KB (nsK hns)).run [] s1 H ⟨[.ref a], []⟩ [.ref a] [.ref a] _ _ e0 (hbind s1 (.ref a)) (.cons rfl .nil) (hsp H hS)) fun r s' h => ?_
  match r, h with
  | .ok (.ret u), h =>
    obtain ⟨v, H', os, bare, un, hok', r', rfl⟩ := h
    obtain rfl : u = Value.bool true := r'
    refine ⟨rfl, OldK.of_keep fun b o e => ?_, os, bare⟩
    rcases Hn b with z | ⟨rfl, hk, z⟩
    · exact un.keep b o e z (by intro q; cases q) (by intro q; cases q)
    · have z2 := un.frzs b ob _ z
      have e2 := (hok' b _ z2).1
      have e1 := (ok b _ z).1
      rw [← e, e1, e2]
theorem walkA {l : PySem.W.OpenLaw} {n : Nat} {q : Program} {loose : List Str} {XP : (Str → Option Value) → Heap → Prop} {YP : World → Heap → Prop} {d : DefRec} {K : Params → PySem.W.Frag} {sp : World → Sp} {x : Str}
    (hn : l.most = some n) (hn2 : n ≤ sizeLine) (hdf : d.params.defaults = []) (hY : ∀ (w : World) (h : Heap), YP w h → (K w.params).In h)
    (F : ∀ (w : World) (mg : Str → Option Value) (fa : Addr) (h : Heap), (K w.params).In h → h.Ns mainGlobals mg → mg d.name = some (.ref fa) →
      ∃ fd : FuncData, (∀ (s : Shared) (u : Value), BindsTo s fd ⟨[u], []⟩ [(x, u)]) ∧ ∀ base : Heap, (K w.params).In base → base.Ns mainGlobals mg → FnA callerA l.prog w (K w.params) mg base CX0 fa fd [x] (sp w))
    (hsp : ∀ (w : World) (H : Hp) (a : Addr) (ns : List Int), ns.length ≤ n → (∀ z ∈ ns, Builtin.Int.intBits z ≤ 1048576) → SqL (K w.params) H a (ns.map V.int) → sp w [.ref a] H (fun v _ => v = .bl true) E0) :
    PySem.W.WalkO q loose XP YP l.row.toRowW d [] (fun f vs => PySem.call f vs) := by
  refine Att.attach_callB hn hdf fun w s0 s1 mg mb fa o pm cd doc a vs ns G Y ho hd hcd hmg hobj hints hlen hbits hg => ?_
  obtain ⟨fd, hb, hF⟩ := F w mg fa _ (hY w _ Y) G.T.g hmg
  exact callA (hY w _ Y) G.T.g G.T.b G.T.builtins G.T.nolimit hg hobj hints (Nat.le_trans hlen hn2) hF hb fun H hS => hsp w H a ns hlen hbits hS
end NB
set_option linter.all false
set_option maxRecDepth 100000
set_option maxHeartbeats 4000000
namespace NB
open PySem PySem.Spec PyProof.Rows L2

/-! ### lists of ints as data -/
theorem dpInts {K : PySem.W.Frag} {H : Hp} : ∀ ns : List Int, DpAll K H (ns.map V.int) (ns.map PyData.int)
  | [] => .nil
  | n :: r => .cons (.int n) (dpInts r)
theorem canInts : ∀ ns : List Int, PyData.canLayAll0 (ns.map PyData.int) = true
  | [] => by simp [PyData.canLayAll0]
  | n :: r => by simp [PyData.canLayAll0, PyData.canLay0, canInts r]
theorem depInts : ∀ ns : List Int, PyData.depthAll (ns.map PyData.int) = 0
  | [] => by simp [PyData.depthAll]
  | n :: r => by simp [PyData.depthAll, PyData.depth, depInts r]
theorem shapedInts (ns : List Int) : SeqAt.shaped (.list (ns.map PyData.int)) = true := by
  unfold SeqAt.shaped
  simp [PyData.canLay0, PyData.depth, canInts, depInts]
theorem eqvNil (ns : List Int) : PyData.eqv (.list (ns.map PyData.int)) (.list []) = ns.isEmpty := by
  cases ns <;> simp [PyData.eqv, PyData.eqvAll]

theorem call_intI {X : Cx} : CallR X (.type "int") (fun xs H Q => ∃ i, xs = [.int i] ∧ Q (.int i) H) := by
  intro pins s σ H xs us Q I r h
  exact call_int1 pins s σ H xs us Q I r (.inl h)

/-! ### the drawer of a law: a list at a that holds a list of numbers at l, and a number -/
structure DealAt (H : Hp) (a l : Addr) (ns : List Int) (b : Int) : Prop where
  ob : H a = some (.lst [.ref l, .int b])
  li : H l = some (.lst (ns.map V.int))
  nn : ∀ n ∈ ns, 0 ≤ n
  ln : ns.length ≤ 48
  b0 : 0 ≤ b
  b1 : b < 2147483647
def Deal (H : Hp) (a l : Addr) : Prop := ∃ ns b, DealAt H a l ns b
theorem DealAt.ne {H : Hp} {a l : Addr} {ns : List Int} {b : Int} (d : DealAt H a l ns b) : a ≠ l := ne_of d.ob d.li (by
  intro e
  cases ns with
  | nil => simp at e
  | cons n r => simp at e)
/-- all but the drawer is as it was -/
def Kp (a l : Addr) (H H' : Hp) : Prop := ∀ c o, H c = some o → c ≠ a → c ≠ l → H' c = some o
theorem Kp.refl (a l : Addr) (H : Hp) : Kp a l H H := fun _ _ h _ _ => h
theorem Kp.trans {a l : Addr} {H H1 H2 : Hp} (x : Kp a l H H1) (y : Kp a l H1 H2) : Kp a l H H2 := fun c o h h1 h2 => y c o (x c o h h1 h2) h1 h2
theorem Kp.of {a l : Addr} {H H' : Hp} (h : Same H H') : Kp a l H H' := fun c o e _ _ => h c o e
theorem Kp.new {a l : Addr} {H : Hp} {p : Addr} {o : HO} (h : H p = none) : Kp a l H (upd H p o) := fun c u e _ _ => by rw [upd_ne (ne_of_none e h)]; exact e
theorem Deal.new {a l : Addr} {H : Hp} {p : Addr} {o : HO} (d : Deal H a l) (h : H p = none) : Deal (upd H p o) a l := by
  obtain ⟨ns, b, d⟩ := d
  exact ⟨ns, b, by rw [upd_ne (ne_of_none d.ob h)]; exact d.ob, by rw [upd_ne (ne_of_none d.li h)]; exact d.li, d.nn, d.ln, d.b0, d.b1⟩
theorem Kp.tup {a l : Addr} {H H' : Hp} (k : Kp a l H H') (d : Deal H a l) {p : Addr} {xs : List V} (h : H p = some (.tup xs)) : H' p = some (.tup xs) := by
  obtain ⟨ns, b, d⟩ := d
  exact k p _ h (ne_of h d.ob (by intro e; cases e)) (ne_of h d.li (by intro e; cases e))

theorem DealAt.new {a l : Addr} {ns : List Int} {b : Int} {H : Hp} {p : Addr} {o : HO} (d : DealAt H a l ns b) (h : H p = none) : DealAt (upd H p o) a l ns b :=
  ⟨by rw [upd_ne (ne_of_none d.ob h)]; exact d.ob, by rw [upd_ne (ne_of_none d.li h)]; exact d.li, d.nn, d.ln, d.b0, d.b1⟩
theorem DealAt.put {a l : Addr} {ns ms : List Int} {b : Int} {H : Hp} (d : DealAt H a l ns b) (h1 : ∀ n ∈ ms, 0 ≤ n) (h2 : ms.length ≤ 48) : DealAt (upd H l (.lst (ms.map V.int))) a l ms b :=
  ⟨by rw [upd_ne d.ne]; exact d.ob, upd_same, h1, h2, d.b0, d.b1⟩
theorem DealAt.turn {a l : Addr} {ns : List Int} {b c : Int} {H : Hp} (d : DealAt H a l ns b) (h0 : 0 ≤ c) (h1 : c < 2147483647) : DealAt (upd H a (.lst [.ref l, .int c])) a l ns c :=
  ⟨upd_same, by rw [upd_ne d.ne.symm]; exact d.li, d.nn, d.ln, h0, h1⟩
theorem Kp.putL {a l : Addr} {H H1 : Hp} {o : HO} (k : Kp a l H H1) : Kp a l H (upd H1 l o) := fun c u e h1 h2 => by rw [upd_ne h2]; exact k c u e h1 h2
theorem Kp.putA {a l : Addr} {H H1 : Hp} {o : HO} (k : Kp a l H H1) : Kp a l H (upd H1 a o) := fun c u e h1 h2 => by rw [upd_ne h1]; exact k c u e h1 h2
theorem Kp.new1 {a l : Addr} {H H1 : Hp} {p : Addr} {o : HO} (k : Kp a l H H1) (h : H1 p = none) : Kp a l H (upd H1 p o) := k.trans (Kp.new h)
theorem last_int {ns : List Int} (h : ns ≠ []) : ∃ z, ns = ns.dropLast ++ [z] ∧ atI (ns.map V.int) (-1) = some (.int z) ∧ (ns.map V.int)[(ns.map V.int).length - 1]? = some (.int z) ∧ (ns.map V.int).dropLast = ns.dropLast.map V.int := by
  have e := (List.dropLast_concat_getLast h).symm
  generalize ns.getLast h = z at e
  have hl : 0 < ns.length := List.length_pos_iff.mpr h
  have hi : ns[ns.length - 1]? = some z := by
    have q : ns.length - 1 = ns.dropLast.length := by rw [List.length_dropLast]
    rw [q]
    conv => lhs; rw [e]
    simp
  refine ⟨z, e, ?_, ?_, by rw [List.map_dropLast]⟩
  · unfold atI ixN
    rw [List.length_map, if_neg (by omega), if_pos (by omega)]
    have q : ((-1 : Int) + (ns.length : Int)).toNat = ns.length - 1 := by omega
    simp only [Option.bind_some, q, List.getElem?_map, hi, Option.map_some]
  · rw [List.length_map, List.getElem?_map, hi]; rfl
/-- _law_any(deal, bound) -/
def spAny : Sp := fun vs H Q _ => ∃ (a l : Addr) (m : Int), vs = [.ref a, .int m] ∧ Deal H a l ∧ 1 ≤ m ∧ m < 1073741824 ∧
  ∀ (r : Int) (H' : Hp), 0 ≤ r → r < m → Deal H' a l → Kp a l H H' → Q (.int r) H'
/-- _law_of(deal, some) -/
def spOf (K : PySem.W.Frag) : Sp := fun vs H Q _ => ∃ (a l p : Addr) (xs : List V), vs = [.ref a, .ref p] ∧ Deal H a l ∧ (H p = some (.lst xs) ∨ H p = some (.tup xs)) ∧ p ≠ a ∧ p ≠ l ∧ xs ≠ [] ∧ xs.length ≤ 100000 ∧
  ∀ (i : Nat) (x : V) (H' : Hp), xs[i]? = some x → Deal H' a l → Kp a l H H' → Q x H'
/-- _law_draw(script, salt) -/
def spDraw (K : PySem.W.Frag) : Sp := fun vs H Q _ => ∃ (s : Addr) (ns : List Int) (z : Int), vs = [.ref s, .int z] ∧ SqL K H s (ns.map V.int) ∧ 0 ≤ z ∧ z ≤ 1000 ∧
  ∀ (a l : Addr) (H' : Hp), Deal H' a l → H a = none → H l = none → Same H H' → Q (.ref a) H'
end NB
set_option linter.all false
set_option maxRecDepth 100000
set_option maxHeartbeats 4000000
namespace NB
open PySem PySem.Spec PyProof.Rows L2
theorem cxK {CX : CXT} {P : Program} {w : World} {K : PySem.W.Frag} {mg : Str → Option Value} {base : Heap} {N : List Str} {qual : Str} {scope : Scope} {f : Addr} {cd : Value} {A : Around} {outer : List Env} {s : Shared} {H : Hp} {E : XK} :
  (cxOf CX P w K mg base N qual scope f cd A outer s H E).K = K := rfl
/-! ### a comprehension's walk, whatever its turn is -/
theorem lcL {K : PySem.W.Frag} {a : Addr} {xs : List V} {H0 : Hp} {Qd : Hp → Prop} {body : (Hp → Prop) → V → Hp → Prop} (Pv : Nat → Hp → Prop) (h0 : Pv 0 H0) (hl : ∀ i H, i ≤ xs.length → Pv i H → SqL K H a xs)
    (hs : ∀ i x H, xs[i]? = some x → Pv i H → body (Pv (i + 1)) x H) (hd : ∀ H, Pv xs.length H → Qd H) :
    ∃ W : Nat → Nat → Hp → Prop, (∃ m, W 0 m H0) ∧ ∀ i m H, W i m H → ((Itl K a).stop i H ∧ Qd H) ∨ ((Itl K a).go i H ∧ ∃ Nx : Hp → Prop, (∀ H', Nx H' → ∃ m', m' < m ∧ W (i + 1) m' H') ∧ ∀ x H', (Itl K a).yld i H x H' → body Nx x H') := by
  refine ⟨fun i m H => m = xs.length - i ∧ i ≤ xs.length ∧ Pv i H, ⟨_, rfl, Nat.zero_le _, h0⟩, ?_⟩
  rintro i m H ⟨rfl, hi, p⟩
  have q := hl i H hi p
  rcases Nat.lt_or_ge i xs.length with c | c
  · refine .inr ⟨⟨xs, xs[i], q, by simp [c]⟩, Pv (i + 1), fun H' p' => ⟨_, by omega, rfl, c, p'⟩, fun x H' y => ?_⟩
    obtain ⟨rfl, y⟩ := y
    exact hs i x _ (y xs q) p
  · obtain rfl : i = xs.length := by omega
    exact .inl ⟨⟨xs, q, Nat.le_refl _⟩, hd H p⟩
theorem lcT {K : PySem.W.Frag} {a : Addr} {xs : List V} {H0 : Hp} {Qd : Hp → Prop} {body : (Hp → Prop) → V → Hp → Prop} (Pv : Nat → Hp → Prop) (h0 : Pv 0 H0) (hl : ∀ i H, i ≤ xs.length → Pv i H → SqT K H a xs)
    (hs : ∀ i x H, xs[i]? = some x → Pv i H → body (Pv (i + 1)) x H) (hd : ∀ H, Pv xs.length H → Qd H) :
    ∃ W : Nat → Nat → Hp → Prop, (∃ m, W 0 m H0) ∧ ∀ i m H, W i m H → ((Itt K a).stop i H ∧ Qd H) ∨ ((Itt K a).go i H ∧ ∃ Nx : Hp → Prop, (∀ H', Nx H' → ∃ m', m' < m ∧ W (i + 1) m' H') ∧ ∀ x H', (Itt K a).yld i H x H' → body Nx x H') := by
  refine ⟨fun i m H => m = xs.length - i ∧ i ≤ xs.length ∧ Pv i H, ⟨_, rfl, Nat.zero_le _, h0⟩, ?_⟩
  rintro i m H ⟨rfl, hi, p⟩
  have q := hl i H hi p
  rcases Nat.lt_or_ge i xs.length with c | c
  · refine .inr ⟨⟨xs, xs[i], q, by simp [c]⟩, Pv (i + 1), fun H' p' => ⟨_, by omega, rfl, c, p'⟩, fun x H' y => ?_⟩
    obtain ⟨rfl, y⟩ := y
    exact hs i x _ (y xs q) p
  · obtain rfl : i = xs.length := by omega
    exact .inl ⟨⟨xs, q, Nat.le_refl _⟩, hd H p⟩
theorem lcR {lo : Int} {n : Nat} {H0 : Hp} {Qd : Hp → Prop} {body : (Hp → Prop) → V → Hp → Prop} (Pv : Nat → Hp → Prop) (h0 : Pv 0 H0)
    (hs : ∀ i H, i < n → Pv i H → body (Pv (i + 1)) (.int (lo + i)) H) (hd : ∀ H, Pv n H → Qd H) :
    ∃ W : Nat → Nat → Hp → Prop, (∃ m, W 0 m H0) ∧ ∀ i m H, W i m H → ((Itr lo n).stop i H ∧ Qd H) ∨ ((Itr lo n).go i H ∧ ∃ Nx : Hp → Prop, (∀ H', Nx H' → ∃ m', m' < m ∧ W (i + 1) m' H') ∧ ∀ x H', (Itr lo n).yld i H x H' → body Nx x H') := by
  refine ⟨fun i m H => m = n - i ∧ i ≤ n ∧ Pv i H, ⟨_, rfl, Nat.zero_le _, h0⟩, ?_⟩
  rintro i m H ⟨rfl, hi, p⟩
  rcases Nat.lt_or_ge i n with c | c
  · refine .inr ⟨c, Pv (i + 1), fun H' p' => ⟨_, by omega, rfl, c, p'⟩, fun x H' y => ?_⟩
    obtain ⟨rfl, rfl⟩ := y
    exact hs i _ c p
  · obtain rfl : i = n := by omega
    exact .inl ⟨Nat.le_refl _, hd H p⟩
end NB
set_option linter.all false
set_option maxRecDepth 100000
set_option maxHeartbeats 4000000
namespace NB
open PySem PySem.Spec PyProof.Rows L2
theorem call_tupleL {X : Cx} : CallR X (.type "tuple") (fun xs H Q => ∃ p ys, xs = [.ref p] ∧ SqL X.K H p ys ∧ ∀ l, H l = none → Q (.ref l) (upd H l (.tup ys))) := by
  intro pins s σ H xs us Q I r h
  obtain ⟨p, ys, e, hq, q⟩ := h
  exact call_tuple_of pins s σ H xs us Q I r ⟨p, ys, e, .inl ⟨hq, q⟩⟩
/-! ### for at, sign in enumerate(text) -/
def Ies (x : Str) : It := ⟨fun i _ => i < x.cps.size, fun i H v H' => ∃ T c, v = .ref T ∧ H T = none ∧ x.cps[i]? = some c ∧ H' = upd H T (.tup [.int (i : Nat), .str ⟨#[c]⟩]), fun i _ => x.cps.size ≤ i⟩
theorem turn_ies {P : Program} {w : World} {K : PySem.W.Frag} {elts : List Expr} {kk : Nat} {tpos : Pos} (e it : Addr) (x : Str) (t : Tok) (ty : String) (hty : ty = "str_ascii_iterator" ∨ ty = "str_iterator") :
    Turn P w K (.Tuple elts kk tpos) (Ies x) [e, it] e (fun i h => (∃ old, IsEnum h e it ((i : Nat) : Int) old) ∧ h.IsStrIter it ty x t i ∧ e ≠ it) where
  mem := List.mem_cons_self
  obj := fun i h st b hb => by
    obtain ⟨⟨old, he⟩, ⟨o, ho, _, hd⟩, _⟩ := st
    rcases List.mem_cons.mp hb with z | z
    · exact ⟨_, z ▸ he, fun v q => by cases q⟩
    · exact ⟨o, (List.mem_singleton.mp z) ▸ ho, fun v q => by rw [hd] at q; cases q⟩
  keep := fun i h h' st k => by
    obtain ⟨⟨old, he⟩, ⟨o, ho, r⟩, ne⟩ := st
    exact ⟨⟨old, k e List.mem_cons_self _ he⟩, ⟨o, k it (List.mem_cons_of_mem _ List.mem_cons_self) _ ho, r⟩, ne⟩
  item := by
    intro X hP hw hK hc i pins s σ H E I hf st hg
    subst hP hw hK
    obtain ⟨⟨old, he⟩, hit, ne⟩ := st
    have D : Draws X.prog X.w X.A.in1 it [it] x.cps.size (fun i v => ∃ c u, x.cps[i]? = some c ∧ v = .str ⟨#[c]⟩ u) (fun i h => h.IsStrIter it ty x t i) := by
      rcases hty with z | z
      · rw [z]; exact Draws.strAscii (show X.A.in1.handled = none from I.ok.hd hc) it x t
      · rw [z]; exact Draws.strWide (show X.A.in1.handled = none from I.ok.hd hc) it x t
    have lE : e < s.heap.objs.size := Heap.lt_size he
    have lI : it < s.heap.objs.size := by obtain ⟨_, q, _⟩ := hit; exact Heap.lt_size q
    refine wpAny_pyNext_enum_itemD D he hit hg ne (fun q => ne (List.mem_singleton.mp q)) fun v h1 tk hv ho hit1 hT hsz hk => ?_
    obtain ⟨c, u, hcx, rfl⟩ := hv
    refine ⟨_, rfl, wpAny_letOwnedTupleGo_enum (s := { s with heap := h1, toks := tk + 1 }) ho fun h2 he2 sb => ?_⟩
    have nT : s.heap.objs.size ≠ e := Nat.ne_of_gt lE
    have hT2 := (sb.2 _ nT).trans hT
    have new : ObjOk X.prog X.w (upd H s.heap.objs.size (.tup [.int (i : Nat), .str ⟨#[c]⟩])) h2 s.heap.objs.size (.tup [.int (i : Nat), .str ⟨#[c]⟩]) :=
      ⟨by show 2 ≤ sizeLine; decide, [_, _], .cons ⟨_, rfl⟩ (.cons ⟨_, rfl⟩ .nil), ⟨_, hT2, rfl, _, rfl⟩⟩
    have I2 : Inv X pins σ (upd H s.heap.objs.size (.tup [.int (i : Nat), .str ⟨#[c]⟩])) { s with heap := h2, toks := tk + 1 } := by
      refine I.turnedNew (ch := [e, it]) (fun b o hb q => ?_) hf (Nat.le_refl _) new
      have b1 : b ≠ e := fun z => hb (z ▸ List.mem_cons_self)
      have b2 : b ≠ it := fun z => hb (z ▸ List.mem_cons_of_mem _ List.mem_cons_self)
      exact (sb.2 b b1).trans (hk b o b1 b2 q)
    refine ⟨.ref s.heap.objs.size, _, I2, rfl, ⟨_, c, rfl, I.hok.fresh (Nat.le_refl _), hcx, rfl⟩, ⟨⟨.str ⟨#[c]⟩ u, ?_⟩, ?_, ne⟩, fun b hb => ?_⟩
    · have z : ((i + 1 : Nat) : Int) = (i : Int) + 1 := by omega
      rw [z]; exact he2
    · obtain ⟨o, q1, q2⟩ := hit1
      exact ⟨o, (sb.2 it ne.symm).trans q1, q2⟩
    · have lb : b < s.heap.objs.size := by
        rcases List.mem_cons.mp hb with z | z
        · rw [z]; exact lE
        · rw [List.mem_singleton.mp z]; exact lI
      rw [upd_ne (Nat.ne_of_lt lb)]
      exact (hf b hb).1
  done := by
    intro X hP hw hK hc i pins s σ H E I hf st hg
    subst hP hw hK
    obtain ⟨⟨old, he⟩, hit, ne⟩ := st
    have le : x.cps.size ≤ i := hg
    obtain ⟨f0, f1, f2, f3, f4, f5⟩ := hf it (List.mem_cons_of_mem _ List.mem_cons_self)
    have hx : x.cps[i]? = none := Array.getElem?_eq_none le
    have hT : s.TypeIs (.ref e) "enumerate" := ⟨_, he, rfl⟩
    have fin : ∀ h' : Heap, Heap.ExtBut it s.heap h' → Inv X pins σ H { s with heap := h' } := fun h' eb => I.turned (t' := s.toks) (fun b o hb q => eb b o hb q) f0 f1 f3 f4 f5
    unfold pyNext
    refine wpAny_bind (wpAny_attempt (wpAny_callSpecial?_slot (name := Str.ofString "__next__") hT F.slot_enumerate_next
      (wpAny_call_entry F.slot_enumerate_next hT F.entry_enumerate_next ?_ (F.args_enumerate_next_1 _))))
    show wpAny _ _ (field (.ref e) 2 >>= _) _ _ _
    refine wpAny_bind (wpAny_field he rfl (x := .ref it) rfl ?_)
    refine wpAny_bind ?_
    have go : ∀ {Q : Value → Shared → Prop} {E' : Value → Shared → Prop}, (∀ h' ex, Heap.ExtBut it s.heap h' → (∃ o, h'.get? ex = some o ∧ o.cls = .type "StopIteration") → E' (.ref ex) { s with heap := h' }) →
        wpAny (model X.prog X.w) X.A.in1 (Builtin.SmallTypes.nextOf (.ref it)) Q E' s := fun hE => by
      rcases hty with z | z
      · rw [z] at hit; exact wpAny_nextOf_ascii_end (show X.A.in1.handled = none from I.ok.hd hc) hit hx hE
      · rw [z] at hit; exact wpAny_nextOf_wide_end (show X.A.in1.handled = none from I.ok.hd hc) hit hx hE
    refine go fun h' ex eb hx' => ?_
    obtain ⟨o, ho, hcl⟩ := hx'
    refine wpAny_bind (wpAny_isInstance (T := "StopIteration") (b := true) ⟨o, ho, hcl⟩ isSubtype_stop ?_)
    exact wpAny_pure ⟨rfl, fin h' eb⟩
  self := fun A i s Q E st h => by
    obtain ⟨⟨_, he⟩, _⟩ := st
    exact wpAny_pyIter_enum he h
def iEnumS (ta : TA) : TI := fun σ H R => ta σ H fun vs H1 => ∃ x, vs = [.str x] ∧ R (Ies x) H1
theorem pi_enumS {X : Cx} {e : Expr} {ta : TA} {p pos tpos : Pos} {elts : List Expr} {kk : Nat} (hg : Gl X "enumerate") (hm : X.mg "enumerate" = none) (ha : PA X [e] ta) (hs : starEach [e] X.env = [(false, eval e X.env)] := by rfl) :
    PI X (.Tuple elts kk tpos) (.Call (.Name "enumerate" p) [e] [] pos) (iEnumS ta) := by
  refine ⟨fun pins s σ H R I h => ?_⟩
  refine Call_ (ld_blt I hg hm boot_enumerate (PyProof.Rows.callWith_type1 (thn (ha.run pos pins s σ H _ I h) fun us s1 hq => ?_) hs rfl))
  obtain ⟨vs, H1, I1, r1, x, rfl, q⟩ := hq
  obtain ⟨u, rfl, t, rfl⟩ := vals1 r1
  have ty : strIterType x = "str_ascii_iterator" ∨ strIterType x = "str_iterator" := by
    unfold strIterType
    split
    · exact .inl rfl
    · exact .inr rfl
  refine call_enumerate_str fun h' he hit hsz hk => wpAny_pyIter_enum he ?_
  have I2 : Inv X pins σ H1 { s1 with heap := h' } := I1.kept (t' := s1.toks) hk
  refine ⟨s1.heap.objs.size + 1, [s1.heap.objs.size + 1, s1.heap.objs.size], _, _, H1, rfl, I2, turn_ies (s1.heap.objs.size + 1) s1.heap.objs.size x t _ ty, ⟨⟨.none, he⟩, hit, Nat.succ_ne_self _⟩, fun b hb => ?_, q⟩
  have le : s1.heap.objs.size ≤ b := by
    rcases List.mem_cons.mp hb with z | z
    · rw [z]; exact Nat.le_succ _
    · rw [List.mem_singleton.mp z]; exact Nat.le_refl _
  exact I1.fpOk le (I1.hok.fresh le)
/-- the loop over it, by a word -/
theorem for_enumS {x : Str} {g : TG} {tb : TS} {D : Ends} {σ : L2.St} {H : Hp} (Pv : Nat → L2.St → Hp → Prop) (h0 : Pv 0 σ H)
    (hs : ∀ i c T σ H, x.cps[i]? = some c → Pv i σ H → H T = none → g (.ref T) σ (upd H T (.tup [.int (i : Nat), .str ⟨#[c]⟩])) fun σ2 H2 => tb { D with nx := Pv (i + 1), ct := Pv (i + 1), bk := D.nx } σ2 H2) (hd : ∀ σ H, Pv x.cps.size σ H → D.nx σ H) :
    ∃ W : Nat → Nat → L2.St → Hp → Prop, (∃ m, W 0 m σ H) ∧ ∀ i m σ H, W i m σ H →
      ((Ies x).stop i H ∧ D.nx σ H) ∨ ((Ies x).go i H ∧ ∃ N : L2.St → Hp → Prop, (∀ σ' H', N σ' H' → ∃ m', m' < m ∧ W (i + 1) m' σ' H') ∧ ∀ v H', (Ies x).yld i H v H' → g v σ H' fun σ2 H2 => tb { D with nx := N, ct := N, bk := D.nx } σ2 H2) := by
  refine ⟨fun i m σ H => m = x.cps.size - i ∧ i ≤ x.cps.size ∧ Pv i σ H, ⟨_, rfl, Nat.zero_le _, h0⟩, ?_⟩
  rintro i m σ H ⟨rfl, hi, p⟩
  rcases Nat.lt_or_ge i x.cps.size with c | c
  · refine .inr ⟨c, Pv (i + 1), fun σ' H' p' => ⟨_, by omega, rfl, c, p'⟩, fun v H' y => ?_⟩
    obtain ⟨T, z, rfl, hT, hz, rfl⟩ := y
    exact hs i z T σ H hz p hT
  · obtain rfl : i = x.cps.size := by omega
    exact .inl ⟨Nat.le_refl _, hd σ H p⟩
/-! ### f(k = v, ..), keywords alone -/
structure KB0 (K : PySem.W.Frag) (fd : FuncData) (ps ks : List Str) (g : List Value → List Value) (gV : List V → List V) : Prop where
  to : ∀ (s : Shared) (ws : List Value), ws.length = ks.length → BindsTo s fd ⟨[], ks.zip ws⟩ (ps.zip (g ws))
  rel : ∀ (zs : List V) (ws : List Value), zs.length = ks.length → Vals zs ws → Vals (gV zs) (g ws)
def tCallK0 (n : Nat) (sp : Sp) (gV : List V → List V) (E : XK) (tk : TA) : TE := fun σ H Q => tk σ H fun zs H2 => zs.length = n ∧ sp (gV zs) H2 Q E
theorem pe_callK0 {X : Cx} {CX : CXT} {k : Nat} {f : Addr} {fd : FuncData} {ps ks : List Str} {sp : Sp} {E : XK} {x : Str} {p pos : Pos} {kws : List Keyword} {tk : TA} {g : List Value → List Value} {gV : List V → List V}
    (F : FnOk X.prog X.w X.K X.mg X.base CX k f fd ps sp) (hr : Room k X.A) (hg : Gl X x) (hm : X.mg x = some (.ref f)) (hk : PySem.W.keepIn X.K (.ref f) = true) (hb : KB0 X.K fd ps ks g gV) (hx : Passes CX X E) (hkw : PK X kws tk)
    (hall : (backToKw pos (keywordEach kws X.env)).all (·.1.isSome) = true := by rfl) (hks : (backToKw pos (keywordEach kws X.env)).filterMap (·.1) = ks := by rfl) (hdb : (x == ("__debug__" : Str)) = false := by decide)
    (hpl : ((backTo pos (starEach [] X.env)).any (·.1) || (backToKw pos (keywordEach kws X.env)).any (·.1.isNone)) = false := by rfl) :
    PE X (.Call (.Name x p) [] kws pos) (tCallK0 ks.length sp gV E tk) := by
  refine ⟨fun pins s σ H Q I h => wpAny_Call_Name_kw (ld_glob I hg hm ?_ hdb)⟩
  refine PySem.W.callWith_KW0 (h₀ := X.base) I.ok.mod.kin hk hall (thn (hkw.run pos pins s σ H _ I h) fun ws s2 hq => ?_) hpl
  obtain ⟨zs, H2, I2, rz, hl, q⟩ := hq
  refine ⟨I2.kIn, ?_⟩
  rw [hks]
  have lw : ws.length = ks.length := by rw [← rz.length]; exact hl
  refine wpAny_call (codeAny_mono (F.run X.A X.stack s2 H2 ⟨[], ks.zip ws⟩ (g ws) (gV zs) Q E hr I2.env0 (hb.to s2 ws lw) (hb.rel zs ws hl rz) q) fun r s' hq => ?_)
  match r, hq with
  | .error e, hq => exact hx pins σ H2 s2 e s' I2 hq
  | .ok (.ret u), hq => exact I2.after hq
theorem kb1 {K : PySem.W.Frag} {x qual : Str} {st : Stmt} {f : Addr} {fd : FuncData} {p : Str} (F : Fun K x qual st f fd)
    (h : ∀ (kV doc pm : Value) (an : Option Addr) (cdv ct : Value) (u : Value), bindArgs (PySem.W.fnOf x qual (defArgs st) (defBody st) (defScope st) .none kV doc pm an cdv ct) ⟨[], [(p, u)]⟩ = pure [(p, u)]) : KB0 K fd [p] [p] (fun ws => ws) (fun zs => zs) := by
  obtain ⟨oc, od, kV, doc, pm, an, cdv, ct, osl, rfl, lk, hcd⟩ := F.ex
  refine ⟨fun s ws hl => ?_, fun _ _ _ r => r⟩
  match ws, hl with
  | [u], _ => exact BindsTo.of_eq (h kV doc pm an cdv ct u)
end NB
set_option linter.all false
set_option maxRecDepth 100000
set_option maxHeartbeats 4000000
namespace NB
open PySem PySem.Spec PyProof.Rows L2
/-! ### how long data is, written out -/
mutual
def wd : PyData → Nat
  | .none => 4
  | .bool _ => 5
  | .int _ => 1921
  | .str x => 10 * x.length + 2
  | .list xs => wdAll xs + 4
  | .tuple xs => wdAll xs + 4
  | .dict _ => 0
def wdAll : List PyData → Nat
  | [] => 0
  | x :: r => wd x + 2 + wdAll r
end
mutual
def okd : PyData → Prop
  | .none => True
  | .bool _ => True
  | .int i => i.natAbs.log2 < 1920
  | .str x => ∀ c ∈ x.cps.toList, c < 16 ^ 8
  | .list xs => okAll xs
  | .tuple xs => okAll xs
  | .dict _ => False
def okAll : List PyData → Prop
  | [] => True
  | x :: r => okd x ∧ okAll r
end
theorem piled_le : ∀ (ds : List PyData), (∀ d ∈ ds, d.shown.length ≤ wd d) → piled (PyData.shownAll ds) ≤ wdAll ds
  | [], _ => Nat.le_refl _
  | d :: r, h => by
    simp only [PyData.shownAll, piled_cons, wdAll]
    have h1 := h d List.mem_cons_self
    have h2 := piled_le r fun x hx => h x (List.mem_cons_of_mem _ hx)
    omega
theorem listText_le (ts : List Str) : (listText ts).length ≤ piled ts + 2 := by
  cases ts with
  | nil => exact Nat.le_refl _
  | cons t r =>
    have h := textFrom_length_pos r 1 (("[" : Str) ++ (if (0 : Nat) > 0 then ", " else "" : String) ++ t) (Nat.succ_pos 0)
    have e : ((("[" : Str) ++ (if (0 : Nat) > 0 then ", " else "" : String) ++ t)).length = 1 + t.length := by rw [strLen_append, strLen_append]; rfl
    have x : (listText (t :: r)).length = (textFrom 0 "[" (t :: r)).length + 1 := by
      unfold listText
      rw [strLen_append]; rfl
    have y : textFrom 0 "[" (t :: r) = textFrom 1 (("[" : Str) ++ (if (0 : Nat) > 0 then ", " else "" : String) ++ t) r := rfl
    rw [x, y, h, e, piled_cons]
    omega
theorem tupleText_le (ts : List Str) : (tupleText ts).length ≤ piled ts + 4 := by
  unfold tupleText
  rw [strLen_append, strLen_append]
  have e1 : ((("(" : String) : Str)).length = 1 := rfl
  have e3 : (((if ts.length == 1 then ",)" else ")" : String) : Str)).length ≤ 2 := by split <;> decide
  by_cases h : ts = []
  · subst h
    show 1 + 0 + _ ≤ _
    omega
  · have := join_length_add ts h
    omega
mutual
theorem shown_le : ∀ d : PyData, okd d → d.shown.length ≤ wd d ∧ d.showable = true ∧ d.hasDict = false
  | .none, _ => by simp only [PyData.shown, PyData.showable, PyData.hasDict, wd]; exact ⟨by decide, trivial, trivial⟩
  | .bool b, _ => by simp only [PyData.shown, PyData.showable, PyData.hasDict, wd]; cases b <;> exact ⟨by decide, trivial, trivial⟩
  | .int i, h => by
    simp only [okd] at h
    simp only [PyData.shown, PyData.showable, PyData.hasDict, wd]
    exact ⟨int_text_len_1921 h, by simpa using h, trivial⟩
  | .str x, h => by
    simp only [okd] at h
    simp only [PyData.shown, PyData.showable, PyData.hasDict, wd]
    exact ⟨StrLaws.reprText_len x h, trivial, trivial⟩
  | .list xs, h => by
    simp only [okd] at h
    obtain ⟨a, b, c⟩ := shown_leA xs h
    simp only [PyData.shown, PyData.showable, PyData.hasDict, wd]
    have := listText_le (PyData.shownAll xs)
    exact ⟨by omega, b, c⟩
  | .tuple xs, h => by
    simp only [okd] at h
    obtain ⟨a, b, c⟩ := shown_leA xs h
    simp only [PyData.shown, PyData.showable, PyData.hasDict, wd]
    have := tupleText_le (PyData.shownAll xs)
    exact ⟨by omega, b, c⟩
  | .dict _, h => by simp only [okd] at h
theorem shown_leA : ∀ xs : List PyData, okAll xs → piled (PyData.shownAll xs) ≤ wdAll xs ∧ PyData.showableAll xs = true ∧ PyData.hasDictAll xs = false
  | [], _ => by simp only [PyData.shownAll, PyData.showableAll, PyData.hasDictAll, wdAll]; exact ⟨Nat.le_refl _, trivial, trivial⟩
  | d :: r, h => by
    simp only [okAll] at h
    obtain ⟨a, b, c⟩ := shown_le d h.1
    obtain ⟨a', b', c'⟩ := shown_leA r h.2
    simp only [PyData.shownAll, PyData.showableAll, PyData.hasDictAll, wdAll, piled_cons, b, b', c, c']
    exact ⟨by omega, by rfl, by rfl⟩
end
theorem Sh.of {d : PyData} (h : okd d) (hd : d.depth ≤ 64) (hw : wd d ≤ 16777216) : Sh d := by
  obtain ⟨a, b, c⟩ := shown_le d h
  exact ⟨b, c, hd, Nat.le_trans a (by rw [sizeLine_eq]; exact hw)⟩
theorem okInts : ∀ ns : List Int, (∀ n ∈ ns, n.natAbs.log2 < 1920) → okAll (ns.map PyData.int)
  | [], _ => by simp only [List.map_nil, okAll]
  | n :: r, h => by
    simp only [List.map_cons, okAll, okd]
    exact ⟨h n List.mem_cons_self, okInts r fun x hx => h x (List.mem_cons_of_mem _ hx)⟩
theorem wdInts : ∀ ns : List Int, wdAll (ns.map PyData.int) = 1923 * ns.length
  | [] => by simp only [List.map_nil, wdAll, List.length_nil]
  | n :: r => by simp only [List.map_cons, wdAll, wd, wdInts r, List.length_cons]; omega
theorem log_small {n : Int} (h0 : -1000000000000 ≤ n) (h1 : n ≤ 1000000000000) : n.natAbs.log2 < 1920 := by
  by_cases e : n.natAbs = 0
  · rw [e]; decide
  have : n.natAbs < 2 ^ 1920 := Nat.lt_of_le_of_lt (by omega : n.natAbs ≤ 1000000000000) (by decide)
  exact (Nat.log2_lt e).mpr this
theorem shInts {ns : List Int} (h : ∀ n ∈ ns, -1000000000000 ≤ n ∧ n ≤ 1000000000000) (hl : ns.length ≤ 5000) : Sh (.tuple (ns.map PyData.int)) :=
  Sh.of (by simp only [okd]; exact okInts ns fun n hn => log_small (h n hn).1 (h n hn).2) (by simp [PyData.depth, depInts]) (by simp only [wd, wdInts]; omega)
theorem dpStrs {K : PySem.W.Frag} {H : Hp} : ∀ xs : List Str, DpAll K H (xs.map V.str) (xs.map PyData.str)
  | [] => .nil
  | x :: r => .cons (.str x) (dpStrs r)
theorem depStrs : ∀ xs : List Str, PyData.depthAll (xs.map PyData.str) = 0
  | [] => by simp [PyData.depthAll]
  | n :: r => by simp [PyData.depthAll, PyData.depth, depStrs r]
theorem okStrs : ∀ xs : List Str, (∀ x ∈ xs, ∀ c ∈ x.cps.toList, c < 16 ^ 8) → okAll (xs.map PyData.str)
  | [], _ => by simp only [List.map_nil, okAll]
  | x :: r, h => by
    simp only [List.map_cons, okAll, okd]
    exact ⟨h x List.mem_cons_self, okStrs r fun y hy => h y (List.mem_cons_of_mem _ hy)⟩
theorem wdStrs {m : Nat} : ∀ xs : List Str, (∀ x ∈ xs, x.length ≤ m) → wdAll (xs.map PyData.str) ≤ (10 * m + 4) * xs.length
  | [], _ => by simp only [List.map_nil, wdAll, List.length_nil]; exact Nat.zero_le _
  | x :: r, h => by
    have h1 := h x List.mem_cons_self
    have h2 := wdStrs r fun y hy => h y (List.mem_cons_of_mem _ hy)
    simp only [List.map_cons, wdAll, wd, List.length_cons, Nat.mul_add, Nat.mul_one]
    omega
theorem shStrs {xs : List Str} (h : ∀ x ∈ xs, ∀ c ∈ x.cps.toList, c < 16 ^ 8) (hm : ∀ x ∈ xs, x.length ≤ 1000) (hl : xs.length ≤ 1000) : Sh (.tuple (xs.map PyData.str)) :=
  Sh.of (by simp only [okd]; exact okStrs xs h) (by simp [PyData.depth, depStrs]) (by
    have q := wdStrs (m := 1000) xs hm
    simp only [wd]
    have : (10 * 1000 + 4) * xs.length ≤ 10004 * 1000 := Nat.mul_le_mul_left _ hl
    omega)
end NB
set_option linter.all false
set_option maxRecDepth 100000
set_option maxHeartbeats 4000000
namespace PySem
namespace NBx
open Sem (wp)
open Builtin Builtin.List AutoSeq1
theorem ext_tup (l : Addr) (items : Array Value) (n : Nat) (b : Addr) (items2 : Array Value) (n2 : Nat) (dct : Option Addr) (slo : Array (Option Value)) (hs0 : ¬(!items.isEmpty && Builtin.List.listTooLong (items.size + items2.size)) = true) (hs1 : items.size ≤ sizeLine) (hs2 : items.size + items2.size ≤ sizeLine + 1) :
    Meets (Builtin.«list.extend» ⟨[.ref l, .ref b], []⟩) (fun _ R s => s.heap.get? l = some { cls := .type "list", dict := none, data := .seq items n, slots := #[] } ∧ s.heap.get? b = some { cls := .type "tuple", dict := dct, data := .seq items2 n2, slots := slo } ∧
      R (.ok (.ret Value.none)) { s with heap := s.heap.update l (Obj.mapSeq fun x => x ++ items2), toks := s.toks }) :=
  .of_wp fun prog w A R s h => by
    obtain ⟨hp, g, d, tk, os⟩ := s
    obtain ⟨hl, hb, h⟩ := h
    have f1 := idx_int
    have f2 := sub_tuple_tuple
    have f3 := sub_list_list
    have f4 := sub_tuple_list
    have f5 := sub_list_tuple
    have hz' : (items ++ items2).size ≤ sizeLine + 1 := by rw [Array.size_append]; exact hs2
    wp_walk using (wpAny_updateSeq hl rfl (hz := hs1) (_hz' := hz')), wpAny_loadPart' hl, wpAny_loadPart' hb
    exact ⟨_, rfl, h⟩
end NBx
end PySem
namespace NB
open PySem PySem.Spec PyProof.Rows L2
/-! ### xs.extend(a tuple that was made) -/
theorem mt_extendT {X : Cx} : MtM X "list.extend" (fun x vs H Q => ∃ l b xs zs, x = .ref l ∧ vs = [.ref b] ∧ H l = some (.lst xs) ∧ H b = some (.tup zs) ∧ xs.length + zs.length ≤ sizeLine ∧ Q .non (upd H l (.lst (xs ++ zs)))) := by
  intro pins s σ H x vs v us Q I rx rv h
  obtain ⟨l, b, xs, zs, rfl, rfl, hH, hB, hz, q⟩ := h
  cases rx
  obtain ⟨u, rfl, ru⟩ := rv.one
  cases ru
  obtain ⟨z, its, n, r, hl, e⟩ := I.lstM hH
  obtain ⟨its2, r2, ⟨⟨c2, dct, d2, slo⟩, e2, hc2, n2, hd2⟩, z2⟩ := I.tuple (SqT.of hB)
  cases hc2
  cases hd2
  have hl2 := r2.length
  have big : its.toArray.size + its2.toArray.size ≤ sizeLine := by rw [List.size_toArray, List.size_toArray]; omega
  have nlong : ¬ (!its.toArray.isEmpty && Builtin.List.listTooLong (its.toArray.size + its2.toArray.size)) = true := by
    rw [notLongL big, Bool.and_false]
    exact Bool.false_ne_true
  refine call_meets F.slot_list_extend ⟨_, e, rfl⟩ F.entry_list_extend (F.args_list_extend_2 _ _)
    (PySem.NBx.ext_tup l its.toArray n b its2.toArray n2 dct slo nlong (by rw [List.size_toArray]; omega) (by omega)) ⟨e, e2, ?_⟩
  exact ⟨.non, _, I.lset (its' := its ++ its2) hH e (by simp) (r.append r2) (by rw [List.length_append]; omega), rfl, q⟩
end NB
set_option linter.all false
set_option maxRecDepth 100000
set_option maxHeartbeats 4000000
namespace NB
open PySem PySem.Spec PyProof.Rows L2
/-! ### min, max of a tuple of ints -/
section
variable {prog : Program} {w : World} {A : Around} {E : Value → Shared → Prop} {s : Shared} {l : Addr} {xs : Array (Int × Tok)}
theorem iter_intTup {Q : Value → Shared → Prop} (hl : s.heap.IsTuple l (intItems xs))
    (h : ∀ s₂ : Shared, s₂ = { s with heap := s.heap.push { cls := .type "tuple_iterator", data := .fields #[.ref l, .int 0 0] } } →
      (s₂.heap.IsTupleIter s.heap.objs.size l 0 ∧ s₂.heap.IsTuple l (intItems xs)) → (∀ b ∈ [s.heap.objs.size, l], b < s₂.heap.objs.size) → l ≠ s.heap.objs.size → Q (.ref s.heap.objs.size) s₂) :
    wpAny (model prog w) A (pyIter (.ref l)) Q E s := by
  have hlt : l < s.heap.objs.size := by obtain ⟨_, e, _⟩ := hl; exact Heap.lt_size e
  refine wpAny_pyIter_tuple hl (h _ rfl ⟨⟨_, Heap.get?_push_size _ rfl, rfl, rfl⟩, hl.push _⟩ (fun b hb => ?_) (Nat.ne_of_lt hlt))
  show b < (s.heap.push _).objs.size
  rw [Heap.size_push]
  rcases List.mem_cons.mp hb with rfl | hb
  · exact Nat.lt_succ_self _
  · rcases List.mem_cons.mp hb with rfl | hb
    · exact Nat.lt_succ_of_lt hlt
    · cases hb
theorem old_keptT {h' : Heap} (hk : ∀ b o, b ∉ [s.heap.objs.size] → (s.heap.push { cls := .type "tuple_iterator", data := .fields #[.ref l, .int 0 0] }).get? b = some o → h'.get? b = some o) :
    ∀ b o, s.heap.get? b = some o → h'.get? b = some o := fun b o e => by
  refine hk b o (fun hm => ?_) (Heap.get?_push_of_some _ e)
  rcases List.mem_cons.mp hm with e1 | hm
  · exact absurd (e1 ▸ Heap.lt_size e) (Nat.lt_irrefl _)
  · cases hm
theorem max_intTup {Q : Value → Shared → Prop} (hh : A.handled = none) (hl : s.heap.IsTuple l (intItems xs)) (hne : 0 < xs.size)
    (h : ∀ v h' tk, (intItems xs)[argBest (fun i j => decide (numAt xs i > numAt xs j)) (xs.size - 1)]? = some v → (∀ b o, s.heap.get? b = some o → h'.get? b = some o) → Q v { s with heap := h', toks := tk }) :
    wpAny (model prog w) A (call (.builtin "max") [.ref l]) Q E s := by
  refine call_max_walk (iter_intTup hl fun s₂ e st hfp hlI => ?_)
  subst e
  refine ⟨_, _, _, _, _, _, _, rfl, Walks.tuple (A := A.in1) hh _ l hlI (intItems xs), st, hfp, by simpa [intItems] using hne, CmpOf.ints_gt (numAt xs) (fun _ _ => intItems_at), fun v h' tk hP hk => ?_⟩
  exact h v h' tk (by simpa [intItems] using hP) (old_keptT hk)
theorem min_intTup {Q : Value → Shared → Prop} (hh : A.handled = none) (hl : s.heap.IsTuple l (intItems xs)) (hne : 0 < xs.size)
    (h : ∀ v h' tk, (intItems xs)[argBest (fun i j => decide (numAt xs i < numAt xs j)) (xs.size - 1)]? = some v → (∀ b o, s.heap.get? b = some o → h'.get? b = some o) → Q v { s with heap := h', toks := tk }) :
    wpAny (model prog w) A (call (.builtin "min") [.ref l]) Q E s := by
  refine call_min_walk (iter_intTup hl fun s₂ e st hfp hlI => ?_)
  subst e
  refine ⟨_, _, _, _, _, _, _, rfl, Walks.tuple (A := A.in1) hh _ l hlI (intItems xs), st, hfp, by simpa [intItems] using hne, CmpOf.ints_lt (numAt xs) (fun _ _ => intItems_at), fun v h' tk hP hk => ?_⟩
  exact h v h' tk (by simpa [intItems] using hP) (old_keptT hk)
theorem max_rawT {its : List Value} {ns : List Int} {Q : Value → Shared → Prop} (hh : A.handled = none) (hl : s.heap.IsTuple l its.toArray) (hi : IntsAre its ns) (hne : 0 < ns.length)
    (h : ∀ h' tk M t', (∀ b o, s.heap.get? b = some o → h'.get? b = some o) → M ∈ ns → (∀ a, a ∈ ns → a ≤ M) → Q (.int M t') { s with heap := h', toks := tk }) : wpAny (model prog w) A (call (.builtin "max") [.ref l]) Q E s := by
  obtain ⟨xs, e⟩ := hi.allInts.items
  have hn : numsOf (intItems xs).toList = ns := by rw [← e]; exact hi.numsOf
  rw [nums_intItems] at hn
  subst hn
  rw [e] at hl
  have hsz : 0 < xs.size := by simpa using hne
  refine max_intTup hh hl hsz fun v h' tk hv hk => ?_
  obtain ⟨t, rfl⟩ := intItems_at hv
  obtain ⟨h1, h2⟩ := argBest_gt (numAt xs) (xs.size - 1)
  refine h h' tk _ t hk ?_ fun a ha => ?_
  · rw [numAt_eq]; exact PySem.getD_mem (by rw [List.length_map, Array.length_toList]; omega)
  · obtain ⟨j, hj, rfl⟩ := mem_getD ha
    rw [List.length_map, Array.length_toList] at hj
    rw [← numAt_eq]; exact h2 j (by omega)
theorem min_rawT {its : List Value} {ns : List Int} {Q : Value → Shared → Prop} (hh : A.handled = none) (hl : s.heap.IsTuple l its.toArray) (hi : IntsAre its ns) (hne : 0 < ns.length)
    (h : ∀ h' tk M t', (∀ b o, s.heap.get? b = some o → h'.get? b = some o) → M ∈ ns → (∀ a, a ∈ ns → M ≤ a) → Q (.int M t') { s with heap := h', toks := tk }) : wpAny (model prog w) A (call (.builtin "min") [.ref l]) Q E s := by
  obtain ⟨xs, e⟩ := hi.allInts.items
  have hn : numsOf (intItems xs).toList = ns := by rw [← e]; exact hi.numsOf
  rw [nums_intItems] at hn
  subst hn
  rw [e] at hl
  have hsz : 0 < xs.size := by simpa using hne
  refine min_intTup hh hl hsz fun v h' tk hv hk => ?_
  obtain ⟨t, rfl⟩ := intItems_at hv
  obtain ⟨h1, h2⟩ := argBest_lt (numAt xs) (xs.size - 1)
  refine h h' tk _ t hk ?_ fun a ha => ?_
  · rw [numAt_eq]; exact PySem.getD_mem (by rw [List.length_map, Array.length_toList]; omega)
  · obtain ⟨j, hj, rfl⟩ := mem_getD ha
    rw [List.length_map, Array.length_toList] at hj
    rw [← numAt_eq]; exact h2 j (by omega)
end
def rMaxT (K : PySem.W.Frag) : List V → Hp → VK → Prop := fun vs H Q => ∃ (a : Addr) (ns : List Int), vs = [V.ref a] ∧ SqT K H a (ns.map V.int) ∧ 0 < ns.length ∧ ∀ m, m ∈ ns → (∀ y, y ∈ ns → y ≤ m) → Q (.int m) H
theorem cr_maxT {X : Cx} (hc : X.calm = true) : CallR X (.builtin "max") (rMaxT X.K) := by
  intro pins s σ H vs us Q I r h
  obtain ⟨a, ns, rfl, hs, hne, q⟩ := h
  obtain ⟨its, rv, hl, _⟩ := I.tuple hs
  rw [Vals.ref1 r]
  exact max_rawT (I.ok.hd hc) hl rv.ints hne fun h' tk m t' hk h1 h2 => ⟨.int _, H, I.kept hk, ⟨_, rfl⟩, q m h1 h2⟩
def rMinT (K : PySem.W.Frag) : List V → Hp → VK → Prop := fun vs H Q => ∃ (a : Addr) (ns : List Int), vs = [V.ref a] ∧ SqT K H a (ns.map V.int) ∧ 0 < ns.length ∧ ∀ m, m ∈ ns → (∀ y, y ∈ ns → m ≤ y) → Q (.int m) H
theorem cr_minT {X : Cx} (hc : X.calm = true) : CallR X (.builtin "min") (rMinT X.K) := by
  intro pins s σ H vs us Q I r h
  obtain ⟨a, ns, rfl, hs, hne, q⟩ := h
  obtain ⟨its, rv, hl, _⟩ := I.tuple hs
  rw [Vals.ref1 r]
  exact min_rawT (I.ok.hd hc) hl rv.ints hne fun h' tk m t' hk h1 h2 => ⟨.int _, H, I.kept hk, ⟨_, rfl⟩, q m h1 h2⟩
end NB
set_option linter.all false
set_option maxRecDepth 100000
set_option maxHeartbeats 1000000
namespace SV
open PySem PySem.Spec PyProof.Rows L2 NB

/-! ### data, store, results -/
inductive D where
  | p (x : PyData) | ref (r : Nat) | tup (xs : List D) | glb (v : V) | scr (ns : List Int) | exn (a dx : Addr) (x : D)
inductive Ob where
  | lst (xs : List D)
  | dK (kvs : List (Key × D))
  | tabs (Ps : List Addr)
abbrev Sto := List Ob
abbrev En := List (Option D)
structure Exn where
  cls : Value
  arg : Option D
inductive R (α : Type) where
  | ok (x : α) (S : Sto) | exc (e : Exn) (E : En) (S : Sto) | bad
@[simp] def R.bind {α β : Type} : R α → (α → Sto → R β) → R β
  | .ok x S, f => f x S
  | .exc e E S, _ => .exc e E S
  | .bad, _ => .bad
structure Vw where
  M : List Addr
  Z : List Addr

section
variable (K : PySem.W.Frag)
def Fz (H : Hp) (w : Vw) (a : Addr) (xs : List V) : Prop := H a = some (.lst xs) ∧ a ∉ w.M ∧ a ∉ w.Z
/-- the script's list: it is never changed -/
def Sc (H : Hp) (w : Vw) (a : Addr) (ns : List Int) : Prop := (Rd H a (.lst (ns.map V.int)) ∧ a ∉ w.M ∧ a ∉ w.Z) ∨ SqL K (fun _ => none) a (ns.map V.int)
mutual
inductive RP (H : Hp) (w : Vw) : V → PyData → Prop
  | non : RP H w .non .none
  | bl (b : Bool) : RP H w (.bl b) (.bool b)
  | int (i : Int) : RP H w (.int i) (.int i)
  | str (x : Str) : RP H w (.str x) (.str x)
  | lst {a : Addr} {xs : List V} {ds : List PyData} : Fz H w a xs → RPs H w xs ds → RP H w (.ref a) (.list ds)
  | tup {a : Addr} {xs : List V} {ds : List PyData} : SqT K H a xs → RPs H w xs ds → RP H w (.ref a) (.tuple ds)
inductive RPs (H : Hp) (w : Vw) : List V → List PyData → Prop
  | nil : RPs H w [] []
  | cons {v : V} {vs : List V} {d : PyData} {ds : List PyData} : RP H w v d → RPs H w vs ds → RPs H w (v :: vs) (d :: ds)
end
mutual
inductive Rep (H : Hp) (w : Vw) : V → D → Prop
  | p {v : V} {x : PyData} : RP K H w v x → Rep H w v (.p x)
  | ref {r : Nat} {a : Addr} : w.M[r]? = some a → Rep H w (.ref a) (.ref r)
  | tup {a : Addr} {xs : List V} {ds : List D} : SqT K H a xs → Reps H w xs ds → Rep H w (.ref a) (.tup ds)
  | glb (v : V) : Rep H w v (.glb v)
  | scr {a : Addr} {ns : List Int} : Sc K H w a ns → Rep H w (.ref a) (.scr ns)
  | exn {a dx : Addr} {u : V} {x : D} : H dx = some (.xd [("at", u)]) → dx ∉ w.M → dx ∉ w.Z → Rep H w u x → Rep H w (.ref a) (.exn a dx x)
inductive Reps (H : Hp) (w : Vw) : List V → List D → Prop
  | nil : Reps H w [] []
  | cons {v : V} {vs : List V} {d : D} {ds : List D} : Rep H w v d → Reps H w vs ds → Reps H w (v :: vs) (d :: ds)
end
/-- a table of code objects grows -/
def NT (o : HO) : Prop := ∀ ps, o ≠ .tbl ps
theorem nt_lst {xs : List V} : NT (.lst xs) := fun _ h => by cases h
/-- what stood before still stands; the things that are named by nothing (Z) may have changed -/
structure ExtW (H : Hp) (w : Vw) (H' : Hp) (w' : Vw) : Prop where
  z : ∀ a ∈ w'.Z, a ∈ w.Z ∨ H a = none
  m : ∃ N, w'.M = w.M ++ N ∧ ∀ a ∈ N, H a = none ∨ a ∈ w.Z
  kw : ∀ a o, H a = some o → NT o → a ∉ w.M → a ∉ w.Z → H' a = some o
  t : ∀ a xs, SqT K H a xs → SqT K H' a xs
  s : ∀ a o, H a = some o → ∃ o', H' a = some o'
  b : ∀ P, GxR.TabG H P → GxR.TabG H' P
/-- .. they have not -/
structure Ext (H : Hp) (w : Vw) (H' : Hp) (w' : Vw) : Prop where
  z : w'.Z = w.Z
  m : ∃ N, w'.M = w.M ++ N ∧ ∀ a ∈ N, H a = none
  k : ∀ a o, H a = some o → NT o → a ∉ w.M → H' a = some o
  t : ∀ a xs, SqT K H a xs → SqT K H' a xs
  s : ∀ a o, H a = some o → ∃ o', H' a = some o'
  b : ∀ P, GxR.TabG H P → GxR.TabG H' P
def ObR (H : Hp) (w : Vw) : HO → Ob → Prop
  | .lst vs, .lst ds => Reps K H w vs ds
  | .dK kvs, .dK kds => Paired (fun (p : Key × V) (q : Key × D) => p.1 = q.1 ∧ Rep K H w p.2 q.2) kvs kds
  | .tbl _, .tabs Ps => ∀ P ∈ Ps, GxR.TabG H P
  | _, _ => False
structure StR (H : Hp) (w : Vw) (S : Sto) : Prop where
  len : w.M.length = S.length
  nd : w.M.Nodup
  nz : ∀ a ∈ w.M, a ∉ w.Z
  zt : ∀ a ∈ w.Z, ∃ o, H a = some o
  ob : ∀ (r : Nat) (a : Addr) (o : Ob), w.M[r]? = some a → S[r]? = some o → ∃ h, H a = some h ∧ ObR K H w h o
structure EnR (H : Hp) (w : Vw) (E : En) (σ : L2.St) : Prop where
  len : E.length = σ.length
  at_ : ∀ (i : Nat) (d : D), E[i]? = some (some d) → ∃ v, σ[i]? = some (some v) ∧ Rep K H w v d
/-- how an exception stands: its class, its argument -/
def ExR (H : Hp) (w : Vw) (cls : Value) (d : Option Addr) (e : Exn) : Prop := cls = e.cls ∧
  match e.arg with
  | none => d = none
  | some x => ∃ dx v, d = some dx ∧ H dx = some (.xd [("at", v)]) ∧ dx ∉ w.M ∧ dx ∉ w.Z ∧ Rep K H w v x
/-- what is wanted behind a result -/
def Post (W : WX) (H : Hp) (w : Vw) {α : Type} (r : R α) (κ : α → Sto → Hp → Vw → Prop) : Prop :=
  match r with
  | .ok x S => ∀ H' w', Ext K H w H' w' → StR K H' w' S → κ x S H' w'
  | .exc e E S => ∀ cls d H' w' σ, Ext K H w H' w' → ExR K H' w' cls d e → EnR K H' w' E σ → StR K H' w' S → W cls d σ H'
  | .bad => False
end

section
variable {K : PySem.W.Frag} {H H' H1 H2 : Hp} {w w' w1 w2 : Vw} {a p : Addr} {v : V} {vs xs : List V} {d : D} {ds : List D} {S : Sto} {E : En} {σ : L2.St}
theorem rd_empty {u : HO} : ¬ Rd (fun _ => none) a u := fun h => by
  rcases h with h | ⟨o, h⟩
  · cases h
  · cases h
theorem sqL_split (h : SqL K H a xs) : Rd H a (.lst xs) ∨ SqL K (fun _ => none) a xs := by
  rcases h with h | h
  · exact .inl h
  · exact .inr (.inr h)
theorem sqL_k (h : SqL K (fun _ => none) a xs) : SqL K H a xs := by
  rcases h with h | h
  · exact (rd_empty h).elim
  · exact .inr h
theorem Fz.sq (h : Fz H w a xs) : SqL K H a xs := SqL.of h.1
theorem Ext.wk (e : Ext K H w H' w') : ExtW K H w H' w' := ⟨fun a h => .inl (by rw [← e.z]; exact h), (let ⟨N, h1, h2⟩ := e.m; ⟨N, h1, fun a h => .inl (h2 a h)⟩), fun a o h n m _ => e.k a o h n m, e.t, e.s, e.b⟩
theorem Ext.refl : Ext K H w H w := ⟨rfl, ⟨[], by simp, by simp⟩, fun _ _ e _ _ => e, fun _ _ h => h, fun _ o e => ⟨o, e⟩, fun _ h => h⟩
theorem ExtW.nm (e : ExtW K H w H' w') {b : Addr} {o : HO} (hb : H b = some o) (hm : b ∉ w.M) (hz : b ∉ w.Z) : b ∉ w'.M := fun hn => by
  obtain ⟨N, hN, fN⟩ := e.m
  rw [hN] at hn
  rcases List.mem_append.mp hn with z | z
  · exact hm z
  · rcases fN b z with q | q
    · rw [q] at hb; cases hb
    · exact hz q
theorem Ext.nm (e : Ext K H w H' w') {b : Addr} {o : HO} (hb : H b = some o) (hm : b ∉ w.M) : b ∉ w'.M := fun hn => by
  obtain ⟨N, hN, fN⟩ := e.m
  rw [hN] at hn
  rcases List.mem_append.mp hn with z | z
  · exact hm z
  · rw [fN b z] at hb; cases hb
theorem Ext.trans (e : Ext K H w H1 w1) (f : Ext K H1 w1 H2 w2) : Ext K H w H2 w2 := by
  obtain ⟨N, hN, fN⟩ := e.m
  obtain ⟨N', hN', fN'⟩ := f.m
  refine ⟨f.z.trans e.z, ⟨N ++ N', by rw [hN', hN, List.append_assoc], fun b hb => ?_⟩, fun b o hb hn hm => f.k b o (e.k b o hb hn hm) hn (e.nm hb hm), fun b ys h => f.t b ys (e.t b ys h), fun b o hb => ?_, fun P h => f.b P (e.b P h)⟩
  · rcases List.mem_append.mp hb with z | z
    · exact fN b z
    · cases q : H b with
      | none => rfl
      | some o =>
        obtain ⟨o', h'⟩ := e.s b o q
        rw [fN' b z] at h'; cases h'
  · obtain ⟨o', h'⟩ := e.s b o hb
    exact f.s b o' h'
theorem ExtW.nz (e : ExtW K H w H' w') {o : HO} (h : H a = some o) (hz : a ∉ w.Z) : a ∉ w'.Z := fun c => by
  rcases e.z a c with q | q
  · exact hz q
  · rw [h] at q; cases q
theorem ExtW.back (e : ExtW K H w H' w') (h : H' a = none) : H a = none := by
  cases q : H a with
  | none => rfl
  | some o =>
    obtain ⟨o', h'⟩ := e.s a o q
    rw [h] at h'; cases h'
theorem ExtW.trans (e : ExtW K H w H1 w1) (f : ExtW K H1 w1 H2 w2) : ExtW K H w H2 w2 := by
  obtain ⟨N, hN, fN⟩ := e.m
  obtain ⟨N', hN', fN'⟩ := f.m
  have zz : ∀ b, H1 b = none ∨ b ∈ w1.Z → H b = none ∨ b ∈ w.Z := fun b h => by
    rcases h with h | h
    · exact .inl (e.back h)
    · exact (e.z b h).symm
  refine ⟨fun b h => ?_, ⟨N ++ N', by rw [hN', hN, List.append_assoc], fun b hb => ?_⟩, fun b o hb hn hm hz => f.kw b o (e.kw b o hb hn hm hz) hn (e.nm hb hm hz) (e.nz hb hz), fun b ys h => f.t b ys (e.t b ys h), fun b o hb => ?_, fun P h => f.b P (e.b P h)⟩
  · rcases f.z b h with z | z
    · exact e.z b z
    · exact .inr (e.back z)
  · rcases List.mem_append.mp hb with z | z
    · exact fN b z
    · exact zz b (fN' b z)
  · obtain ⟨o', h'⟩ := e.s b o hb
    exact f.s b o' h'
theorem Rd.some' {u : HO} (h : Rd H a u) : ∃ o, H a = some o := by
  rcases h with h | ⟨o, h⟩ <;> exact ⟨_, h⟩
theorem Fz.ext (e : ExtW K H w H' w') (h : Fz H w a xs) : Fz H' w' a xs := ⟨e.kw _ _ h.1 nt_lst h.2.1 h.2.2, e.nm h.1 h.2.1 h.2.2, e.nz h.1 h.2.2⟩
theorem Rd.some_of {u : HO} (h : Rd H a u) : ∃ o, H a = some o := by
  rcases h with h | ⟨o, h⟩ <;> exact ⟨_, h⟩
theorem ExtW.rd {u : HO} (e : ExtW K H w H' w') (h : Rd H a u) (hm : a ∉ w.M) (hz : a ∉ w.Z) (hu : NT u) : Rd H' a u := by
  rcases h with h | ⟨o, h⟩
  · exact .inl (e.kw a _ h hu hm hz)
  · exact .inr ⟨o, e.kw a _ h (fun _ z => by cases z) hm hz⟩
theorem Sc.ext {ns : List Int} (e : ExtW K H w H' w') (h : Sc K H w a ns) : Sc K H' w' a ns := by
  rcases h with ⟨h, hm, hz⟩ | h
  · obtain ⟨o, ho⟩ := Rd.some_of h
    exact .inl ⟨e.rd h hm hz nt_lst, e.nm ho hm hz, e.nz ho hz⟩
  · exact .inr h
theorem Sc.sq {ns : List Int} (h : Sc K H w a ns) : SqL K H a (ns.map V.int) := by
  rcases h with ⟨h, _⟩ | h
  · exact .inl h
  · exact sqL_k h
mutual
theorem RP.ext' (e : ExtW K H w H' w') : ∀ (d : PyData) (v : V), RP K H w v d → RP K H' w' v d
  | .none, _, h => by cases h; exact .non
  | .bool b, _, h => by cases h; exact .bl b
  | .int i, _, h => by cases h; exact .int i
  | .str x, _, h => by cases h; exact .str x
  | .list ds, _, h => by
    cases h with
    | lst h1 h2 => exact .lst (h1.ext e) (RPs.ext' e ds _ h2)
  | .tuple ds, _, h => by
    cases h with
    | tup h1 h2 => exact .tup (e.t _ _ h1) (RPs.ext' e ds _ h2)
  | .dict _, _, h => by cases h
theorem RPs.ext' (e : ExtW K H w H' w') : ∀ (ds : List PyData) (vs : List V), RPs K H w vs ds → RPs K H' w' vs ds
  | [], _, h => by cases h; exact .nil
  | d :: r, _, h => by
    cases h with
    | cons h1 h2 => exact .cons (RP.ext' e d _ h1) (RPs.ext' e r _ h2)
end
theorem ExtW.mref (e : ExtW K H w H' w') {r : Nat} (h : w.M[r]? = some a) : w'.M[r]? = some a := by
  obtain ⟨N, hN, _⟩ := e.m
  rw [hN, List.getElem?_append_left (List.getElem?_eq_some_iff.mp h).1]
  exact h
mutual
theorem Rep.ext' (e : ExtW K H w H' w') : ∀ (d : D) (v : V), Rep K H w v d → Rep K H' w' v d
  | .p x, v, h => by cases h with | p h => exact .p (RP.ext' e x v h)
  | .ref r, _, h => by cases h with | ref h => exact .ref (e.mref h)
  | .tup ds, _, h => by cases h with | tup h1 h2 => exact .tup (e.t _ _ h1) (Reps.ext' e ds _ h2)
  | .glb v, _, h => by cases h; exact .glb v
  | .scr ns, _, h => by cases h with | scr h => exact .scr (h.ext e)
  | .exn a dx x, _, h => by cases h with | exn h1 h2 h3 h4 => exact .exn (e.kw _ _ h1 (fun _ z => by cases z) h2 h3) (e.nm h1 h2 h3) (e.nz h1 h3) (Rep.ext' e x _ h4)
theorem Reps.ext' (e : ExtW K H w H' w') : ∀ (ds : List D) (vs : List V), Reps K H w vs ds → Reps K H' w' vs ds
  | [], _, h => by cases h; exact .nil
  | d :: r, _, h => by
    cases h with
    | cons h1 h2 => exact .cons (Rep.ext' e d _ h1) (Reps.ext' e r _ h2)
end
theorem RP.extW {x : PyData} (h : RP K H w v x) (e : ExtW K H w H' w') : RP K H' w' v x := RP.ext' e x v h
theorem RPs.extW {x : List PyData} (h : RPs K H w vs x) (e : ExtW K H w H' w') : RPs K H' w' vs x := RPs.ext' e x vs h
theorem Rep.extW (h : Rep K H w v d) (e : ExtW K H w H' w') : Rep K H' w' v d := Rep.ext' e d v h
theorem Reps.extW (h : Reps K H w vs ds) (e : ExtW K H w H' w') : Reps K H' w' vs ds := Reps.ext' e ds vs h
theorem EnR.extW (h : EnR K H w E σ) (e : ExtW K H w H' w') : EnR K H' w' E σ := ⟨h.len, fun i d q => by
  obtain ⟨v, h1, h2⟩ := h.at_ i d q
  exact ⟨v, h1, h2.extW e⟩⟩
theorem RP.ext {x : PyData} (h : RP K H w v x) (e : Ext K H w H' w') : RP K H' w' v x := h.extW e.wk
theorem RPs.ext {x : List PyData} (h : RPs K H w vs x) (e : Ext K H w H' w') : RPs K H' w' vs x := h.extW e.wk
theorem Rep.ext (h : Rep K H w v d) (e : Ext K H w H' w') : Rep K H' w' v d := h.extW e.wk
theorem Reps.ext (h : Reps K H w vs ds) (e : Ext K H w H' w') : Reps K H' w' vs ds := h.extW e.wk
theorem EnR.ext (h : EnR K H w E σ) (e : Ext K H w H' w') : EnR K H' w' E σ := h.extW e.wk
theorem EnR.get (h : EnR K H w E σ) {i : Nat} (q : E[i]? = some (some d)) : ∃ v, σ[i]? = some (some v) ∧ Rep K H w v d := h.at_ i d q
theorem EnR.set (h : EnR K H w E σ) (r : Rep K H w v d) (i : Nat) : EnR K H w (E.set i (some d)) (σ.set i (some v)) := ⟨by simp [h.len], fun j d' q => by
  by_cases c : i = j
  · subst c
    rw [List.getElem?_set] at q
    rw [List.getElem?_set]
    split at q
    · rename_i hl
      split at q
      · rename_i hl2
        rw [if_pos rfl, if_pos (by rw [← h.len]; exact hl2)]
        injection q with q; injection q with q; subst q
        exact ⟨v, rfl, r⟩
      · cases q
    · rename_i hl; exact absurd rfl hl
  · rw [List.getElem?_set_ne c] at q ⊢
    exact h.at_ j d' q⟩
theorem Reps.len : ∀ {ds : List D} {vs : List V}, Reps K H w vs ds → vs.length = ds.length
  | [], _, h => by cases h; rfl
  | _ :: _, _, h => by cases h with | cons _ t => simp [Reps.len t]
theorem RPs.len : ∀ {ds : List PyData} {vs : List V}, RPs K H w vs ds → vs.length = ds.length
  | [], _, h => by cases h; rfl
  | _ :: _, _, h => by cases h with | cons _ t => simp [RPs.len t]
theorem RPs.reps : ∀ {ds : List PyData} {vs : List V}, RPs K H w vs ds → Reps K H w vs (ds.map .p)
  | [], _, h => by cases h; exact .nil
  | _ :: _, _, h => by cases h with | cons h t => exact .cons (.p h) (RPs.reps t)
theorem Reps.get : ∀ {ds : List D} {vs : List V}, Reps K H w vs ds → ∀ {i : Nat} {d : D}, ds[i]? = some d → ∃ v, vs[i]? = some v ∧ Rep K H w v d
  | [], _, _, i, d, q => by simp at q
  | _ :: _, _, h, 0, d, q => by
    cases h with | cons h t => simp at q; subst q; exact ⟨_, rfl, h⟩
  | _ :: _, _, h, i + 1, d, q => by
    cases h with | cons h t =>
      obtain ⟨v, e, r⟩ := Reps.get t (i := i) (by simpa using q)
      exact ⟨v, by simpa using e, r⟩
theorem Reps.get' : ∀ {ds : List D} {vs : List V}, Reps K H w vs ds → ∀ {i : Nat} {v : V}, vs[i]? = some v → ∃ d, ds[i]? = some d ∧ Rep K H w v d
  | [], _, h, i, d, q => by cases h; simp at q
  | _ :: _, _, h, 0, d, q => by
    cases h with | cons h t => simp at q; subst q; exact ⟨_, rfl, h⟩
  | _ :: _, _, h, i + 1, d, q => by
    cases h with | cons h t =>
      obtain ⟨v, e, r⟩ := Reps.get' t (i := i) (by simpa using q)
      exact ⟨v, by simpa using e, r⟩
theorem Reps.append : ∀ {ds es : List D} {vs us : List V}, Reps K H w vs ds → Reps K H w us es → Reps K H w (vs ++ us) (ds ++ es)
  | [], _, _, _, h, k => by cases h; exact k
  | _ :: _, _, _, _, h, k => by cases h with | cons h t => exact .cons h (Reps.append t k)
theorem Reps.take : ∀ {ds : List D} {vs : List V} (n : Nat), Reps K H w vs ds → Reps K H w (vs.take n) (ds.take n)
  | _, _, 0, _ => by simp; exact .nil
  | [], _, n + 1, h => by cases h; exact .nil
  | _ :: _, _, n + 1, h => by cases h with | cons h t => exact .cons h (Reps.take n t)
theorem Reps.drop : ∀ {ds : List D} {vs : List V} (n : Nat), Reps K H w vs ds → Reps K H w (vs.drop n) (ds.drop n)
  | _, _, 0, h => h
  | [], _, n + 1, h => by cases h; exact .nil
  | _ :: _, _, n + 1, h => by cases h with | cons h t => exact Reps.drop n t
theorem Reps.rev : ∀ {ds : List D} {vs : List V}, Reps K H w vs ds → Reps K H w vs.reverse ds.reverse
  | [], _, h => by cases h; exact .nil
  | _ :: _, _, h => by
    cases h with | cons h t => rw [List.reverse_cons, List.reverse_cons]; exact (Reps.rev t).append (.cons h .nil)
theorem Reps.set : ∀ {ds : List D} {vs : List V} {v : V} {d : D} (i : Nat), Reps K H w vs ds → Rep K H w v d → Reps K H w (vs.set i v) (ds.set i d)
  | [], _, _, _, _, h, _ => by cases h; exact .nil
  | _ :: _, _, _, _, 0, h, r => by cases h with | cons h t => exact .cons r t
  | _ :: _, _, _, _, n + 1, h, r => by cases h with | cons h t => exact .cons h (Reps.set n t r)

/-! ### the store -/
theorem ObR.extW {h : HO} {o : Ob} (r : ObR K H w h o) (e : ExtW K H w H' w') : ObR K H' w' h o := by
  cases o with
  | lst ds => cases h with
    | lst vs => exact Reps.extW r e
    | _ => exact r.elim
  | dK kds => cases h with
    | dK kvs => exact Paired.mapP r fun _ _ z => ⟨z.1, z.2.extW e⟩
    | _ => exact r.elim
  | tabs Ps => cases h with
    | tbl ps => exact fun P hP => e.b P (r P hP)
    | _ => exact r.elim
theorem ObR.ext {h : HO} {o : Ob} (r : ObR K H w h o) (e : Ext K H w H' w') : ObR K H' w' h o := r.extW e.wk
theorem ObR.tupF {h : HO} {o : Ob} (r : ObR K H w h o) : (∀ xs, h ≠ .tup xs) ∧ ∀ ob u, h ≠ .frz ob u := by
  cases o with
  | lst ds => cases h with
    | lst vs => exact ⟨by simp, by simp⟩
    | _ => exact r.elim
  | dK kds => cases h with
    | dK kvs => exact ⟨by simp, by simp⟩
    | _ => exact r.elim
  | tabs Ps => cases h with
    | tbl ps => exact ⟨by simp, by simp⟩
    | _ => exact r.elim
theorem StR.get (h : StR K H w S) {r : Nat} {o : Ob} (e : S[r]? = some o) : ∃ a ho, w.M[r]? = some a ∧ H a = some ho ∧ ObR K H w ho o := by
  have hl : r < w.M.length := by rw [h.len]; exact (List.getElem?_eq_some_iff.mp e).1
  obtain ⟨ho, h1, h2⟩ := h.ob r w.M[r] o (by simp [hl]) e
  exact ⟨_, ho, by simp [hl], h1, h2⟩
theorem StR.some_of (h : StR K H w S) (ha : a ∈ w.M) : ∃ ho o, H a = some ho ∧ ObR K H w ho o := by
  obtain ⟨r, hr, e⟩ := List.getElem_of_mem ha
  obtain ⟨ho, h1, h2⟩ := h.ob r a (S[r]'(by rw [← h.len]; exact hr)) (by rw [← e]; simp) (by simp)
  exact ⟨ho, _, h1, h2⟩
theorem StR.nfr (h : StR K H w S) (hn : H p = none) : p ∉ w.M := fun hm => by
  obtain ⟨ho, _, e, _⟩ := h.some_of hm
  rw [hn] at e; cases e
theorem rd_upd {u : HO} {o : HO} (h : Rd H a u) (hn : H p = none) : Rd (upd H p o) a u := by
  obtain ⟨x, hx⟩ := Rd.some' h
  have ne : a ≠ p := fun c => by subst c; rw [hn] at hx; cases hx
  unfold Rd
  rw [upd_ne ne]
  exact h
/-- a new thing, that no number names -/
theorem Ext.new {o : HO} (hn : H p = none) : Ext K H w (upd H p o) w :=
  ⟨rfl, ⟨[], by simp, by simp⟩, fun b u e _ _ => by rw [upd_ne (ne_of_none e hn)]; exact e, fun b xs h => by
    rcases h with h | h
    · exact .inl (rd_upd h hn)
    · exact .inr h, fun b u e => ⟨u, by rw [upd_ne (ne_of_none e hn)]; exact e⟩, fun P ⟨ps, e, t⟩ => ⟨ps, by rw [upd_ne (ne_of_none e hn)]; exact e, t⟩⟩
theorem StR.new {o : HO} (h : StR K H w S) (hn : H p = none) : StR K (upd H p o) w S :=
  ⟨h.len, h.nd, h.nz, fun b hb => by
    obtain ⟨u, e⟩ := h.zt b hb
    exact ⟨u, by rw [upd_ne (ne_of_none e hn)]; exact e⟩, fun r b ob h1 h2 => by
    obtain ⟨ho, e, q⟩ := h.ob r b ob h1 h2
    exact ⟨ho, by rw [upd_ne (ne_of_none e hn)]; exact e, q.ext (Ext.new hn)⟩⟩
/-- a new thing with the next number -/
abbrev Vw.add (w : Vw) (p : Addr) : Vw := { w with M := w.M ++ [p] }
theorem Ext.newM {o : HO} (hn : H p = none) : Ext K H w (upd H p o) (w.add p) :=
  ⟨rfl, ⟨[p], rfl, by simpa using hn⟩, (Ext.new (K := K) (w := w) (o := o) hn).k, (Ext.new (K := K) (w := w) (o := o) hn).t, (Ext.new (K := K) (w := w) (o := o) hn).s, (Ext.new (K := K) (w := w) (o := o) hn).b⟩
theorem StR.newM {o : HO} {ob : Ob} (h : StR K H w S) (hn : H p = none) (q : ObR K (upd H p o) (w.add p) o ob) : StR K (upd H p o) (w.add p) (S ++ [ob]) := by
  have hz : p ∉ w.Z := fun c => by
    obtain ⟨u, e⟩ := h.zt p c
    rw [hn] at e; cases e
  refine ⟨by simp [h.len], ?_, ?_, (h.new (o := o) hn).zt, fun r b ob' h1 h2 => ?_⟩
  · show (w.M ++ [p]).Nodup
    rw [List.nodup_append]
    refine ⟨h.nd, by simp, fun x hx y hy => ?_⟩
    rw [List.mem_singleton.mp hy]
    rintro rfl
    exact h.nfr hn hx
  · intro b hb
    rcases List.mem_append.mp hb with z | z
    · exact h.nz b z
    · rw [List.mem_singleton.mp z]; exact hz
  · have h1 : (w.M ++ [p])[r]? = some b := h1
    by_cases c : r < w.M.length
    · rw [List.getElem?_append_left c] at h1
      rw [List.getElem?_append_left (by rw [← h.len]; exact c)] at h2
      obtain ⟨ho, e, q'⟩ := h.ob r b ob' h1 h2
      exact ⟨ho, by rw [upd_ne (ne_of_none e hn)]; exact e, q'.ext (Ext.newM hn)⟩
    · have hr : r = w.M.length := by
        have := (List.getElem?_eq_some_iff.mp h1).1
        simp at this
        omega
      subst hr
      rw [List.getElem?_append_right (Nat.le_refl _)] at h1
      rw [List.getElem?_append_right (by rw [h.len]; exact Nat.le_refl _)] at h2
      simp at h1
      rw [h.len] at h2
      simp at h2
      subst h1; subst h2
      exact ⟨o, upd_same, q⟩
/-- a numbered thing is changed -/
theorem Ext.put {o ho : HO} (h : H a = some ho) (ht : ∀ xs, ho ≠ .tup xs) (hf : ∀ ob u, ho ≠ .frz ob u) (hm : a ∈ w.M) (hb : NT ho := by first | assumption | (intro _ z; cases z)) : Ext K H w (upd H a o) w :=
  ⟨rfl, ⟨[], by simp, by simp⟩, fun b u e _ hb => by rw [upd_ne (fun c => hb (by rw [c]; exact hm))]; exact e, fun b xs q => by
    rcases q with q | q
    · have ne : b ≠ a := fun c => by
        subst c
        rcases q with q | ⟨ob, q⟩
        · rw [h] at q; exact ht _ (Option.some.inj q)
        · rw [h] at q; exact hf _ _ (Option.some.inj q)
      refine .inl ?_
      unfold Rd
      rw [upd_ne ne]
      exact q
    · exact .inr q, fun b u e => by
      by_cases c : b = a
      · subst c; exact ⟨o, upd_same⟩
      · exact ⟨u, by rw [upd_ne c]; exact e⟩, fun P ⟨ps, e, t⟩ => ⟨ps, by rw [upd_ne (fun c => by rw [c, h] at e; exact hb ps (Option.some.inj e))]; exact e, t⟩⟩
theorem StR.put {o ho : HO} {ob : Ob} {r : Nat} (h : StR K H w S) (hr : w.M[r]? = some a) (ha : H a = some ho) (ht : ∀ xs, ho ≠ .tup xs) (hf : ∀ ob u, ho ≠ .frz ob u) (q : ObR K (upd H a o) w o ob) (hb : NT ho := by first | assumption | (intro _ z; cases z)) : StR K (upd H a o) w (S.set r ob) := by
  have hm : a ∈ w.M := List.mem_of_getElem? hr
  refine ⟨by simp [h.len], h.nd, h.nz, fun b hb => (Ext.put (K := K) (o := o) ha ht hf hm).s b _ (h.zt b hb).choose_spec, fun r' b ob' h1 h2 => ?_⟩
  by_cases c : r = r'
  · subst c
    rw [hr] at h1
    obtain rfl := Option.some.inj h1
    rw [List.getElem?_set] at h2
    simp at h2
    obtain ⟨_, rfl⟩ := h2
    exact ⟨o, upd_same, q⟩
  · rw [List.getElem?_set_ne c] at h2
    obtain ⟨ho', e, q'⟩ := h.ob r' b ob' h1 h2
    have ne : b ≠ a := fun z => by
      subst z
      obtain ⟨i1, e1⟩ := List.getElem?_eq_some_iff.mp hr
      obtain ⟨i2, e2⟩ := List.getElem?_eq_some_iff.mp h1
      exact c ((List.getElem_inj h.nd).mp (e1.trans e2.symm))
    exact ⟨ho', by rw [upd_ne ne]; exact e, q'.ext (Ext.put ha ht hf hm)⟩
/-- a table of code objects grows -/
theorem Ext.grow {P : Addr} (t : GxR.TabG H P) (g : GxR.Tabbed P H H') : Ext K H w H' w := by
  obtain ⟨ps, e, _⟩ := t
  obtain ⟨g1, g2⟩ := g
  have ne : ∀ b o, H b = some o → NT o → b ≠ P := fun b o h n c => by
    rw [c, e] at h
    exact n ps (Option.some.inj h).symm
  refine ⟨rfl, ⟨[], by simp, by simp⟩, fun b o h n _ => by rw [g2 b (ne b o h n)]; exact h, fun b xs h => ?_, fun b o h => ?_, fun Q h => ?_⟩
  · rcases h with h | h
    · refine .inl ?_
      rcases h with h | ⟨ob, h⟩
      · exact .inl (by rw [g2 b (ne b _ h (fun _ z => by cases z))]; exact h)
      · exact .inr ⟨ob, by rw [g2 b (ne b _ h (fun _ z => by cases z))]; exact h⟩
    · exact .inr h
  · by_cases c : b = P
    · obtain ⟨qs, h', _⟩ := g1
      exact ⟨_, by rw [c]; exact h'⟩
    · exact ⟨o, by rw [g2 b c]; exact h⟩
  · by_cases c : Q = P
    · rw [c]; exact g1
    · obtain ⟨qs, h', z⟩ := h
      exact ⟨qs, by rw [g2 Q c]; exact h', z⟩
theorem StR.grow {P : Addr} (h : StR K H w S) (t : GxR.TabG H P) (g : GxR.Tabbed P H H') : StR K H' w S := by
  have e := Ext.grow (K := K) (w := w) t g
  refine ⟨h.len, h.nd, h.nz, fun b hb => e.s b _ (h.zt b hb).choose_spec, fun r b ob h1 h2 => ?_⟩
  obtain ⟨ho, e1, q⟩ := h.ob r b ob h1 h2
  by_cases c : b = P
  · subst c
    obtain ⟨ps, e2, _⟩ := t
    rw [e2] at e1
    obtain rfl := Option.some.inj e1
    obtain ⟨qs, h', _⟩ := g.1
    refine ⟨_, h', ?_⟩
    cases ob with
    | tabs Ps => exact fun Q hQ => e.b Q (q Q hQ)
    | lst _ => exact q.elim
    | dK _ => exact q.elim
  · exact ⟨ho, by rw [g.2 b c]; exact e1, q.ext e⟩

/-! ### results -/
variable {W : WX} {α β : Type} {r : R α} {κ κ' : α → Sto → Hp → Vw → Prop}
theorem Post.imp (h : Post K W H w r κ) (f : ∀ x S' H' w', Ext K H w H' w' → StR K H' w' S' → κ x S' H' w' → κ' x S' H' w') : Post K W H w r κ' := by
  cases r with
  | ok x S' => exact fun H' w' e s => f x S' H' w' e s (h H' w' e s)
  | exc e E' S' => exact h
  | bad => exact h
theorem Post.ext (h : Post K W H w r κ) (e : Ext K H w H' w') : Post K W H' w' r κ := by
  cases r with
  | ok x S' => exact fun H2 w2 e2 s => h H2 w2 (e.trans e2) s
  | exc x E' S' => exact fun c d H2 w2 σ e2 => h c d H2 w2 σ (e.trans e2)
  | bad => exact h
theorem Post.bind {k : α → Sto → R β} {κ : β → Sto → Hp → Vw → Prop} (h : Post K W H w (r.bind k) κ) : Post K W H w r (fun x S' H' w' => Post K W H' w' (k x S') κ) := by
  cases r with
  | ok x S' => exact fun H' w' e s => Post.ext h e
  | exc x E' S' => exact h
  | bad => exact h
end

/-! ### readings -/
abbrev FE := En → Sto → R D
abbrev FT := En → Sto → R Bool
abbrev FA := En → Sto → R (List D)
inductive Fl where
  | nx (E : En) | ret (d : D) | brk (E : En) | ct (E : En)
abbrev FS := En → Sto → R Fl
section
variable (K : PySem.W.Frag) (W : WX)
def teOf (f : FE) : TE := fun σ H Q => ∃ w E S, EnR K H w E σ ∧ StR K H w S ∧ Post K W H w (f E S) fun d _ H' w' => ∀ v, Rep K H' w' v d → Q v H'
def ttOf (f : FT) : TT := fun σ H Q => ∃ w E S, EnR K H w E σ ∧ StR K H w S ∧ Post K W H w (f E S) fun d _ H' w' => Q d H'
def taOf (f : FA) : TA := fun σ H Q => ∃ w E S, EnR K H w E σ ∧ StR K H w S ∧ Post K W H w (f E S) fun d _ H' w' => ∀ v, Reps K H' w' v d → Q v H'
def FlQ (D_ : Ends) (f : Fl) (H : Hp) (w : Vw) : Prop := match f with
  | .nx E => ∀ σ, EnR K H w E σ → D_.nx σ H
  | .brk E => ∀ σ, EnR K H w E σ → D_.bk σ H
  | .ct E => ∀ σ, EnR K H w E σ → D_.ct σ H
  | .ret d => ∀ v, Rep K H w v d → D_.rt v H
def tsOf (f : FS) : TS := fun D_ σ H => ∃ w E S, EnR K H w E σ ∧ StR K H w S ∧ Post K W H w (f E S) fun fl _ H' w' => FlQ K D_ fl H' w'
end
abbrev RE (X : Cx) (W : WX) (e : Expr) (f : FE) : Prop := PE X e (teOf X.K W f)
abbrev RT (X : Cx) (W : WX) (e : Expr) (f : FT) : Prop := PT X e (ttOf X.K W f)
abbrev RA (X : Cx) (W : WX) (e : List Expr) (f : FA) : Prop := PA X e (taOf X.K W f)
abbrev RS (X : Cx) (W : WX) (e : Stmt) (f : FS) : Prop := PS X e (tsOf X.K W f)
abbrev RSs (X : Cx) (W : WX) (e : List Stmt) (f : FS) : Prop := PSs X e (tsOf X.K W f)
theorem PE.wk {X : Cx} {e : Expr} {t t' : TE} (h : PE X e t) (i : ∀ σ H Q, t' σ H Q → t σ H Q) : PE X e t' := ⟨fun pins s σ H Q I q => h.run pins s σ H Q I (i _ _ _ q)⟩
theorem PT.wk {X : Cx} {e : Expr} {t t' : TT} (h : PT X e t) (i : ∀ σ H Q, t' σ H Q → t σ H Q) : PT X e t' := ⟨fun pins s σ H Q I q => h.run pins s σ H Q I (i _ _ _ q)⟩
theorem PA.wk {X : Cx} {e : List Expr} {t t' : TA} (h : PA X e t) (i : ∀ σ H Q, t' σ H Q → t σ H Q) : PA X e t' := ⟨fun pos pins s σ H Q I q => h.run pos pins s σ H Q I (i _ _ _ q)⟩
theorem PS.wk {X : Cx} {e : Stmt} {t t' : TS} (h : PS X e t) (i : ∀ D σ H, t' D σ H → t D σ H) : PS X e t' := ⟨fun pins s σ H D I q => h.run pins s σ H D I (i _ _ _ q)⟩
theorem PSs.wk {X : Cx} {e : List Stmt} {t t' : TS} (h : PSs X e t) (i : ∀ D σ H, t' D σ H → t D σ H) : PSs X e t' := ⟨fun pins s σ H D I q => h.run pins s σ H D I (i _ _ _ q)⟩
end SV
set_option linter.all false
set_option maxRecDepth 100000
set_option maxHeartbeats 1000000
namespace SV
open PySem PySem.Spec PyProof.Rows L2 NB

/-! ### views -/
def pures : List D → Option (List PyData)
  | [] => some []
  | .p x :: r => (pures r).map (x :: ·)
  | _ :: _ => none
@[simp] theorem pures_nil : pures [] = some [] := rfl
@[simp] theorem pures_cons (x : PyData) (r : List D) : pures (.p x :: r) = (pures r).map (x :: ·) := rfl
@[simp] theorem pures_map (xs : List PyData) : pures (xs.map .p) = some xs := by
  induction xs with
  | nil => rfl
  | cons x r ih => rw [List.map_cons, pures_cons, ih]; rfl
theorem pures_some : ∀ {ds : List D} {xs : List PyData}, pures ds = some xs → ds = xs.map .p
  | [], _, h => by cases h; rfl
  | .p x :: r, _, h => by
    rw [pures_cons] at h
    obtain ⟨ys, e, rfl⟩ := Option.map_eq_some_iff.mp h
    rw [List.map_cons, ← pures_some e]
  | .ref _ :: _, _, h => by cases h
  | .tup _ :: _, _, h => by cases h
  | .glb _ :: _, _, h => by cases h
  | .scr _ :: _, _, h => by cases h
def mkT (ds : List D) : D := match pures ds with
  | some xs => .p (.tuple xs)
  | none => .tup ds
@[simp] theorem mkT_map (xs : List PyData) : mkT (xs.map .p) = .p (.tuple xs) := by simp [mkT]
/-- a new list: frozen if it may and can -/
def newL (fz : Bool) (ds : List D) (S : Sto) : R D := match fz, pures ds with
  | true, some xs => .ok (.p (.list xs)) S
  | _, _ => .ok (.ref S.length) (S ++ [.lst ds])
def viewL (d : D) (S : Sto) : Option (List D) := match d with
  | .p (.list xs) => some (xs.map .p)
  | .ref r => match S[r]? with
    | some (.lst ds) => some ds
    | _ => none
  | _ => none
def viewT (d : D) : Option (List D) := match d with
  | .p (.tuple xs) => some (xs.map .p)
  | .tup ds => some ds
  | _ => none
/-- a list or tuple: its items -/
def viewS (d : D) (S : Sto) : Option (List D) := match viewT d with
  | some ds => some ds
  | none => viewL d S
/-- the data that a thing is now -/
def asP (d : D) (S : Sto) : Option PyData := match d with
  | .p x => some x
  | .ref r => match S[r]? with
    | some (.lst ds) => (pures ds).map .list
    | _ => none
  | _ => none
def intsD : List D → Option (List Int)
  | [] => some []
  | .p (.int i) :: r => (intsD r).map (i :: ·)
  | _ :: _ => none

section
variable {K : PySem.W.Frag} {H H' : Hp} {w w' : Vw} {a p : Addr} {v u : V} {vs xs : List V} {d : D} {ds : List D} {S : Sto} {E : En} {σ : L2.St} {W : WX} {Q : VK}
theorem RPs.of_reps : ∀ {xs : List PyData} {vs : List V}, Reps K H w vs (xs.map .p) → RPs K H w vs xs
  | [], _, h => by cases h; exact .nil
  | _ :: _, _, h => by cases h with | cons h t => cases h with | p h => exact .cons h (RPs.of_reps t)
theorem rep_tup (h : SqT K H a vs) (r : Reps K H w vs ds) : Rep K H w (.ref a) (mkT ds) := by
  unfold mkT
  cases e : pures ds with
  | none => exact .tup h r
  | some xs =>
    obtain rfl := pures_some e
    exact .p (.tup h (.of_reps r))
abbrev PostV (K : PySem.W.Frag) (W : WX) (H : Hp) (w : Vw) (r : R D) (Q : VK) : Prop := Post K W H w r fun d _ H' w' => ∀ v, Rep K H' w' v d → Q v H'
theorem Post.same {α : Type} {x : α} {κ : α → Sto → Hp → Vw → Prop} (h : Post K W H w (.ok x S) κ) (s : StR K H w S) : κ x S H w := h H w Ext.refl s
theorem PostV.same (h : PostV K W H w (.ok d S) Q) (s : StR K H w S) (r : Rep K H w v d) : Q v H := h H w Ext.refl s v r
theorem PostV.newT (h : PostV K W H w (.ok (mkT ds) S) Q) (s : StR K H w S) (hn : H p = none) (r : Reps K H w vs ds) : Q (.ref p) (upd H p (.tup vs)) :=
  h _ w (Ext.new hn) (s.new hn) _ (rep_tup (SqT.of upd_same) (r.ext (Ext.new hn)))
theorem StR.nz_new (s : StR K H w S) (hn : H p = none) : p ∉ w.Z := fun c => by
  obtain ⟨u, e⟩ := s.zt p c
  rw [hn] at e; cases e
theorem PostV.newL {fz : Bool} (h : PostV K W H w (newL fz ds S) Q) (s : StR K H w S) (hn : H p = none) (r : Reps K H w vs ds) : Q (.ref p) (upd H p (.lst vs)) := by
  have mu : PostV K W H w (.ok (.ref S.length) (S ++ [.lst ds])) Q → Q (.ref p) (upd H p (.lst vs)) := fun h => by
    refine h _ (w.add p) (Ext.newM hn) (s.newM (o := .lst vs) (ob := .lst ds) hn (r.ext (Ext.newM hn))) _ (.ref ?_)
    show (w.M ++ [p])[S.length]? = some p
    rw [← s.len, List.getElem?_append_right (Nat.le_refl _)]
    simp
  cases fz with
  | false =>
    unfold SV.newL at h
    exact mu h
  | true =>
    cases e : pures ds with
    | none =>
      unfold SV.newL at h
      rw [e] at h
      exact mu h
    | some xs =>
      unfold SV.newL at h
      rw [e] at h
      obtain rfl := pures_some e
      exact h _ w (Ext.new hn) (s.new hn) _ (.p (.lst ⟨upd_same, s.nfr hn, s.nz_new hn⟩ (RPs.of_reps (r.ext (Ext.new hn)))))
theorem viewL_ok (r : Rep K H w v d) (s : StR K H w S) (h : viewL d S = some ds) : ∃ a vs, v = .ref a ∧ H a = some (.lst vs) ∧ Reps K H w vs ds := by
  unfold viewL at h
  split at h
  · cases h
    cases r with | p r => cases r with | lst f q => exact ⟨_, _, rfl, f.1, q.reps⟩
  · split at h
    · cases h
      rename_i r' _ ds' e
      cases r with | ref r =>
        obtain ⟨a', ho, h1, h2, h3⟩ := s.get e
        rw [r] at h1
        obtain rfl := Option.some.inj h1
        cases ho with
        | lst vs => exact ⟨_, _, rfl, h2, h3⟩
        | _ => exact h3.elim
    · cases h
  · cases h
theorem viewT_ok (r : Rep K H w v d) (h : viewT d = some ds) : ∃ a vs, v = .ref a ∧ SqT K H a vs ∧ Reps K H w vs ds := by
  unfold viewT at h
  split at h
  · cases h
    cases r with | p r => cases r with | tup f q => exact ⟨_, _, rfl, f, q.reps⟩
  · cases h
    cases r with | tup f q => exact ⟨_, _, rfl, f, q⟩
  · cases h
theorem viewS_ok (r : Rep K H w v d) (s : StR K H w S) (h : viewS d S = some ds) : ∃ a vs, v = .ref a ∧ (SqL K H a vs ∨ SqT K H a vs) ∧ Reps K H w vs ds := by
  unfold viewS at h
  split at h
  · cases h
    rename_i e
    obtain ⟨a, vs, e, q, r⟩ := viewT_ok r e
    exact ⟨a, vs, e, .inr q, r⟩
  · obtain ⟨a, vs, e, q, r⟩ := viewL_ok r s h
    exact ⟨a, vs, e, .inl (SqL.of q), r⟩
mutual
theorem RP.dp : ∀ (d : PyData) (v : V), RP K H w v d → Dp K H v d
  | .none, _, h => by cases h; exact .non
  | .bool b, _, h => by cases h; exact .bl b
  | .int i, _, h => by cases h; exact .int i
  | .str x, _, h => by cases h; exact .str x
  | .list ds, _, h => by
    cases h with
    | lst h1 h2 => exact .lst h1.sq (RPs.dp ds _ h2)
  | .tuple ds, _, h => by
    cases h with
    | tup h1 h2 => exact .tup h1 (RPs.dp ds _ h2)
  | .dict _, _, h => by cases h
theorem RPs.dp : ∀ (ds : List PyData) (vs : List V), RPs K H w vs ds → DpAll K H vs ds
  | [], _, h => by cases h; exact .nil
  | d :: r, _, h => by
    cases h with
    | cons h1 h2 => exact .cons (RP.dp d _ h1) (RPs.dp r _ h2)
end
theorem asP_ok {x : PyData} (r : Rep K H w v d) (s : StR K H w S) (h : asP d S = some x) : Dp K H v x := by
  unfold asP at h
  split at h
  · cases h
    cases r with | p r => exact RP.dp _ _ r
  · split at h
    · rename_i r' _ ds' e
      obtain ⟨xs, e2, rfl⟩ := Option.map_eq_some_iff.mp h
      obtain rfl := pures_some e2
      cases r with | ref r =>
        obtain ⟨a', ho, h1, h2, h3⟩ := s.get e
        rw [r] at h1
        obtain rfl := Option.some.inj h1
        cases ho with
        | lst vs => exact .lst (SqL.of h2) (RPs.dp _ _ (.of_reps h3))
        | _ => exact h3.elim
    · cases h
  · cases h
theorem ints_ok : ∀ {ds : List D} {vs : List V} {ns : List Int}, Reps K H w vs ds → intsD ds = some ns → vs = ns.map V.int
  | [], _, _, r, h => by cases r; cases h; rfl
  | .p (.int i) :: t, _, _, r, h => by
    obtain ⟨ms, e, rfl⟩ := Option.map_eq_some_iff.mp (show (intsD t).map (i :: ·) = some _ from h)
    cases r with | cons h1 h2 =>
      cases h1 with | p h1 => cases h1; rw [List.map_cons, ints_ok h2 e]
  | .p .none :: _, _, _, _, h => by cases h
  | .p (.bool _) :: _, _, _, _, h => by cases h
  | .p (.str _) :: _, _, _, _, h => by cases h
  | .p (.list _) :: _, _, _, _, h => by cases h
  | .p (.tuple _) :: _, _, _, _, h => by cases h
  | .p (.dict _) :: _, _, _, _, h => by cases h
  | .ref _ :: _, _, _, _, h => by cases h
  | .tup _ :: _, _, _, _, h => by cases h
  | .glb _ :: _, _, _, _, h => by cases h
  | .scr _ :: _, _, _, _, h => by cases h
theorem ints_rep : ∀ (ns : List Int), Reps K H w (ns.map V.int) (ns.map fun i => D.p (.int i))
  | [] => .nil
  | i :: r => .cons (.p (.int i)) (ints_rep r)
@[simp] theorem ints_map (ns : List Int) : intsD (ns.map fun i => D.p (.int i)) = some ns := by
  induction ns with
  | nil => rfl
  | cons i r ih => rw [List.map_cons]; show (intsD _).map _ = _; rw [ih]; rfl
end

/-! ### two-place operations -/
def OpK (K : PySem.W.Frag) (W : WX) (r : R2) (g : D → D → Sto → R D) : Prop :=
  ∀ (H : Hp) (w : Vw) (S : Sto) (x y : D) (v u : V) (Q : VK), StR K H w S → Rep K H w v x → Rep K H w u y → PostV K W H w (g x y S) Q → r v u H Q
def bad2 : D → D → Sto → R D := fun _ _ _ => .bad

def dInt (i : Int) : D := .p (.int i)
def dBl (b : Bool) : D := .p (.bool b)
def gI (f : Int → Int → PyData) : D → D → Sto → R D
  | .p (.int i), .p (.int j), S => .ok (.p (f i j)) S
  | _, _, _ => .bad
/-- intsD, under a condition -/
def gIc (C : Int → Int → Bool) (f : Int → Int → Int) : D → D → Sto → R D
  | .p (.int i), .p (.int j), S => if C i j then .ok (.p (.int (f i j))) S else .bad
  | _, _, _ => .bad
section
variable {K : PySem.W.Frag} {W : WX}
theorem OpK.bad {r : R2} : OpK K W r bad2 := fun _ _ _ _ _ _ _ _ _ _ _ h => h.elim
theorem opk_I {g : Int → Int → V} {f : Int → Int → PyData} (h : ∀ i j H w, RP K H w (g i j) (f i j)) : OpK K W (rI0 g) (gI f) := by
  intro H w S x y v u Q s rx ry q
  unfold gI at q
  split at q
  · cases rx with | p rx => cases rx; cases ry with | p ry => cases ry; exact ⟨_, _, rfl, rfl, PostV.same q s (.p (h _ _ _ _))⟩
  · exact q.elim
theorem opk_Ic {P : Int → Int → Prop} {C : Int → Int → Bool} {f : Int → Int → Int} (h : ∀ i j, C i j = true → P i j) : OpK K W (rI P fun i j => .int (f i j)) (gIc C f) := by
  intro H w S x y v u Q s rx ry q
  unfold gIc at q
  split at q
  · split at q
    · rename_i c
      cases rx with | p rx => cases rx; cases ry with | p ry => cases ry; exact ⟨_, _, rfl, rfl, h _ _ c, PostV.same q s (.p (.int _))⟩
    · exact q.elim
  · exact q.elim
/-- one rule or another one, by the values -/
theorem OpK.sum {r r' : R2} {g g' : D → D → Sto → R D} (h : OpK K W r g) (h' : OpK K W r' g') (c : D → D → Sto → Bool) : OpK K W (fun x y H Q => r x y H Q ∨ r' x y H Q) (fun x y S => if c x y S then g x y S else g' x y S) := by
  intro H w S x y v u Q s rx ry q
  dsimp only at q
  split at q
  · exact .inl (h H w S x y v u Q s rx ry q)
  · exact .inr (h' H w S x y v u Q s rx ry q)
end

/-! #### == and != -/
def gEq (x y : D) (S : Sto) : R D := match asP x S, asP y S with
  | some a, some b => if SeqAt.shaped a && SeqAt.shaped b then .ok (dBl (PyData.eqv a b)) S else .bad
  | _, _ => .bad
def gNe (x y : D) (S : Sto) : R D := match asP x S, asP y S with
  | some a, some b => if SeqAt.shaped a && SeqAt.shaped b then .ok (dBl (!PyData.eqv a b)) S else .bad
  | _, _ => .bad
section
variable {K : PySem.W.Frag} {W : WX}
theorem opk_eq : OpK K W (rEqD K) gEq := by
  intro H w S x y v u Q s rx ry q
  unfold gEq at q
  split at q
  · rename_i a b e1 e2
    split at q
    · rename_i c
      obtain ⟨c1, c2⟩ := Bool.and_eq_true_iff.mp c
      exact ⟨_, _, asP_ok rx s e1, asP_ok ry s e2, c1, c2, PostV.same q s (.p (.bl _))⟩
    · exact q.elim
  · exact q.elim
theorem opk_ne : OpK K W (rNeD K) gNe := by
  intro H w S x y v u Q s rx ry q
  unfold gNe at q
  split at q
  · rename_i a b e1 e2
    split at q
    · rename_i c
      obtain ⟨c1, c2⟩ := Bool.and_eq_true_iff.mp c
      exact ⟨_, _, asP_ok rx s e1, asP_ok ry s e2, c1, c2, PostV.same q s (.p (.bl _))⟩
    · exact q.elim
  · exact q.elim
end

/-! #### + -/
def gAdd (x y : D) (S : Sto) : R D := match x, y with
  | .p (.int i), .p (.int j) => .ok (.p (.int (i + j))) S
  | .p (.str a), .p (.str b) => if a.length + b.length ≤ sizeLine then .ok (.p (.str (a ++ b))) S else .bad
  | _, _ => match viewT x, viewT y with
    | some xs, some ys => if xs.length + ys.length ≤ sizeLine then .ok (mkT (xs ++ ys)) S else .bad
    | _, _ => match viewL x S, viewL y S with
      | some xs, some ys => if xs.length + ys.length ≤ sizeLine then newL true (xs ++ ys) S else .bad
      | _, _ => .bad
def rAddAll (K : PySem.W.Frag) : R2 := fun x y H Q => ((rI0 fun i j => .int (i + j)) x y H Q ∨ (∃ i j, x = .str i ∧ y = .str j ∧ i.length + j.length ≤ sizeLine ∧ Q (.str (i ++ j)) H)) ∨ (rCatA K x y H Q ∨ rCat x y H Q)
theorem op_addAll {X : Cx} : OpR X (binaryOp .Add) (rAddAll X.K) := (op_add.or op_add_str).or (op_catA.or op_cat)
section
variable {K : PySem.W.Frag} {W : WX} {H : Hp} {w : Vw} {S : Sto} {v u : V} {x y : D} {xs ys : List D} {Q : VK}
theorem Reps.nil_iff {ds : List D} {vs : List V} (r : Reps K H w vs ds) : vs = [] ↔ ds = [] := by
  cases r with
  | nil => simp
  | cons _ _ => simp
theorem opk_add : OpK K W (rAddAll K) gAdd := by
  intro H w S x y v u Q s rx ry q
  unfold gAdd at q
  split at q
  · cases rx with | p rx => cases rx; cases ry with | p ry => cases ry; exact .inl (.inl ⟨_, _, rfl, rfl, PostV.same q s (.p (.int _))⟩)
  · split at q
    · rename_i c
      cases rx with | p rx => cases rx; cases ry with | p ry => cases ry; exact .inl (.inr ⟨_, _, rfl, rfl, c, PostV.same q s (.p (.str _))⟩)
    · exact q.elim
  · split at q
    · rename_i xs ys e1 e2
      split at q
      · rename_i c
        obtain ⟨a, vs, rfl, h1, r1⟩ := viewT_ok rx e1
        obtain ⟨b, us, rfl, h2, r2⟩ := viewT_ok ry e2
        refine .inr (.inl ⟨a, b, vs, us, rfl, rfl, h1, h2, by rw [r1.len, r2.len]; exact c, fun e => ?_, fun _ e => ?_, fun _ _ p hp => q.newT s hp (r1.append r2)⟩)
        · refine PostV.same q s (rep_tup h2 ?_)
          rw [r1.nil_iff] at e
          rw [e]; exact r2
        · refine PostV.same q s (rep_tup h1 ?_)
          rw [r2.nil_iff] at e
          rw [e, List.append_nil]; exact r1
      · exact q.elim
    · split at q
      · rename_i xs ys e1 e2
        split at q
        · rename_i c
          obtain ⟨a, vs, rfl, h1, r1⟩ := viewL_ok rx s e1
          obtain ⟨b, us, rfl, h2, r2⟩ := viewL_ok ry s e2
          exact .inr (.inr ⟨a, b, vs, us, rfl, rfl, h1, h2, by rw [r1.len, r2.len]; exact c, fun p hp => q.newL s hp (r1.append r2)⟩)
        · exact q.elim
      · exact q.elim
end

/-! #### *, //, %, ** -/
def okMul (i j : Int) : Bool := decide (-(2 ^ 64) < i ∧ i < 2 ^ 64) || decide (-(2 ^ 64) < j ∧ j < 2 ^ 64)
def gMul (x y : D) (S : Sto) : R D := match x, y with
  | .p (.int i), .p (.int j) => if okMul i j then .ok (.p (.int (i * j))) S else .bad
  | _, .p (.int k) => match viewT x with
    | some xs => if xs.length ≤ 1000 ∧ xs ≠ [] ∧ 2 ≤ k ∧ k ≤ 1000 then .ok (mkT (List.replicate k.toNat xs).flatten) S else .bad
    | none => match viewL x S with
      | some xs => if xs.length * k.toNat ≤ 100000 ∧ k ≤ 100000 ∧ -100000 ≤ k then newL true (List.replicate k.toNat xs).flatten S else .bad
      | none => .bad
  | _, _ => .bad
def rMulAll (K : PySem.W.Frag) : R2 := fun x y H Q => (rI CMul fun i j => .int (i * j)) x y H Q ∨ (rRepT K x y H Q ∨ rRep x y H Q)
theorem op_mulAll {X : Cx} : OpR X (binaryOp .Mult) (rMulAll X.K) := op_mul.or (op_repT.or op_rep)
section
variable {K : PySem.W.Frag} {W : WX} {H : Hp} {w : Vw}
theorem Reps.rep {xs : List D} {vs : List V} (r : Reps K H w vs xs) : ∀ k : Nat, Reps K H w (List.replicate k vs).flatten (List.replicate k xs).flatten
  | 0 => .nil
  | k + 1 => by rw [List.replicate_succ, List.replicate_succ, List.flatten_cons, List.flatten_cons]; exact r.append (Reps.rep r k)
theorem opk_mul : OpK K W (rMulAll K) gMul := by
  intro H w S x y v u Q s rx ry q
  unfold gMul at q
  split at q
  · split at q
    · rename_i c
      cases rx with | p rx => cases rx; cases ry with | p ry => cases ry; exact .inl ⟨_, _, rfl, rfl, by unfold okMul at c; simpa [CMul] using c, PostV.same q s (.p (.int _))⟩
    · exact q.elim
  · split at q
    · rename_i xs e1
      split at q
      · rename_i c
        obtain ⟨a, vs, rfl, h1, r1⟩ := viewT_ok rx e1
        cases ry with | p ry => cases ry; exact .inr (.inl ⟨a, _, vs, rfl, rfl, h1, fun e => c.2.1 (r1.nil_iff.mp e), c.2.2.1, c.2.2.2, by rw [r1.len]; exact c.1, fun p hp => q.newT s hp (r1.rep _)⟩)
      · exact q.elim
    · split at q
      · rename_i xs e1
        split at q
        · rename_i c
          obtain ⟨a, vs, rfl, h1, r1⟩ := viewL_ok rx s e1
          cases ry with | p ry => cases ry; exact .inr (.inr ⟨a, _, vs, rfl, rfl, h1, by omega, by omega, Nat.le_trans (by rw [r1.len]; exact c.1) (by decide), fun p hp => q.newL s hp (r1.rep _)⟩)
        · exact q.elim
      · exact q.elim
  · exact q.elim
def gSub := gI fun i j => .int (i - j)
theorem opk_sub : OpK K W (rI0 fun i j => .int (i - j)) gSub := opk_I fun _ _ _ _ => .int _
def gDiv := gIc (fun _ j => decide (0 < j ∧ j < 1073741824)) (· / ·)
theorem opk_div : OpK K W (rI CDiv fun i j => .int (i / j)) gDiv := opk_Ic fun i j c => by simpa [CDiv] using c
def gMod := gIc (fun _ j => decide (0 < j)) (· % ·)
theorem opk_mod : OpK K W (rI (fun _ j => 0 < j) fun i j => .int (i % j)) gMod := opk_Ic fun i j c => by simpa using c
def gPow := gIc (fun i j => decide (0 ≤ j ∧ j ≤ 1000000 ∧ i.natAbs < 2 ^ 64)) (fun i j => i ^ j.toNat)
theorem opk_pow : OpK K W (rI CPow fun i j => .int (i ^ j.toNat)) gPow := opk_Ic fun i j c => by simpa [CPow] using c
def gLt := gI fun i j => .bool (decide (i < j))
def gLe := gI fun i j => .bool (decide (i ≤ j))
def gGt := gI fun i j => .bool (decide (j < i))
def gGe := gI fun i j => .bool (decide (j ≤ i))
theorem opk_lt : OpK K W (rI0 fun i j => .bl (decide (i < j))) gLt := opk_I fun _ _ _ _ => .bl _
theorem opk_le : OpK K W (rI0 fun i j => .bl (decide (i ≤ j))) gLe := opk_I fun _ _ _ _ => .bl _
theorem opk_gt : OpK K W (rI0 fun i j => .bl (decide (j < i))) gGt := opk_I fun _ _ _ _ => .bl _
theorem opk_ge : OpK K W (rI0 fun i j => .bl (decide (j ≤ i))) gGe := opk_I fun _ _ _ _ => .bl _
end

/-! #### in -/
def flatP : PyData → Bool
  | .none | .bool _ | .int _ | .str _ => true
  | _ => false
def flats : List D → Option (List PyData)
  | [] => some []
  | .p x :: r => if flatP x then (flats r).map (x :: ·) else none
  | _ :: _ => none
def gIn (neg : Bool) (x y : D) (S : Sto) : R D := match x, viewS y S with
  | .p a, some ys => match flatP a, flats ys with
    | true, some bs => .ok (dBl (if neg then !(bs.any fun b => PyData.eqv b a) else bs.any fun b => PyData.eqv b a)) S
    | _, _ => .bad
  | _, _ => .bad
section
variable {K : PySem.W.Frag} {W : WX} {H : Hp} {w : Vw}
theorem flat_eqv {a b : PyData} {v u : V} (ra : RP K H w v a) (rb : RP K H w u b) (fa : flatP a = true) (fb : flatP b = true) : eqV v u = PyData.eqv a b := by
  cases ra <;> cases rb <;> first | rfl | (simp [flatP] at fa fb)
theorem flat_v {a : PyData} {v : V} (ra : RP K H w v a) (fa : flatP a = true) : flatV v = true := by
  cases ra <;> first | rfl | (simp [flatP] at fa)
theorem flats_ok {a : PyData} {v : V} (ra : RP K H w v a) (fa : flatP a = true) : ∀ {ds : List D} {bs : List PyData} {us : List V}, Reps K H w us ds → flats ds = some bs → us.all flatV = true ∧ inV v us = bs.any fun b => PyData.eqv b a
  | [], _, _, r, h => by cases r; cases h; exact ⟨rfl, rfl⟩
  | .p x :: t, bs, _, r, h => by
    unfold flats at h
    split at h
    · rename_i fx
      obtain ⟨cs, e, rfl⟩ := Option.map_eq_some_iff.mp h
      cases r with | cons h1 h2 =>
        cases h1 with | p h1 =>
          obtain ⟨i1, i2⟩ := flats_ok ra fa h2 e
          refine ⟨by rw [List.all_cons, flat_v h1 fx, i1]; rfl, ?_⟩
          unfold inV at i2 ⊢
          rw [List.any_cons, List.any_cons, i2, flat_eqv h1 ra fx fa]
    · cases h
  | .ref _ :: _, _, _, _, h => by cases h
  | .tup _ :: _, _, _, _, h => by cases h
  | .glb _ :: _, _, _, _, h => by cases h
  | .scr _ :: _, _, _, _, h => by cases h
theorem opk_in (neg : Bool) : OpK K W (rIn K neg) (gIn neg) := by
  intro H w S x y v u Q s rx ry q
  unfold gIn at q
  split at q
  · rename_i a ys e
    split at q
    · rename_i bs fa fb
      obtain ⟨c, us, rfl, h1, r1⟩ := viewS_ok ry s e
      cases rx with | p rx =>
        obtain ⟨i1, i2⟩ := flats_ok rx fa r1 fb
        refine ⟨c, us, rfl, h1, flat_v rx fa, i1, ?_⟩
        rw [i2]
        exact PostV.same q s (.p (.bl _))
    · exact q.elim
  · exact q.elim
end
end SV
set_option linter.all false
set_option maxRecDepth 100000
set_option maxHeartbeats 1000000
namespace SV
open PySem PySem.Spec PyProof.Rows L2 NB

/-! ### combinators: functions -/
def fVar (i : Nat) : FE := fun E S => match E[i]? with
  | some (some d) => .ok d S
  | _ => .bad
def fC (d : D) : FE := fun _ S => .ok d S
def fOp (g : D → D → Sto → R D) (a b : FE) : FE := fun E S => (a E S).bind fun x S1 => (b E S1).bind fun y S2 => g x y S2
def fUn (g : D → Sto → R D) (a : FE) : FE := fun E S => (a E S).bind fun x S1 => g x S1
def fNilA : FA := fun _ S => .ok [] S
def fConsA (a : FE) (r : FA) : FA := fun E S => (a E S).bind fun x S1 => (r E S1).bind fun xs S2 => .ok (x :: xs) S2
def fTup (a : FA) : FE := fun E S => (a E S).bind fun xs S1 => if xs.length ≤ sizeLine then .ok (mkT xs) S1 else .bad
def fLst (fz : Bool) (a : FA) : FE := fun E S => (a E S).bind fun xs S1 => if xs.length ≤ sizeLine then newL fz xs S1 else .bad
def gBool (d : D) (S : Sto) : R Bool := match d with
  | .p (.bool b) => .ok b S
  | _ => .bad
/-- whether a thing is true -/
def gTru (d : D) (S : Sto) : R Bool := match d with
  | .p (.bool b) => .ok b S
  | .p .none => .ok false S
  | .p (.int i) => .ok (!(i == 0)) S
  | _ => match viewS d S with
    | some ds => .ok (!ds.isEmpty) S
    | none => .bad
def fTru (a : FE) : FT := fun E S => (a E S).bind gTru
def fB (a : FE) : FT := fun E S => (a E S).bind gBool
def fNotT (a : FT) : FT := fun E S => (a E S).bind fun b S1 => .ok (!b) S1
def fAndT (a b : FT) : FT := fun E S => (a E S).bind fun x S1 => if x then b E S1 else .ok false S1
def fOrT (a b : FT) : FT := fun E S => (a E S).bind fun x S1 => if x then .ok true S1 else b E S1
def fIf (c : FT) (a b : FE) : FE := fun E S => (c E S).bind fun x S1 => if x then a E S1 else b E S1
def fAndV (a b : FE) : FE := fun E S => (a E S).bind fun x S1 => match x with
  | .p (.bool c) => if c then b E S1 else .ok (dBl false) S1
  | _ => .bad
def fOrV (a b : FE) : FE := fun E S => (a E S).bind fun x S1 => match x with
  | .p (.bool c) => if c then .ok (dBl true) S1 else b E S1
  | _ => .bad
def gNotV (d : D) (S : Sto) : R D := match d with
  | .p (.bool c) => .ok (dBl (!c)) S
  | _ => .bad
def fCallB (g : List D → Sto → R D) (a : FA) : FE := fun E S => (a E S).bind g
/-- behind a call of a def: an exception keeps the names' values of the caller -/
def R.at {α : Type} (E : En) : R α → R α
  | .ok x S => .ok x S
  | .exc e _ S => .exc e E S
  | .bad => .bad
abbrev FN := List D → Sto → R D
def fCall (fn : FN) (a : FA) : FE := fun E S => (a E S).bind fun ds S1 => (fn ds S1).at E
def fIx : D → D → Sto → R D := fun x y S => match x, y with
  | .p (.str z), .p (.int i) => match atI z.cps.toList i with
    | some c => if z.length ≤ sizeLine then .ok (.p (.str ⟨#[c]⟩)) S else .bad
    | none => .bad
  | _, .p (.int i) => match viewS x S with
    | some ds => match atI ds i with
      | some d => .ok d S
      | none => .bad
    | none => .bad
  | _, _ => .bad
abbrev FO := En → Sto → R (Option Int)
def fNoO : FO := fun _ S => .ok none S
def fSomeO (a : FE) : FO := fun E S => (a E S).bind fun x S1 => match x with
  | .p (.int i) => .ok (some i) S1
  | _ => .bad
def cutD {α : Type} (xs : List α) (lo hi : Option Int) : List α := (xs.drop (HT.sIx xs.length 0 lo)).take (HT.sIx xs.length xs.length hi - HT.sIx xs.length 0 lo)
def gSl (fz : Bool) (x : D) (lo hi : Option Int) (S : Sto) : R D := match x with
  | .p (.str z) => if z.length ≤ sizeLine then .ok (.p (.str (cutS z lo hi))) S else .bad
  | .scr ns => newL fz ((cutD ns lo hi).map fun i => .p (.int i)) S
  | _ => match viewT x with
    | some ds => .ok (mkT (cutD ds lo hi)) S
    | none => match viewL x S with
      | some ds => newL fz (cutD ds lo hi) S
      | none => .bad
def fSl (fz : Bool) (a : FE) (l h : FO) : FE := fun E S => (a E S).bind fun x S1 => (l E S1).bind fun lo S2 => (h E S2).bind fun hi S3 => gSl fz x lo hi S3

/-! ### .. and their readings -/
section
variable {X : Cx} {W : WX} {a b e : Expr} {es : List Expr} {fa fb fe : FE} {pos : Pos}
theorem re_var {i : Nat} (h : PE X e (tVar i)) : RE X W e (fVar i) := PE.wk h fun σ H Q ⟨w, E, S, hE, hS, hP⟩ => by
  unfold fVar at hP
  split at hP
  · rename_i d q
    obtain ⟨v, h1, h2⟩ := hE.get q
    exact ⟨v, h1, PostV.same hP hS h2⟩
  · exact hP.elim
theorem re_c {v : V} {d : D} (h : PE X e (tC v)) (r : ∀ H w, Rep X.K H w v d) : RE X W e (fC d) := PE.wk h fun σ H Q ⟨w, E, S, hE, hS, hP⟩ => PostV.same hP hS (r H w)
theorem re_int {i j pos} : RE X W (.Constant (.int i) j pos) (fC (.p (.int i))) := re_c pe_int fun _ _ => .p (.int i)
theorem re_bl {i j pos} : RE X W (.Constant (.bool i) j pos) (fC (.p (.bool i))) := re_c pe_bl fun _ _ => .p (.bl i)
theorem re_non {j pos} : RE X W (.Constant .none j pos) (fC (.p .none)) := re_c pe_non fun _ _ => .p .non
theorem re_str {x j pos} : RE X W (.Constant (.str x) j pos) (fC (.p (.str x))) := re_c pe_str fun _ _ => .p (.str x)
/-- two things in a row -/
theorem seq2 {σ : L2.St} {H : Hp} {E : En} {S : Sto} {w : Vw} {fa fb : FE} {k : D → D → Sto → R D} {Q : VK} {R' : V → V → Hp → Prop} (hE : EnR X.K H w E σ) (hS : StR X.K H w S)
    (hP : PostV X.K W H w ((fa E S).bind fun x S1 => (fb E S1).bind fun y S2 => k x y S2) Q)
    (h : ∀ x y S2 H2 w2 v u, StR X.K H2 w2 S2 → Rep X.K H2 w2 v x → Rep X.K H2 w2 u y → PostV X.K W H2 w2 (k x y S2) Q → R' v u H2) :
    teOf X.K W fa σ H fun v H1 => teOf X.K W fb σ H1 fun u H2 => R' v u H2 :=
  ⟨w, E, S, hE, hS, Post.imp (Post.bind hP) fun x S1 H1 w1 e1 s1 q v rv => ⟨w1, E, S1, hE.ext e1, s1, Post.imp (Post.bind q) fun y S2 H2 w2 e2 s2 q2 u ru => h x y S2 H2 w2 v u s2 (rv.ext e2) ru q2⟩⟩
theorem re_op {op : Operator} {r : R2} {g : D → D → Sto → R D} (ho : OpR X (binaryOp op) r) (hk : OpK X.K W r g) (ha : RE X W a fa) (hb : RE X W b fb) : RE X W (.BinOp a op b pos) (fOp g fa fb) :=
  PE.wk (pe_op ho ha hb) fun σ H Q ⟨w, E, S, hE, hS, hP⟩ => seq2 hE hS hP fun x y S2 H2 w2 v u s2 rv ru q => hk H2 w2 S2 x y v u Q s2 rv ru q
theorem re_cmp {op : CmpOp} {r : R2} {g : D → D → Sto → R D} (ho : OpR X (compareOp op) r) (hk : OpK X.K W r g) (ha : RE X W a fa) (hb : RE X W b fb) (hm : behindInMarks op b = false) : RE X W (.Compare a [op] [b] pos) (fOp g fa fb) :=
  PE.wk (pe_cmpR ho ha hb hm) fun σ H Q ⟨w, E, S, hE, hS, hP⟩ => seq2 hE hS hP fun x y S2 H2 w2 v u s2 rv ru q => hk H2 w2 S2 x y v u Q s2 rv ru q
theorem rt_cmp {op : CmpOp} {r : R2} {g : D → D → Sto → R D} (ho : OpR X (compareOp op) r) (hk : OpK X.K W r g) (ha : RE X W a fa) (hb : RE X W b fb) (hm : behindInMarks op b = false) : RT X W (.Compare a [op] [b] pos) (fB (fOp g fa fb)) :=
  PT.wk (pt_cmpR ho ha hb hm) fun σ H Q ⟨w, E, S, hE, hS, hP⟩ => by
    have hP' : PostV X.K W H w (fOp g fa fb E S) (fun v H1 => ∃ k, v = .bl k ∧ Q k H1) := Post.imp (Post.bind hP) fun x S1 H1 w1 e1 s1 q v rv => by
      unfold gBool at q
      split at q
      · cases rv with | p rv => cases rv; exact ⟨_, rfl, Post.same q s1⟩
      · exact q.elim
    exact seq2 hE hS hP' fun x y S2 H2 w2 v u s2 rv ru q => hk H2 w2 S2 x y v u _ s2 rv ru q
/-- a chain a < b < c -/
def fChain (g g' : D → D → Sto → R D) (a b c : FE) : FE := fun E S => (a E S).bind fun x S1 => (b E S1).bind fun y S2 => (g x y S2).bind fun z S3 => match z with
  | .p (.bool k) => if k then (c E S3).bind fun t S4 => g' y t S4 else .ok (dBl false) S3
  | _ => .bad
def UnK (K : PySem.W.Frag) (W : WX) (r : V → Hp → VK → Prop) (g : D → Sto → R D) : Prop :=
  ∀ (H : Hp) (w : Vw) (S : Sto) (x : D) (v : V) (Q : VK), StR K H w S → Rep K H w v x → PostV K W H w (g x S) Q → r v H Q
theorem re_un {op : UnaryOp} {r : V → Hp → VK → Prop} {g : D → Sto → R D} (ho : UnR X (unaryOp op) r) (hk : UnK X.K W r g) (ha : RE X W a fa) : RE X W (.UnaryOp op a pos) (fUn g fa) :=
  PE.wk (pe_un ho ha) fun σ H Q ⟨w, E, S, hE, hS, hP⟩ => ⟨w, E, S, hE, hS, Post.imp (Post.bind hP) fun x S1 H1 w1 e1 s1 q v rv => hk H1 w1 S1 x v Q s1 rv q⟩
def gNeg (d : D) (S : Sto) : R D := match d with
  | .p (.int i) => .ok (.p (.int (-i))) S
  | _ => .bad
theorem unk_neg : UnK X.K W (rU fun i => .int (-i)) gNeg := by
  intro H w S x v Q s r q
  unfold gNeg at q
  split at q
  · cases r with | p r => cases r; exact ⟨_, rfl, PostV.same q s (.p (.int _))⟩
  · exact q.elim
theorem re_not (ha : RE X W a fa) : RE X W (.UnaryOp .Not a pos) (fUn gNotV fa) :=
  PE.wk (pe_not ha) fun σ H Q ⟨w, E, S, hE, hS, hP⟩ => ⟨w, E, S, hE, hS, Post.imp (Post.bind hP) fun x S1 H1 w1 e1 s1 q v rv => by
    unfold gNotV at q
    split at q
    · cases rv with | p rv => cases rv; exact ⟨_, rfl, PostV.same q s1 (.p (.bl _))⟩
    · exact q.elim⟩
theorem re_one {op : BoolOp} {fa : FE} (ha : RE X W a fa) : RE X W (.BoolOp op [a] pos) fa := pe_one ha
theorem re_and {rest : List Expr} (ha : RE X W a fa) (hb : RE X W (.BoolOp .And (b :: rest) pos) fb) : RE X W (.BoolOp .And (a :: b :: rest) pos) (fAndV fa fb) :=
  PE.wk (pe_and ha hb) fun σ H Q ⟨w, E, S, hE, hS, hP⟩ => ⟨w, E, S, hE, hS, Post.imp (Post.bind hP) fun x S1 H1 w1 e1 s1 q v rv => by
    split at q
    · cases rv with | p rv =>
        cases rv
        refine ⟨_, rfl, ?_⟩
        split at q
        · rename_i c; rw [if_pos c]; exact ⟨w1, E, S1, hE.ext e1, s1, q⟩
        · rename_i c; rw [if_neg c]; exact PostV.same q s1 (.p (.bl _))
    · exact q.elim⟩
theorem re_or {rest : List Expr} (ha : RE X W a fa) (hb : RE X W (.BoolOp .Or (b :: rest) pos) fb) : RE X W (.BoolOp .Or (a :: b :: rest) pos) (fOrV fa fb) :=
  PE.wk (pe_or ha hb) fun σ H Q ⟨w, E, S, hE, hS, hP⟩ => ⟨w, E, S, hE, hS, Post.imp (Post.bind hP) fun x S1 H1 w1 e1 s1 q v rv => by
    split at q
    · cases rv with | p rv =>
        cases rv
        refine ⟨_, rfl, ?_⟩
        split at q
        · rename_i c; rw [if_pos c]; exact PostV.same q s1 (.p (.bl _))
        · rename_i c; rw [if_neg c]; exact ⟨w1, E, S1, hE.ext e1, s1, q⟩
    · exact q.elim⟩
theorem re_chain {op op' : CmpOp} {r r' : R2} {g g' : D → D → Sto → R D} {c : Expr} {fc : FE} (ho : OpR X (compareOp op) r) (ho' : OpR X (compareOp op') r') (hk : OpK X.K W r g) (hk' : OpK X.K W r' g')
    (h : ∀ {ta tb tc : TE}, PE X a ta → PE X b tb → PE X c tc → PE X e (tChain r r' ta tb tc)) (ha : RE X W a fa) (hb : RE X W b fb) (hc : RE X W c fc) : RE X W e (fChain g g' fa fb fc) :=
  PE.wk (h ha hb hc) fun σ H Q ⟨w, E, S, hE, hS, hP⟩ =>
    ⟨w, E, S, hE, hS, Post.imp (Post.bind hP) fun x S1 H1 w1 e1 s1 q v rv => ⟨w1, E, S1, hE.ext e1, s1, Post.imp (Post.bind q) fun y S2 H2 w2 e2 s2 q2 u ru =>
      hk H2 w2 S2 x y v u _ s2 (rv.ext e2) ru (Post.imp (Post.bind q2) fun z S3 H3 w3 e3 s3 q3 t rt => by
        split at q3
        · cases rt with | p rt =>
            cases rt
            refine ⟨_, rfl, ?_⟩
            split at q3
            · rename_i c; rw [if_pos c]
              exact ⟨w3, E, S3, ((hE.ext e1).ext e2).ext e3, s3, Post.imp (Post.bind q3) fun t' S4 H4 w4 e4 s4 q4 tv rtv => hk' H4 w4 S4 y t' u tv Q s4 ((ru.ext e3).ext e4) rtv q4⟩
            · rename_i c; rw [if_neg c]; exact PostV.same q3 s3 (.p (.bl _))
        · exact q3.elim)⟩⟩

/-! #### tests -/
theorem rt_tru (ha : RE X W a fa) (he : ∀ whole, isTrue a X.env whole = (do let v ← whole; standAt a.pos; holding [v] (truthy v)) := by intro _; rfl) : RT X W a (fTru fa) :=
  PT.wk (pt_truth ha he) fun σ H Q ⟨w, E, S, hE, hS, hP⟩ => ⟨w, E, S, hE, hS, Post.imp (Post.bind hP) fun x S1 H1 w1 e1 s1 q v rv => by
    unfold gTru at q
    split at q
    · cases rv with | p rv => cases rv; exact ⟨_, rfl, Post.same q s1⟩
    · cases rv with | p rv => cases rv; exact ⟨_, rfl, Post.same q s1⟩
    · cases rv with | p rv => cases rv; exact ⟨_, by first | rfl | simp [TruV, bne], Post.same q s1⟩
    · split at q
      · rename_i ds e
        obtain ⟨a, vs, rfl, h1, r1⟩ := viewS_ok rv s1 e
        have el : vs.isEmpty = ds.isEmpty := by
          cases r1 with
          | nil => rfl
          | cons _ _ => rfl
        refine ⟨!vs.isEmpty, ?_, by rw [el]; exact Post.same q s1⟩
        rcases h1 with h1 | h1
        · exact .inl ⟨vs, h1, rfl⟩
        · exact .inr (.inl ⟨vs, h1, rfl⟩)
      · exact q.elim⟩
theorem rt_not {t : FT} (ha : RT X W a t) : RT X W (.UnaryOp .Not a pos) (fNotT t) :=
  PT.wk (pt_not ha) fun σ H Q ⟨w, E, S, hE, hS, hP⟩ => ⟨w, E, S, hE, hS, Post.imp (Post.bind hP) fun x S1 H1 w1 e1 s1 q => Post.same q s1⟩
abbrev RW (X : Cx) (W : WX) (e : Expr) (f : FT) : Prop := PW X e (ttOf X.K W f)
theorem PW.wk {t t' : TT} (h : PW X e t) (i : ∀ σ H Q, t' σ H Q → t σ H Q) : PW X e t' := ⟨fun wh pins s σ H Q I q => h.run wh pins s σ H Q I (i _ _ _ q)⟩
theorem rw_and1 {t : FT} (ha : RT X W a t) : RW X W (.BoolOp .And [a] pos) t := pw_and1 ha
theorem rw_or1 {t : FT} (ha : RT X W a t) : RW X W (.BoolOp .Or [a] pos) t := pw_or1 ha
theorem rw_and {t u : FT} {rest : List Expr} (ha : RT X W a t) (hb : RW X W (.BoolOp .And (b :: rest) pos) u) : RW X W (.BoolOp .And (a :: b :: rest) pos) (fAndT t u) :=
  PW.wk (pw_and ha hb) fun σ H Q ⟨w, E, S, hE, hS, hP⟩ => ⟨w, E, S, hE, hS, Post.imp (Post.bind hP) fun x S1 H1 w1 e1 s1 q => by
    split at q
    · rename_i c; rw [if_pos c]; exact ⟨w1, E, S1, hE.ext e1, s1, q⟩
    · rename_i c; rw [if_neg c]; exact Post.same q s1⟩
theorem rw_or {t u : FT} {rest : List Expr} (ha : RT X W a t) (hb : RW X W (.BoolOp .Or (b :: rest) pos) u) : RW X W (.BoolOp .Or (a :: b :: rest) pos) (fOrT t u) :=
  PW.wk (pw_or ha hb) fun σ H Q ⟨w, E, S, hE, hS, hP⟩ => ⟨w, E, S, hE, hS, Post.imp (Post.bind hP) fun x S1 H1 w1 e1 s1 q => by
    split at q
    · rename_i c; rw [if_pos c]; exact Post.same q s1
    · rename_i c; rw [if_neg c]; exact ⟨w1, E, S1, hE.ext e1, s1, q⟩⟩
theorem re_if {c : Expr} {t : FT} (hc : RT X W c t) (ha : RE X W a fa) (hb : RE X W b fb) : RE X W (.IfExp c a b pos) (fIf t fa fb) :=
  PE.wk (pe_ifExp hc ha hb) fun σ H Q ⟨w, E, S, hE, hS, hP⟩ => ⟨w, E, S, hE, hS, Post.imp (Post.bind hP) fun x S1 H1 w1 e1 s1 q => by
    split at q
    · rename_i c; rw [if_pos c]; exact ⟨w1, E, S1, hE.ext e1, s1, q⟩
    · rename_i c; rw [if_neg c]; exact ⟨w1, E, S1, hE.ext e1, s1, q⟩⟩

/-! #### arguments, displays, calls -/
theorem ra_nil : RA X W [] fNilA := PA.wk pa_nil fun σ H Q ⟨w, E, S, hE, hS, hP⟩ => Post.same hP hS [] .nil
theorem ra_cons {f : FA} (ha : RE X W e fe) (hr : RA X W es f) (hs : starEach (e :: es) X.env = (false, eval e X.env) :: starEach es X.env := by rfl) : RA X W (e :: es) (fConsA fe f) :=
  PA.wk (pa_cons ha hr hs) fun σ H Q ⟨w, E, S, hE, hS, hP⟩ =>
    ⟨w, E, S, hE, hS, Post.imp (Post.bind hP) fun x S1 H1 w1 e1 s1 q v rv => ⟨w1, E, S1, hE.ext e1, s1, Post.imp (Post.bind q) fun y S2 H2 w2 e2 s2 q2 u ru => Post.same q2 s2 _ (.cons (rv.ext e2) ru)⟩⟩
theorem re_tup {f : FA} {x1} (ha : RA X W es f) : RE X W (.Tuple es x1 pos) (fTup f) :=
  PE.wk (pe_tup ha) fun σ H Q ⟨w, E, S, hE, hS, hP⟩ => ⟨w, E, S, hE, hS, Post.imp (Post.bind hP) fun x S1 H1 w1 e1 s1 q vs rv => by
    split at q
    · rename_i c; exact ⟨by rw [rv.len]; exact c, fun p hp => PostV.newT q s1 hp rv⟩
    · exact q.elim⟩
theorem re_lst {f : FA} (fz : Bool) (ha : RA X W es f) : RE X W (.List es pos) (fLst fz f) :=
  PE.wk (pe_lst ha) fun σ H Q ⟨w, E, S, hE, hS, hP⟩ => ⟨w, E, S, hE, hS, Post.imp (Post.bind hP) fun x S1 H1 w1 e1 s1 q vs rv => by
    split at q
    · rename_i c; exact ⟨by rw [rv.len]; exact c, fun p hp => PostV.newL q s1 hp rv⟩
    · exact q.elim⟩
def CallK (K : PySem.W.Frag) (W : WX) (r : List V → Hp → VK → Prop) (g : List D → Sto → R D) : Prop :=
  ∀ (H : Hp) (w : Vw) (S : Sto) (ds : List D) (vs : List V) (Q : VK), StR K H w S → Reps K H w vs ds → PostV K W H w (g ds S) Q → r vs H Q
/-- a built-in function or type called: h is pe_callB .. or pe_callTy .. -/
theorem re_callB {r : List V → Hp → VK → Prop} {g : List D → Sto → R D} {f : FA} {args : List Expr} (h : ∀ {t : TA}, PA X args t → PE X e (tCB r t)) (hk : CallK X.K W r g) (ha : RA X W args f) : RE X W e (fCallB g f) :=
  PE.wk (h ha) fun σ H Q ⟨w, E, S, hE, hS, hP⟩ => ⟨w, E, S, hE, hS, Post.imp (Post.bind hP) fun x S1 H1 w1 e1 s1 q vs rv => hk H1 w1 S1 x vs Q s1 rv q⟩
/-- index -/
def rIxAll (K : PySem.W.Frag) : R2 := fun x y H Q => (rIxS x y H Q ∨ rIxL K x y H Q) ∨ rIxT K x y H Q
theorem ix_all : IxR X (rIxAll X.K) := (ix_str.or ix_list).or ix_tup
theorem atI_len {α β : Type} {xs : List α} {ys : List β} (h : xs.length = ys.length) {i : Int} {y : β} (e : atI ys i = some y) : ∃ j, ixN ys.length i = some j ∧ ys[j]? = some y ∧ ∀ x, xs[j]? = some x → atI xs i = some x := by
  unfold atI at e
  cases q : ixN ys.length i with
  | none => rw [q] at e; cases e
  | some j =>
    rw [q] at e
    exact ⟨j, rfl, e, fun x hx => by unfold atI; rw [h, q]; exact hx⟩
theorem opk_ix : OpK X.K W (rIxAll X.K) fIx := by
  intro H w S x y v u Q s rx ry q
  unfold fIx at q
  split at q
  · split at q
    · rename_i c e
      split at q
      · rename_i hl
        cases rx with | p rx => cases rx; cases ry with | p ry => cases ry; exact .inl (.inl ⟨_, _, _, rfl, rfl, hl, e, PostV.same q s (.p (.str _))⟩)
      · exact q.elim
    · exact q.elim
  · split at q
    · rename_i ds e
      split at q
      · rename_i d ed
        obtain ⟨a, vs, rfl, h1, r1⟩ := viewS_ok rx s e
        obtain ⟨j, j1, j2, j3⟩ := atI_len r1.len ed
        obtain ⟨z, hz, rz⟩ := r1.get j2
        cases ry with | p ry =>
          cases ry
          rcases h1 with h1 | h1
          · exact .inl (.inr ⟨a, vs, _, z, rfl, rfl, h1, j3 z hz, PostV.same q s rz⟩)
          · exact .inr ⟨a, vs, _, z, rfl, rfl, h1, j3 z hz, PostV.same q s rz⟩
      · exact q.elim
    · exact q.elim
  · exact q.elim
theorem re_ix (ha : RE X W a fa) (hb : RE X W b fb) (hs : PlainIx b) : RE X W (.Subscript a b pos) (fOp fIx fa fb) :=
  PE.wk (pe_ix ix_all ha hb hs) fun σ H Q ⟨w, E, S, hE, hS, hP⟩ => seq2 hE hS hP fun x y S2 H2 w2 v u s2 rv ru q => opk_ix H2 w2 S2 x y v u Q s2 rv ru q
/-! #### slices -/
abbrev RO (X : Cx) (W : WX) (e : Option Expr) (f : FO) : Prop := PO X e (fun σ H Q => ∃ w E S, EnR X.K H w E σ ∧ StR X.K H w S ∧ Post X.K W H w (f E S) fun d _ H' w' => Q d H')
theorem ro_none : RO X W none fNoO := ⟨fun pins s σ H Q I ⟨w, E, S, hE, hS, hP⟩ => po_none.run pins s σ H Q I (Post.same hP hS)⟩
theorem ro_some (ha : RE X W e fe) : RO X W (some e) (fSomeO fe) := ⟨fun pins s σ H Q I ⟨w, E, S, hE, hS, hP⟩ => (po_some ha).run pins s σ H Q I ⟨w, E, S, hE, hS, Post.imp (Post.bind hP) fun x S1 H1 w1 e1 s1 q v rv => by
    split at q
    · cases rv with | p rv => cases rv; exact ⟨_, rfl, Post.same q s1⟩
    · exact q.elim⟩⟩
def rSlAll (K : PySem.W.Frag) : V → Option Int → Option Int → Hp → VK → Prop := fun x lo hi H Q => (rSlS x lo hi H Q ∨ rSlL K x lo hi H Q) ∨ rSlA K x lo hi H Q
theorem sl_all : SlR X (rSlAll X.K) := (SlR.or sl_str sl_list).or sl_tupA
theorem Reps.cut {K : PySem.W.Frag} {H : Hp} {w : Vw} {vs : List V} {ds : List D} (r : Reps K H w vs ds) (lo hi : Option Int) : Reps K H w (cutV vs lo hi) (cutD ds lo hi) := by
  unfold cutV cutD
  rw [r.len]
  exact (r.drop _).take _
theorem cut_whole {α : Type} {xs : List α} {lo hi : Option Int} (h : HT.sIx xs.length 0 lo = 0 ∧ HT.sIx xs.length xs.length hi = xs.length) : cutD xs lo hi = xs := by
  unfold cutD
  rw [h.1, h.2, List.drop_zero, Nat.sub_zero, List.take_length]
theorem re_sl {lo hi : Option Expr} {fl fh : FO} {p2 : Pos} (fz : Bool) (ha : RE X W a fa) (hl : RO X W lo fl) (hh : RO X W hi fh) : RE X W (.Subscript a (.Slice lo hi none p2) pos) (fSl fz fa fl fh) :=
  PE.wk (pe_slice sl_all ha hl hh) fun σ H Q ⟨w, E, S, hE, hS, hP⟩ =>
    ⟨w, E, S, hE, hS, Post.imp (Post.bind hP) fun x S1 H1 w1 e1 s1 q v rv => ⟨w1, E, S1, hE.ext e1, s1, Post.imp (Post.bind q) fun l S2 H2 w2 e2 s2 q2 => ⟨w2, E, S2, (hE.ext e1).ext e2, s2, Post.imp (Post.bind q2) fun h S3 H3 w3 e3 s3 q3 => by
      have rv3 := (rv.ext e2).ext e3
      unfold gSl at q3
      split at q3
      · split at q3
        · rename_i c
          cases rv3 with | p rv => cases rv; exact .inl (.inl ⟨_, rfl, c, PostV.same q3 s3 (.p (.str _))⟩)
        · exact q3.elim
      · rename_i ns
        cases rv3 with | scr rv =>
          refine .inl (.inr ⟨_, _, rfl, rv.sq, fun p hp => ?_⟩)
          refine PostV.newL q3 s3 hp ?_
          have : cutV (ns.map V.int) l h = (cutD ns l h).map V.int := by
            unfold cutV cutD
            rw [List.length_map, List.map_take, List.map_drop]
          rw [this]
          exact ints_rep _
      · split at q3
        · rename_i ds e
          obtain ⟨b, vs, rfl, h1, r1⟩ := viewT_ok rv3 e
          refine .inr ⟨b, vs, rfl, h1, fun c => PostV.same q3 s3 (rep_tup h1 ?_), fun _ p hp => PostV.newT q3 s3 hp (r1.cut l h)⟩
          rw [r1.len] at c
          rw [cut_whole c]
          exact r1
        · split at q3
          · rename_i ds e
            obtain ⟨b, vs, rfl, h1, r1⟩ := viewL_ok rv3 s3 e
            exact .inl (.inr ⟨b, vs, rfl, SqL.of h1, fun p hp => PostV.newL q3 s3 hp (r1.cut l h)⟩)
          · exact q3.elim⟩⟩⟩
end
end SV
set_option linter.all false
set_option maxRecDepth 100000
set_option maxHeartbeats 1000000
namespace SV
open PySem PySem.Spec PyProof.Rows L2 NB

/-! ### statements: functions -/
def fSkip : FS := fun E S => .ok (.nx E) S
def fSeq (a b : FS) : FS := fun E S => (a E S).bind fun fl S1 => match fl with
  | .nx E1 => b E1 S1
  | fl => .ok fl S1
def fSet (i : Nat) (a : FE) : FS := fun E S => (a E S).bind fun d S1 => .ok (.nx (E.set i (some d))) S1
def fDrop (a : FE) : FS := fun E S => (a E S).bind fun _ S1 => .ok (.nx E) S1
def fRet (a : FE) : FS := fun E S => (a E S).bind fun d S1 => .ok (.ret d) S1
def fRetN : FS := fun _ S => .ok (.ret (.p .none)) S
def fIfS (c : FT) (a b : FS) : FS := fun E S => (c E S).bind fun t S1 => if t then a E S1 else b E S1
def fBrk : FS := fun E S => .ok (.brk E) S
def fCt : FS := fun E S => .ok (.ct E) S
def fAug (i : Nat) (g : D → D → Sto → R D) (a : FE) : FS := fun E S => match E[i]? with
  | some (some x) => (a E S).bind fun y S1 => (g x y S1).bind fun z S2 => .ok (.nx (E.set i (some z))) S2
  | _ => .bad
def whileN (c : FT) (b : FS) : Nat → En → Sto → R Fl
  | 0, _, _ => .bad
  | n + 1, E, S => (c E S).bind fun t S1 => if t then (b E S1).bind fun fl S2 => match fl with
      | .nx E2 => whileN c b n E2 S2
      | .ct E2 => whileN c b n E2 S2
      | .brk E2 => .ok (.nx E2) S2
      | .ret d => .ok (.ret d) S2
    else .ok (.nx E) S1
def fuelOf : Nat := 1000000
def fWhile (c : FT) (b : FS) : FS := fun E S => whileN c b fuelOf E S

/-! ### targets -/
abbrev FG := D → En → Sto → R En
abbrev FGs := List D → En → Sto → R En
def gNm (i : Nat) : FG := fun d E S => .ok (E.set i (some d)) S
def gTp (n : Nat) (f : FGs) : FG := fun d E S => match viewT d with
  | some ds => if ds.length = n then f ds E S else .bad
  | none => match viewL d S with
    | some ds => if ds.length = n then f ds E S else .bad
    | none => .bad
def gN0 : FGs := fun ds E S => match ds with
  | [] => .ok E S
  | _ => .bad
def gC0 (f : FG) (r : FGs) : FGs := fun ds E S => match ds with
  | d :: t => (f d E S).bind fun E1 S1 => r t E1 S1
  | [] => .bad
/-- o[i] = .. -/
def setAt (o i d : D) (S : Sto) : R Unit := match o, i with
  | .ref r, .p (.int k) => match S[r]? with
    | some (.lst ds) => match ixN ds.length k with
      | some j => .ok () (S.set r (.lst (ds.set j d)))
      | none => .bad
    | _ => .bad
  | _, _ => .bad
def gSb (o i : FE) : FG := fun d E S => (o E S).bind fun x S1 => (i E S1).bind fun y S2 => (setAt x y d S2).bind fun _ S3 => .ok E S3
def fAsg (a : FE) (g : FG) : FS := fun E S => (a E S).bind fun d S1 => (g d E S1).bind fun E1 S2 => .ok (.nx E1) S2
def fPar (i j : Nat) (a : FA) : FS := fun E S => (a E S).bind fun ds S1 => match ds with
  | [x, y] => .ok (.nx ((E.set i (some x)).set j (some y))) S1
  | _ => .bad

section
variable (K : PySem.W.Frag) (W : WX)
def tgOf (f : FG) : TG := fun v σ H Q => ∃ w E S d, EnR K H w E σ ∧ StR K H w S ∧ Rep K H w v d ∧ Post K W H w (f d E S) fun E' _ H' w' => ∀ σ', EnR K H' w' E' σ' → Q σ' H'
def tgsOf (f : FGs) : TGs := fun vs σ H Q => ∃ w E S ds, EnR K H w E σ ∧ StR K H w S ∧ Reps K H w vs ds ∧ Post K W H w (f ds E S) fun E' _ H' w' => ∀ σ', EnR K H' w' E' σ' → Q σ' H'
end
abbrev RG (X : Cx) (W : WX) (e : Expr) (f : FG) : Prop := PG X e (tgOf X.K W f)
abbrev RGs (X : Cx) (W : WX) (e : List Expr) (f : FGs) : Prop := PGs X e (tgsOf X.K W f)
theorem PG.wk {X : Cx} {e : Expr} {t t' : TG} (h : PG X e t) (i : ∀ v σ H Q, t' v σ H Q → t v σ H Q) : PG X e t' := ⟨fun pins s σ H v u Q I r q => h.run pins s σ H v u Q I r (i _ _ _ _ q)⟩
theorem PGs.wk {X : Cx} {e : List Expr} {t t' : TGs} (h : PGs X e t) (i : ∀ v σ H Q, t' v σ H Q → t v σ H Q) : PGs X e t' := ⟨fun pins s σ H v u Q I r q => h.run pins s σ H v u Q I r (i _ _ _ _ q)⟩

section
variable {X : Cx} {W : WX} {a b e : Expr} {es : List Expr} {fa fb fe : FE} {pos : Pos} {st : Stmt} {rest sts : List Stmt} {f g : FS} {c : Expr} {t : FT}
theorem rss_nil : RSs X W [] fSkip := PSs.wk pss_nil fun D_ σ H ⟨w, E, S, hE, hS, hP⟩ => Post.same (κ := fun fl _ H' w' => FlQ X.K D_ fl H' w') hP hS σ hE
/-- what follows -/
theorem flq_seq {w : Vw} {H : Hp} {D_ : Ends} {r : R Fl} {g : FS} (h : Post X.K W H w (r.bind fun fl S1 => match fl with | .nx E1 => g E1 S1 | fl => .ok fl S1) fun fl _ H' w' => FlQ X.K D_ fl H' w') :
    Post X.K W H w r fun fl _ H' w' => FlQ X.K { D_ with nx := tsOf X.K W g D_ } fl H' w' :=
  Post.imp (Post.bind h) fun fl S1 H1 w1 e1 s1 q => by
    cases fl with
    | nx E1 => exact fun σ1 hE1 => ⟨w1, E1, S1, hE1, s1, q⟩
    | ret d => exact Post.same (κ := fun fl _ H' w' => FlQ X.K D_ fl H' w') q s1
    | brk E1 => exact Post.same (κ := fun fl _ H' w' => FlQ X.K D_ fl H' w') q s1
    | ct E1 => exact Post.same (κ := fun fl _ H' w' => FlQ X.K D_ fl H' w') q s1
theorem rss_cons (h1 : RS X W st f) (h2 : RSs X W rest g) : RSs X W (st :: rest) (fSeq f g) :=
  PSs.wk (pss_cons h1 h2) fun D_ σ H ⟨w, E, S, hE, hS, hP⟩ => ⟨w, E, S, hE, hS, flq_seq hP⟩
theorem rss_one (h1 : RS X W st f) : RSs X W [st] f := PSs.wk (pss_one h1) fun D_ σ H q => q
theorem rs_brk : RS X W (.Break pos) fBrk := PS.wk ps_break fun D_ σ H ⟨w, E, S, hE, hS, hP⟩ => Post.same (κ := fun fl _ H' w' => FlQ X.K D_ fl H' w') hP hS σ hE
theorem rs_ct : RS X W (.Continue pos) fCt := PS.wk ps_continue fun D_ σ H ⟨w, E, S, hE, hS, hP⟩ => Post.same (κ := fun fl _ H' w' => FlQ X.K D_ fl H' w') hP hS σ hE
theorem rs_pass : RS X W (.Pass pos) fSkip := PS.wk ps_pass fun D_ σ H ⟨w, E, S, hE, hS, hP⟩ => Post.same (κ := fun fl _ H' w' => FlQ X.K D_ fl H' w') hP hS σ hE
theorem rs_doc {x j pos pos'} : RS X W (.Expr (.Constant (.str x) j pos) pos') fSkip := PS.wk ps_doc fun D_ σ H ⟨w, E, S, hE, hS, hP⟩ => Post.same (κ := fun fl _ H' w' => FlQ X.K D_ fl H' w') hP hS σ hE
theorem flq_same {H : Hp} {w : Vw} {S : Sto} {fl : Fl} {D_ : Ends} (h : Post X.K W H w (.ok fl S) fun fl _ H' w' => FlQ X.K D_ fl H' w') (s : StR X.K H w S) : FlQ X.K D_ fl H w := Post.same (κ := fun fl _ H' w' => FlQ X.K D_ fl H' w') h s
theorem rs_set {i : Nat} {x : Str} {pos' : Pos} (hN : X.N.Nodup) (hi : X.N[i]? = some x) (hx : Loc X.env.scope x) (he : RE X W e fe) (hs : swapsWith e (some (.Name x pos')) pos.line X.env = pure false := by rfl) (hf : X.fn x = true ∨ X.env.scope.names.lookup x = some .local := by first | exact .inl rfl | exact .inr rfl | assumption) :
    RS X W (.Assign [.Name x pos'] e pos) (fSet i fe) :=
  PS.wk (ps_set hN hi hx he hs hf) fun D_ σ H ⟨w, E, S, hE, hS, hP⟩ => ⟨w, E, S, hE, hS, Post.imp (Post.bind hP) fun d S1 H1 w1 e1 s1 q v rv => flq_same (D_ := D_) q s1 _ ((hE.ext e1).set rv i)⟩
theorem rs_expr (he : RE X W e fe) (hs : swapsWith e none pos.line X.env = pure false := by rfl) : RS X W (.Expr e pos) (fDrop fe) :=
  PS.wk (ps_expr he hs) fun D_ σ H ⟨w, E, S, hE, hS, hP⟩ => ⟨w, E, S, hE, hS, Post.imp (Post.bind hP) fun d S1 H1 w1 e1 s1 q v rv => flq_same (D_ := D_) q s1 _ (hE.ext e1)⟩
theorem rs_ret (he : RE X W e fe) : RS X W (.Return (some e) pos) (fRet fe) :=
  PS.wk (ps_ret he) fun D_ σ H ⟨w, E, S, hE, hS, hP⟩ => ⟨w, E, S, hE, hS, Post.imp (Post.bind hP) fun d S1 H1 w1 e1 s1 q v rv => flq_same (D_ := D_) q s1 _ rv⟩
theorem rs_retN : RS X W (.Return none pos) fRetN := PS.wk ps_retN fun D_ σ H ⟨w, E, S, hE, hS, hP⟩ => flq_same (D_ := D_) hP hS _ (.p .non)
theorem rs_if {a b : List Stmt} (hc : RT X W c t) (ha : RSs X W a f) (hb : RSs X W b g) : RS X W (.If c a b pos) (fIfS t f g) :=
  PS.wk (ps_if hc ha hb) fun D_ σ H ⟨w, E, S, hE, hS, hP⟩ => ⟨w, E, S, hE, hS, Post.imp (Post.bind hP) fun x S1 H1 w1 e1 s1 q => by
    split at q
    · rename_i c; rw [if_pos c]; exact ⟨w1, E, S1, hE.ext e1, s1, q⟩
    · rename_i c; rw [if_neg c]; exact ⟨w1, E, S1, hE.ext e1, s1, q⟩⟩
theorem rs_aug {i : Nat} {x : Str} {op : Operator} {r : R2} {g : D → D → Sto → R D} {pos' : Pos} (hN : X.N.Nodup) (hi : X.N[i]? = some x) (hx : Loc X.env.scope x) (he : RE X W e fe) (ho : PIp X op r) (hk : OpK X.K W r g)
    (hf : X.fn x = true ∨ X.env.scope.names.lookup x = some .local := by first | exact .inl rfl | exact .inr rfl | assumption) : RS X W (.AugAssign (.Name x pos') op e pos) (fAug i g fe) :=
  PS.wk (ps_aug hN hi hx he ho hf) fun D_ σ H ⟨w, E, S, hE, hS, hP⟩ => by
    unfold fAug at hP
    split at hP
    · rename_i d q
      obtain ⟨v, h1, h2⟩ := hE.get q
      exact ⟨v, h1, w, E, S, hE, hS, Post.imp (Post.bind hP) fun y S1 H1 w1 e1 s1 q u ru => hk H1 w1 S1 d y v u _ s1 (h2.ext e1) ru (Post.imp (Post.bind q) fun z S2 H2 w2 e2 s2 q2 zv rz => flq_same (D_ := D_) q2 s2 _ (((hE.ext e1).ext e2).set rz i))⟩
    · exact hP.elim
theorem rs_while {body : List Stmt} (hp : PassesOwn (model X.prog X.w) X.A X.env X.xe) (hc : RT X W c t) (hb : RSs X W body f) : RS X W (.While c body [] pos) (fWhile t f) :=
  PS.wk (ps_while hp hc hb) fun D_ σ H ⟨w, E, S, hE, hS, hP⟩ => by
    refine ⟨fun m σ H => ∃ w E S, EnR X.K H w E σ ∧ StR X.K H w S ∧ Post X.K W H w (whileN t f m E S) fun fl _ H' w' => FlQ X.K D_ fl H' w', ⟨_, w, E, S, hE, hS, hP⟩, ?_⟩
    rintro m σ H ⟨w, E, S, hE, hS, hP⟩
    cases m with
    | zero => exact hP.elim
    | succ n =>
      refine ⟨w, E, S, hE, hS, Post.imp (Post.bind hP) fun x S1 H1 w1 e1 s1 q => ?_⟩
      split at q
      · rename_i c
        rw [if_pos c]
        refine ⟨fun σ' H' => ∃ w E S, EnR X.K H' w E σ' ∧ StR X.K H' w S ∧ Post X.K W H' w (whileN t f n E S) fun fl _ H' w' => FlQ X.K D_ fl H' w', fun σ' H' z => ⟨n, Nat.lt_succ_self n, z⟩, ?_⟩
        refine ⟨w1, E, S1, hE.ext e1, s1, Post.imp (Post.bind q) fun fl S2 H2 w2 e2 s2 q2 => ?_⟩
        cases fl with
        | nx E2 => exact fun σ2 h2 => ⟨w2, E2, S2, h2, s2, q2⟩
        | ct E2 => exact fun σ2 h2 => ⟨w2, E2, S2, h2, s2, q2⟩
        | brk E2 => exact flq_same (D_ := D_) q2 s2
        | ret d => exact flq_same (D_ := D_) q2 s2
      · rename_i c
        rw [if_neg c]
        exact flq_same (D_ := D_) q s1 _ (hE.ext e1)
/-! #### targets -/
theorem rg_nm {i : Nat} {x : Str} (hN : X.N.Nodup) (hi : X.N[i]? = some x) (hx : Loc X.env.scope x) (hf : X.fn x = true ∨ X.env.scope.names.lookup x = some .local := by first | exact .inl rfl | exact .inr rfl | assumption) : RG X W (.Name x pos) (gNm i) :=
  PG.wk (pg_name hN hi hx hf) fun v σ H Q ⟨w, E, S, d, hE, hS, rv, hP⟩ => Post.same (κ := fun E' _ H' w' => ∀ σ', EnR X.K H' w' E' σ' → Q σ' H') hP hS _ (hE.set rv i)
theorem rgs_nil : RGs X W [] gN0 := PGs.wk pgs_nil fun v σ H Q ⟨w, E, S, ds, hE, hS, rv, hP⟩ => by
  unfold gN0 at hP
  split at hP
  · cases rv; exact ⟨rfl, Post.same (κ := fun E' _ H' w' => ∀ σ', EnR X.K H' w' E' σ' → Q σ' H') hP hS _ hE⟩
  · exact hP.elim
theorem rgs_cons {f : FG} {r : FGs} (h1 : RG X W e f) (h2 : RGs X W es r) (hs : (assignEach (e :: es) X.env).map (·.2) = assign e X.env :: (assignEach es X.env).map (·.2) := by rfl) : RGs X W (e :: es) (gC0 f r) :=
  PGs.wk (pgs_cons h1 h2 hs) fun v σ H Q ⟨w, E, S, ds, hE, hS, rv, hP⟩ => by
    unfold gC0 at hP
    split at hP
    · cases rv with | cons r1 r2 =>
        exact ⟨_, _, rfl, w, E, S, _, hE, hS, r1, Post.imp (Post.bind hP) fun E1 S1 H1 w1 e1 s1 q σ1 hE1 => ⟨w1, E1, S1, _, hE1, s1, r2.ext e1, q⟩⟩
    · exact hP.elim
theorem PG.both {X : Cx} {e : Expr} {t t' : TG} (h : PG X e t) (h' : PG X e t') : PG X e fun v σ H Q => t v σ H Q ∨ t' v σ H Q :=
  ⟨fun pins s σ H v u Q I r q => q.elim (h.run pins s σ H v u Q I r) (h'.run pins s σ H v u Q I r)⟩
theorem rg_tp {k n : Nat} {f : FGs} (hc : X.calm = true) (h : RGs X W es f) (hn : (assignEach es X.env).length = n := by rfl) (hst : (assignEach es X.env).findIdx? (·.1) = none := by rfl) : RG X W (.Tuple es k pos) (gTp n f) :=
  PG.wk (PG.both (pg_tup hc h hn hst) (pg_lst hc h hn hst)) fun v σ H Q ⟨w, E, S, d, hE, hS, rv, hP⟩ => by
    unfold gTp at hP
    split at hP
    · rename_i ds e
      split at hP
      · rename_i c
        obtain ⟨a, vs, rfl, h1, r1⟩ := viewT_ok rv e
        exact .inl ⟨a, vs, rfl, h1, by rw [r1.len]; exact c, w, E, S, ds, hE, hS, r1, hP⟩
      · exact hP.elim
    · split at hP
      · rename_i ds e
        split at hP
        · rename_i c
          obtain ⟨a, vs, rfl, h1, r1⟩ := viewL_ok rv hS e
          exact .inr ⟨a, vs, rfl, SqL.of h1, by rw [r1.len]; exact c, w, E, S, ds, hE, hS, r1, hP⟩
        · exact hP.elim
      · exact hP.elim
theorem rg_sb {o i : Expr} {fo fi : FE} (ho : RE X W o fo) (hi : RE X W i fi)
    (ha : ∀ v, assign (.Subscript o i pos) X.env v = (do
      let ov ← holding [v] (eval o X.env)
      let iv ← holding [v, ov] (eval i X.env)
      standAt pos
      holding [v, ov, iv] (setItem ov iv v)
      release [v, ov, iv] []) := by intro _; rfl) : RG X W (.Subscript o i pos) (gSb fo fi) :=
  PG.wk (pg_sub ho hi set_list ha) fun v σ H Q ⟨w, E, S, d, hE, hS, rv, hP⟩ =>
    ⟨w, E, S, hE, hS, Post.imp (Post.bind hP) fun x S1 H1 w1 e1 s1 q xv rx => ⟨w1, E, S1, hE.ext e1, s1, Post.imp (Post.bind q) fun y S2 H2 w2 e2 s2 q2 yv ry => by
      have q3 := Post.bind q2
      have rx2 := rx.ext e2
      unfold setAt at q3
      split at q3
      · rename_i r k
        split at q3
        · rename_i ds es'
          split at q3
          · rename_i j ej
            obtain ⟨a, ho, m1, m2, m3⟩ := s2.get es'
            cases rx2 with | ref rx2 =>
              rw [rx2] at m1
              obtain rfl := (Option.some.inj m1).symm
              cases ho with
              | lst vs =>
                cases ry with | p ry =>
                  cases ry
                  have rl : Reps X.K H2 w2 vs ds := m3
                  have em : a ∈ w2.M := List.mem_of_getElem? rx2
                  have ex : Ext X.K H2 w2 (upd H2 a (.lst (vs.set j v))) w2 := Ext.put m2 (by simp) (by simp) em
                  refine ⟨a, vs, k, j, rfl, rfl, m2, by rw [rl.len]; exact ej, ?_⟩
                  have st' : StR X.K (upd H2 a (.lst (vs.set j v))) w2 (S2.set r (.lst (ds.set j d))) :=
                    s2.put rx2 m2 (by simp) (by simp) (Reps.set j (rl.ext ex) (((rv.ext e1).ext e2).ext ex))
                  have q4 := q3 _ _ ex st'
                  exact Post.same (κ := fun E' _ H' w' => ∀ σ', EnR X.K H' w' E' σ' → Q σ' H') q4 st' _ (((hE.ext e1).ext e2).ext ex)
              | _ => exact m3.elim
          · exact q3.elim
        · exact q3.elim
      · exact q3.elim⟩⟩
theorem rs_asg {tg e : Expr} {g : FG} (he : RE X W e fe) (hg : RG X W tg g) (hs : swapsWithSole [tg] e pos.line X.env = pure false := by rfl) (hw : swappedStores [tg] e X.env = pure none := by rfl)
    (h1 : (assignEach [tg] X.env).map (·.2) = [assign tg X.env] := by rfl) : RS X W (.Assign [tg] e pos) (fAsg fe g) :=
  PS.wk (ps_asg he hg hs hw h1) fun D_ σ H ⟨w, E, S, hE, hS, hP⟩ => ⟨w, E, S, hE, hS, Post.imp (Post.bind hP) fun d S1 H1 w1 e1 s1 q v rv =>
    ⟨w1, E, S1, d, hE.ext e1, s1, rv, Post.imp (Post.bind q) fun E2 S2 H2 w2 e2 s2 q2 σ2 hE2 => flq_same (D_ := D_) q2 s2 σ2 hE2⟩⟩
theorem rs_par {i j : Nat} {x y : Str} {a b : Expr} {f : FA} {px py pt : Pos} {kt k2 pt2} (hc : X.calm = true) (hN : X.N.Nodup) (hi : X.N[i]? = some x) (hj : X.N[j]? = some y) (hij : i ≠ j)
    (hx : X.env.scope.names.lookup x = some .local) (hy : X.env.scope.names.lookup y = some .local) (ha : RA X W [a, b] f)
    (hw : swappedStores [.Tuple [.Name x px, .Name y py] kt pt] (.Tuple [a, b] k2 pt2) X.env = pure (some [x, y]))
    (hs : swapsWithSole [.Tuple [.Name x px, .Name y py] kt pt] (.Tuple [a, b] k2 pt2) pos.line X.env = pure false := by rfl) :
    RS X W (.Assign [.Tuple [.Name x px, .Name y py] kt pt] (.Tuple [a, b] k2 pt2) pos) (fPar i j f) :=
  PS.wk (ps_par hc hN hi hj hij hx hy ha hw hs) fun D_ σ H ⟨w, E, S, hE, hS, hP⟩ => ⟨w, E, S, hE, hS, Post.imp (Post.bind hP) fun ds S1 H1 w1 e1 s1 q vs rv => by
    split at q
    · cases rv with | cons r1 r2 =>
        cases r2 with | cons r2 r3 =>
          cases r3
          exact ⟨_, _, rfl, flq_same (D_ := D_) q s1 _ (((hE.ext e1).set r1 i).set r2 j)⟩
    · exact q.elim⟩
end
end SV
set_option linter.all false
set_option maxRecDepth 100000
set_option maxHeartbeats 4000000
namespace NB
open PySem PySem.Spec PyProof.Rows L2
/-! ### data made of tuples alone: it stays whatever is changed -/
mutual
inductive Tp (H : Hp) : V → PyData → Prop
  | non : Tp H .non .none
  | bl (b : Bool) : Tp H (.bl b) (.bool b)
  | int (i : Int) : Tp H (.int i) (.int i)
  | str (x : Str) : Tp H (.str x) (.str x)
  | tup {a : Addr} {xs : List V} {ds : List PyData} : H a = some (.tup xs) → TpAll H xs ds → Tp H (.ref a) (.tuple ds)
inductive TpAll (H : Hp) : List V → List PyData → Prop
  | nil : TpAll H [] []
  | cons {v : V} {vs : List V} {d : PyData} {ds : List PyData} : Tp H v d → TpAll H vs ds → TpAll H (v :: vs) (d :: ds)
end
/-- tuples stay -/
def TK (H H' : Hp) : Prop := ∀ b xs, H b = some (.tup xs) → H' b = some (.tup xs)
theorem TK.refl (H : Hp) : TK H H := fun _ _ h => h
theorem TK.trans {H H1 H2 : Hp} (a : TK H H1) (b : TK H1 H2) : TK H H2 := fun c xs h => b c xs (a c xs h)
theorem TK.of {H H' : Hp} (h : Same H H') : TK H H' := fun b xs e => h b _ e
theorem TK.new {H : Hp} {p : Addr} {o : HO} (h : H p = none) : TK H (upd H p o) := fun b xs e => by rw [upd_ne (ne_of_none e h)]; exact e
theorem TK.put {H : Hp} {p : Addr} {o o' : HO} (h : H p = some o) (hn : ∀ xs, o ≠ .tup xs) : TK H (upd H p o') := fun b xs e => by
  have : b ≠ p := ne_of e h (fun q => hn xs q.symm)
  rw [upd_ne this]; exact e
theorem Kp.tk {a l : Addr} {H H' : Hp} (k : Kp a l H H') (d : Deal H a l) : TK H H' := fun b xs e => k.tup d e
theorem Same.new {H : Hp} {p : Addr} {o : HO} (h : H p = none) : Same H (upd H p o) := fun b u e => by rw [upd_ne (ne_of_none e h)]; exact e
theorem Same.new1 {H H1 : Hp} {p : Addr} {o : HO} (s : Same H H1) (h : H1 p = none) : Same H (upd H1 p o) := s.trans (Same.new h)
theorem Same.put {H H1 : Hp} {p : Addr} {o : HO} (s : Same H H1) (h : H p = none) : Same H (upd H1 p o) := fun b u e => by rw [upd_ne (ne_of_none e h)]; exact s b u e
mutual
theorem Tp.mono {H H' : Hp} (k : TK H H') : ∀ (d : PyData) (v : V), Tp H v d → Tp H' v d
  | .none, _, h => by cases h; exact .non
  | .bool b, _, h => by cases h; exact .bl b
  | .int i, _, h => by cases h; exact .int i
  | .str x, _, h => by cases h; exact .str x
  | .tuple ds, _, h => by
    cases h with
    | tup h1 h2 => exact .tup (k _ _ h1) (TpAll.mono k ds _ h2)
  | .list _, _, h => by cases h
  | .dict _, _, h => by cases h
theorem TpAll.mono {H H' : Hp} (k : TK H H') : ∀ (ds : List PyData) (vs : List V), TpAll H vs ds → TpAll H' vs ds
  | [], _, h => by cases h; exact .nil
  | d :: r, _, h => by
    cases h with
    | cons h1 h2 => exact .cons (Tp.mono k d _ h1) (TpAll.mono k r _ h2)
end
theorem Tp.m {H H' : Hp} {v : V} {d : PyData} (h : Tp H v d) (k : TK H H') : Tp H' v d := Tp.mono k d v h
theorem TpAll.m {H H' : Hp} {vs : List V} {ds : List PyData} (h : TpAll H vs ds) (k : TK H H') : TpAll H' vs ds := TpAll.mono k ds vs h
mutual
theorem Tp.dp {K : PySem.W.Frag} {H : Hp} : ∀ (d : PyData) (v : V), Tp H v d → Dp K H v d
  | .none, _, h => by cases h; exact .non
  | .bool b, _, h => by cases h; exact .bl b
  | .int i, _, h => by cases h; exact .int i
  | .str x, _, h => by cases h; exact .str x
  | .tuple ds, _, h => by
    cases h with
    | tup h1 h2 => exact .tup (SqT.of h1) (TpAll.dp ds _ h2)
  | .list _, _, h => by cases h
  | .dict _, _, h => by cases h
theorem TpAll.dp {K : PySem.W.Frag} {H : Hp} : ∀ (ds : List PyData) (vs : List V), TpAll H vs ds → DpAll K H vs ds
  | [], _, h => by cases h; exact .nil
  | d :: r, _, h => by
    cases h with
    | cons h1 h2 => exact .cons (Tp.dp d _ h1) (TpAll.dp r _ h2)
end
theorem Tp.inv {H : Hp} {v : V} {ds : List PyData} (h : Tp H v (.tuple ds)) : ∃ a vs, v = .ref a ∧ H a = some (.tup vs) ∧ TpAll H vs ds := by
  cases h with
  | tup h1 h2 => exact ⟨_, _, rfl, h1, h2⟩
theorem TpAll.len {H : Hp} : ∀ {vs : List V} {ds : List PyData}, TpAll H vs ds → vs.length = ds.length
  | _, _, .nil => rfl
  | _, _, .cons _ h => by rw [List.length_cons, List.length_cons, h.len]
theorem TpAll.get {H : Hp} : ∀ {vs : List V} {ds : List PyData} {i : Nat} {v : V}, TpAll H vs ds → vs[i]? = some v → ∃ d, ds[i]? = some d ∧ Tp H v d
  | _, _, _, _, .nil, e => by simp at e
  | _, _, 0, _, .cons h _, e => by simp at e; subst e; exact ⟨_, rfl, h⟩
  | _, _, i + 1, _, .cons _ h, e => by
    obtain ⟨d, e1, e2⟩ := h.get (i := i) (by simpa using e)
    exact ⟨d, by simpa using e1, e2⟩
theorem TpAll.append {H : Hp} : ∀ {vs ws : List V} {ds es : List PyData}, TpAll H vs ds → TpAll H ws es → TpAll H (vs ++ ws) (ds ++ es)
  | _, _, _, _, .nil, h => h
  | _, _, _, _, .cons h t, q => .cons h (t.append q)
theorem TpAll.cons_inv {H : Hp} {vs : List V} {d : PyData} {ds : List PyData} (h : TpAll H vs (d :: ds)) : ∃ v r, vs = v :: r ∧ Tp H v d ∧ TpAll H r ds := by
  cases h with
  | cons h1 h2 => exact ⟨_, _, rfl, h1, h2⟩
theorem TpAll.snoc_inv {H : Hp} : ∀ {ds : List PyData} {vs : List V} {d : PyData}, TpAll H vs (ds ++ [d]) → ∃ pre v, vs = pre ++ [v] ∧ Tp H v d
  | [], _, _, h => by
    obtain ⟨v, r, rfl, h1, h2⟩ := h.cons_inv
    cases h2
    exact ⟨[], v, rfl, h1⟩
  | e :: ds, _, _, h => by
    obtain ⟨v, r, rfl, h1, h2⟩ := TpAll.cons_inv (d := e) (ds := ds ++ [_]) h
    obtain ⟨pre, v', rfl, h3⟩ := TpAll.snoc_inv h2
    exact ⟨v :: pre, v', rfl, h3⟩
theorem TpAll.nil_inv {H : Hp} {vs : List V} (h : TpAll H vs []) : vs = [] := by cases h; rfl
theorem Tp.int_inv {H : Hp} {v : V} {i : Int} (h : Tp H v (.int i)) : v = .int i := by cases h; rfl
theorem Tp.str_inv {H : Hp} {v : V} {i : Str} (h : Tp H v (.str i)) : v = .str i := by cases h; rfl
theorem TpAll.ints {H : Hp} : ∀ {ns : List Int} {vs : List V}, TpAll H vs (ns.map PyData.int) → vs = ns.map V.int
  | [], _, h => h.nil_inv
  | n :: r, _, h => by
    obtain ⟨v, vs, rfl, h1, h2⟩ := h.cons_inv
    rw [h1.int_inv, h2.ints]; rfl
theorem tpInts {H : Hp} : ∀ ns : List Int, TpAll H (ns.map V.int) (ns.map PyData.int)
  | [] => .nil
  | n :: r => .cons (.int n) (tpInts r)
theorem TpAll.drop {H : Hp} {vs : List V} {ds : List PyData} (h : TpAll H vs ds) : ∀ n : Nat, TpAll H (vs.drop n) (ds.drop n) := by
  intro n
  induction n generalizing vs ds with
  | zero => exact h
  | succ n ih =>
    cases h with
    | nil => exact .nil
    | cons _ h => exact ih h
theorem TpAll.take {H : Hp} {vs : List V} {ds : List PyData} (h : TpAll H vs ds) : ∀ n : Nat, TpAll H (vs.take n) (ds.take n) := by
  intro n
  induction n generalizing vs ds with
  | zero => exact .nil
  | succ n ih =>
    cases h with
    | nil => exact .nil
    | cons h1 h => exact .cons h1 (ih h)

theorem atI0 {v : V} {vs : List V} : atI (v :: vs) 0 = some v := atI_nat (xs := v :: vs) (j := 0) rfl
theorem atI1 {v u : V} {vs : List V} : atI (v :: u :: vs) 1 = some u := atI_nat (xs := v :: u :: vs) (j := 1) rfl
theorem atILast {vs : List V} {v : V} : atI (vs ++ [v]) (-1) = some v := by
  unfold atI ixN
  rw [List.length_append, List.length_singleton, if_neg (by omega), if_pos (by omega)]
  have q : ((-1 : Int) + ((vs.length + 1 : Nat) : Int)).toNat = vs.length := by omega
  simp only [Option.bind_some, q]
  simp
/-! ### rules -/
inductive LK | least | most | add deriving DecidableEq
inductive Un | times (m : Int) | part (d : Int) | clip (lo hi : Int) | frm (w : Int) | bar (k lo hi : Int) | row (ws : List Int)
inductive Rl
  | is (w : Int) | hear (j : Int) | lst (k : LK) (ps : List Rl) | mid (a b c : Rl) | un (u : Un) (a : Rl)
def LK.w : LK → Str | .least => "least" | .most => "most" | .add => "add"
def Un.w : Un → Str | .times _ => "times" | .part _ => "part" | .clip _ _ => "clip" | .frm _ => "from" | .bar _ _ _ => "bar" | .row _ => "row"
def Un.d : Un → List PyData
  | .times m => [.int m] | .part d => [.int d] | .clip a b => [.int a, .int b] | .frm w => [.int w] | .bar a b c => [.int a, .int b, .int c] | .row ws => [.tuple (ws.map PyData.int)]
namespace Rl
mutual
def toD : Rl → PyData
  | .is w => .tuple [.str "is", .int w]
  | .hear j => .tuple [.str "hear", .int j]
  | .lst k ps => .tuple [.str k.w, .tuple (toDs ps)]
  | .mid a b c => .tuple [.str "middle", toD a, toD b, toD c]
  | .un u a => .tuple (.str u.w :: (u.d ++ [toD a]))
def toDs : List Rl → List PyData
  | [] => []
  | r :: rs => toD r :: toDs rs
end
mutual
def brs : Rl → List Int
  | .is _ => []
  | .hear j => [j]
  | .lst _ ps => brsA ps
  | .mid a b c => brs a ++ (brs b ++ (brs c ++ []))
  | .un _ a => brs a ++ []
def brsA : List Rl → List Int
  | [] => []
  | r :: rs => brs r ++ brsA rs
end
mutual
def dep : Rl → Nat
  | .is _ => 0
  | .hear _ => 0
  | .lst _ ps => depA ps + 1
  | .mid a b c => max (dep a) (max (dep b) (max (dep c) 0)) + 1
  | .un _ a => max (dep a) 0 + 1
def depA : List Rl → Nat
  | [] => 0
  | r :: rs => max (dep r) (depA rs)
end
mutual
def cnt : Rl → Nat
  | .is _ => 1
  | .hear _ => 1
  | .lst _ ps => cntA ps + 1
  | .mid a b c => cnt a + (cnt b + (cnt c + 0)) + 1
  | .un _ a => (cnt a + 0) + 1
def cntA : List Rl → Nat
  | [] => 0
  | r :: rs => cnt r + cntA rs
end
def parts : Rl → List Rl
  | .is _ => [] | .hear _ => [] | .lst _ ps => ps | .mid a b c => [a, b, c] | .un _ a => [a]
def word : Rl → Str
  | .is _ => "is" | .hear _ => "hear" | .lst k _ => k.w | .mid _ _ _ => "middle" | .un u _ => u.w
def isLeaf : Rl → Bool | .is _ => true | .hear _ => true | _ => false
def isLst : Rl → Bool | .lst _ _ => true | _ => false
def isMid : Rl → Bool | .mid _ _ _ => true | _ => false
def isHear : Rl → Bool | .hear _ => true | _ => false
theorem noHear : ∀ {r : Rl}, (∀ j, r ≠ .hear j) → r.isHear = false
  | .is _, _ => rfl | .hear j, h => absurd rfl (h j) | .lst _ _, _ => rfl | .mid _ _ _, _ => rfl | .un _ _, _ => rfl
theorem depA_le {ps : List Rl} {p : Rl} (h : p ∈ ps) : dep p ≤ depA ps := by
  induction ps with
  | nil => cases h
  | cons q r ih =>
    simp only [depA]
    rcases List.mem_cons.mp h with e | e
    · rw [e]; omega
    · have := ih e; omega
theorem dep_parts : ∀ r : Rl, r.parts ≠ [] → r.dep = depA r.parts + 1
  | .is _, h => absurd rfl h
  | .hear _, h => absurd rfl h
  | .lst _ ps, _ => by simp only [dep, parts]
  | .mid a b c, _ => by simp only [dep, parts, depA]
  | .un _ a, _ => by simp only [dep, parts, depA]
theorem part_dep {r p : Rl} (h : p ∈ r.parts) : p.dep + 1 ≤ r.dep := by
  have h1 := depA_le h
  have h2 := dep_parts r (fun e => by rw [e] at h; cases h)
  omega
theorem brs_parts : ∀ r : Rl, (∀ j, r ≠ .hear j) → r.brs = brsA r.parts
  | .is _, _ => by simp only [brs, parts, brsA]
  | .hear j, h => absurd rfl (h j)
  | .lst _ ps, _ => by simp only [brs, parts]
  | .mid a b c, _ => by simp only [brs, parts, brsA]
  | .un _ a, _ => by simp only [brs, parts, brsA]
theorem cnt_parts : ∀ r : Rl, r.cnt = cntA r.parts + 1
  | .is _ => by simp only [cnt, parts, cntA]
  | .hear j => by simp only [cnt, parts, cntA]
  | .lst _ ps => by simp only [cnt, parts]
  | .mid a b c => by simp only [cnt, parts, cntA]
  | .un _ a => by simp only [cnt, parts, cntA]
theorem brsA_app : ∀ ps qs : List Rl, brsA (ps ++ qs) = brsA ps ++ brsA qs
  | [], qs => by simp only [List.nil_append, brsA]
  | p :: ps, qs => by simp only [List.cons_append, brsA, brsA_app ps qs, List.append_assoc]
theorem toDs_map : ∀ ps : List Rl, toDs ps = ps.map toD
  | [] => rfl
  | p :: ps => by simp only [toDs, toDs_map ps, List.map_cons]
mutual
theorem brs_cnt : ∀ r : Rl, r.brs.length ≤ r.cnt
  | .is _ => by simp only [brs, cnt, List.length_nil]; omega
  | .hear _ => by simp only [brs, cnt, List.length_cons, List.length_nil]; omega
  | .lst _ ps => by simp only [brs, cnt]; have := brsA_cnt ps; omega
  | .mid a b c => by
    simp only [brs, cnt, List.length_append, List.length_nil]
    have := brs_cnt a; have := brs_cnt b; have := brs_cnt c; omega
  | .un _ a => by simp only [brs, cnt, List.length_append, List.length_nil]; have := brs_cnt a; omega
theorem brsA_cnt : ∀ ps : List Rl, (brsA ps).length ≤ cntA ps
  | [] => by simp only [brsA, cntA, List.length_nil]; omega
  | p :: ps => by simp only [brsA, cntA, List.length_append]; have := brs_cnt p; have := brsA_cnt ps; omega
end
theorem len_cntA : ∀ ps : List Rl, ps.length ≤ cntA ps
  | [] => Nat.le_refl _
  | p :: ps => by
    simp only [cntA, List.length_cons]
    have := len_cntA ps
    have := cnt_parts p
    omega
theorem cntA_le {ps : List Rl} {p : Rl} (h : p ∈ ps) : cnt p ≤ cntA ps := by
  induction ps with
  | nil => cases h
  | cons q r ih =>
    simp only [cntA]
    rcases List.mem_cons.mp h with e | e
    · rw [e]; omega
    · have := ih e; omega
theorem part_cnt {r p : Rl} (h : p ∈ r.parts) : p.cnt + 1 ≤ r.cnt := by
  have h1 := cntA_le h
  have h2 := cnt_parts r
  omega
theorem cntA_app : ∀ ps qs : List Rl, cntA (ps ++ qs) = cntA ps + cntA qs
  | [], qs => by simp only [List.nil_append, cntA]; omega
  | p :: ps, qs => by simp only [List.cons_append, cntA, cntA_app ps qs]; omega
/-- its first two entries, whatever kind it is -/
theorem toD_word : ∀ r : Rl, ∃ ds, r.toD = .tuple (.str r.word :: ds)
  | .is w => ⟨[.int w], by simp only [toD, word]⟩
  | .hear j => ⟨[.int j], by simp only [toD, word]⟩
  | .lst k ps => ⟨[.tuple (toDs ps)], by simp only [toD, word]⟩
  | .mid a b c => ⟨[toD a, toD b, toD c], by simp only [toD, word]⟩
  | .un u a => ⟨u.d ++ [toD a], by simp only [toD, word]⟩
end Rl
theorem w_leaf : ∀ r : Rl, inV (.str r.word) [.str "is", .str "hear"] = r.isLeaf
  | .is _ => (by decide +kernel : inV (.str "is") [.str "is", .str "hear"] = true)
  | .hear _ => (by decide +kernel : inV (.str "hear") [.str "is", .str "hear"] = true)
  | .lst .least _ => (by decide +kernel : inV (.str "least") [.str "is", .str "hear"] = false)
  | .lst .most _ => (by decide +kernel : inV (.str "most") [.str "is", .str "hear"] = false)
  | .lst .add _ => (by decide +kernel : inV (.str "add") [.str "is", .str "hear"] = false)
  | .mid _ _ _ => (by decide +kernel : inV (.str "middle") [.str "is", .str "hear"] = false)
  | .un (.times _) _ => (by decide +kernel : inV (.str "times") [.str "is", .str "hear"] = false)
  | .un (.part _) _ => (by decide +kernel : inV (.str "part") [.str "is", .str "hear"] = false)
  | .un (.clip _ _) _ => (by decide +kernel : inV (.str "clip") [.str "is", .str "hear"] = false)
  | .un (.frm _) _ => (by decide +kernel : inV (.str "from") [.str "is", .str "hear"] = false)
  | .un (.bar _ _ _) _ => (by decide +kernel : inV (.str "bar") [.str "is", .str "hear"] = false)
  | .un (.row _) _ => (by decide +kernel : inV (.str "row") [.str "is", .str "hear"] = false)
theorem w_list : ∀ r : Rl, inV (.str r.word) [.str "least", .str "most", .str "add"] = r.isLst
  | .is _ => (by decide +kernel : inV (.str "is") [.str "least", .str "most", .str "add"] = false)
  | .hear _ => (by decide +kernel : inV (.str "hear") [.str "least", .str "most", .str "add"] = false)
  | .lst .least _ => (by decide +kernel : inV (.str "least") [.str "least", .str "most", .str "add"] = true)
  | .lst .most _ => (by decide +kernel : inV (.str "most") [.str "least", .str "most", .str "add"] = true)
  | .lst .add _ => (by decide +kernel : inV (.str "add") [.str "least", .str "most", .str "add"] = true)
  | .mid _ _ _ => (by decide +kernel : inV (.str "middle") [.str "least", .str "most", .str "add"] = false)
  | .un (.times _) _ => (by decide +kernel : inV (.str "times") [.str "least", .str "most", .str "add"] = false)
  | .un (.part _) _ => (by decide +kernel : inV (.str "part") [.str "least", .str "most", .str "add"] = false)
  | .un (.clip _ _) _ => (by decide +kernel : inV (.str "clip") [.str "least", .str "most", .str "add"] = false)
  | .un (.frm _) _ => (by decide +kernel : inV (.str "from") [.str "least", .str "most", .str "add"] = false)
  | .un (.bar _ _ _) _ => (by decide +kernel : inV (.str "bar") [.str "least", .str "most", .str "add"] = false)
  | .un (.row _) _ => (by decide +kernel : inV (.str "row") [.str "least", .str "most", .str "add"] = false)
theorem w_mid : ∀ r : Rl, decide (V.str r.word = V.str "middle") = r.isMid
  | .is _ => (by decide +kernel : decide (V.str "is" = V.str "middle") = false)
  | .hear _ => (by decide +kernel : decide (V.str "hear" = V.str "middle") = false)
  | .lst .least _ => (by decide +kernel : decide (V.str "least" = V.str "middle") = false)
  | .lst .most _ => (by decide +kernel : decide (V.str "most" = V.str "middle") = false)
  | .lst .add _ => (by decide +kernel : decide (V.str "add" = V.str "middle") = false)
  | .mid _ _ _ => (by decide +kernel : decide (V.str "middle" = V.str "middle") = true)
  | .un (.times _) _ => (by decide +kernel : decide (V.str "times" = V.str "middle") = false)
  | .un (.part _) _ => (by decide +kernel : decide (V.str "part" = V.str "middle") = false)
  | .un (.clip _ _) _ => (by decide +kernel : decide (V.str "clip" = V.str "middle") = false)
  | .un (.frm _) _ => (by decide +kernel : decide (V.str "from" = V.str "middle") = false)
  | .un (.bar _ _ _) _ => (by decide +kernel : decide (V.str "bar" = V.str "middle") = false)
  | .un (.row _) _ => (by decide +kernel : decide (V.str "row" = V.str "middle") = false)
theorem w_hear : ∀ r : Rl, decide (V.str r.word = V.str "hear") = r.isHear
  | .is _ => (by decide +kernel : decide (V.str "is" = V.str "hear") = false)
  | .hear _ => (by decide +kernel : decide (V.str "hear" = V.str "hear") = true)
  | .lst .least _ => (by decide +kernel : decide (V.str "least" = V.str "hear") = false)
  | .lst .most _ => (by decide +kernel : decide (V.str "most" = V.str "hear") = false)
  | .lst .add _ => (by decide +kernel : decide (V.str "add" = V.str "hear") = false)
  | .mid _ _ _ => (by decide +kernel : decide (V.str "middle" = V.str "hear") = false)
  | .un (.times _) _ => (by decide +kernel : decide (V.str "times" = V.str "hear") = false)
  | .un (.part _) _ => (by decide +kernel : decide (V.str "part" = V.str "hear") = false)
  | .un (.clip _ _) _ => (by decide +kernel : decide (V.str "clip" = V.str "hear") = false)
  | .un (.frm _) _ => (by decide +kernel : decide (V.str "from" = V.str "hear") = false)
  | .un (.bar _ _ _) _ => (by decide +kernel : decide (V.str "bar" = V.str "hear") = false)
  | .un (.row _) _ => (by decide +kernel : decide (V.str "row" = V.str "hear") = false)
/-- a rule's parts, as its tuple holds them -/
theorem rule_tup {H : Hp} {v : V} {r : Rl} (h : Tp H v r.toD) : ∃ a vs, v = .ref a ∧ H a = some (.tup (.str r.word :: vs)) ∧ Tp H v r.toD := by
  obtain ⟨ds, e⟩ := r.toD_word
  have h' := h
  rw [e] at h'
  obtain ⟨a, vs, rfl, h1, h2⟩ := h'.inv
  obtain ⟨v0, r0, rfl, h3, h4⟩ := h2.cons_inv
  rw [h3.str_inv] at h1
  exact ⟨a, r0, rfl, h1, h⟩
theorem TpAll.part {H : Hp} : ∀ {ps : List Rl} {vs : List V} {i : Nat} {v : V}, TpAll H vs (Rl.toDs ps) → vs[i]? = some v → ∃ p, ps[i]? = some p ∧ p ∈ ps ∧ Tp H v p.toD
  | [], _, _, _, h, e => by
    simp only [Rl.toDs] at h
    rw [h.nil_inv] at e; simp at e
  | p :: ps, _, i, _, h, e => by
    simp only [Rl.toDs] at h
    obtain ⟨v0, r, rfl, h1, h2⟩ := h.cons_inv
    cases i with
    | zero =>
      simp at e; subst e
      exact ⟨p, rfl, List.mem_cons_self, h1⟩
    | succ i =>
      obtain ⟨q, e1, e2, e3⟩ := TpAll.part h2 (i := i) (by simpa using e)
      exact ⟨q, by simpa using e1, List.mem_cons_of_mem _ e2, e3⟩
theorem Rl.brsA_take {ps : List Rl} {i : Nat} {p : Rl} (h : ps[i]? = some p) : brsA (ps.take (i + 1)) = brsA (ps.take i) ++ p.brs := by
  rw [List.take_add_one, h, Option.toList_some, brsA_app]
  simp only [brsA, List.append_nil]
theorem Rl.toDs_len : ∀ ps : List Rl, (toDs ps).length = ps.length
  | [] => rfl
  | p :: ps => by simp only [toDs, List.length_cons, toDs_len ps]
theorem Rl.brsA_take_le (ps : List Rl) (i : Nat) : (brsA (ps.take i)).length ≤ cntA ps := by
  have h := brsA_app (ps.take i) (ps.drop i)
  rw [List.take_append_drop] at h
  have h2 := brsA_cnt ps
  have h3 := congrArg List.length h
  rw [List.length_append] at h3
  omega
/-! ### what the text's defs of rules promise -/
def spIn : Sp := fun vs H Q _ => ∃ (v : V) (r : Rl), vs = [v] ∧ Tp H v r.toD ∧ ∀ (b : Addr) (xs : List V) (H' : Hp), Same H H' → H' b = some (.tup xs) → TpAll H' xs (Rl.toDs r.parts) → Q (.ref b) H'
def spBr (n : Nat) : Sp := fun vs H Q _ => ∃ (v : V) (r : Rl), vs = [v] ∧ Tp H v r.toD ∧ r.dep + 1 ≤ n ∧ r.cnt ≤ 100000 ∧ ∀ (b : Addr) (H' : Hp), Same H H' → H' b = some (.tup (r.brs.map V.int)) → Q (.ref b) H'
end NB
set_option linter.all false
set_option maxRecDepth 100000
set_option maxHeartbeats 4000000
namespace NB
open PySem PySem.Spec PyProof.Rows L2
/-! ### what a drawn rule is like -/
def Un.ok (n top : Int) (any : Bool) : Un → Prop
  | .times m => 0 ≤ m ∧ m < 3
  | .part d => 1 ≤ d ∧ d < 4
  | .clip a b => 0 ≤ a ∧ a ≤ top ∧ a ≤ b ∧ b < a + 3
  | .frm w => 0 ≤ w ∧ w ≤ top + 1
  | .bar k a b => 0 ≤ k ∧ k ≤ top + 1 ∧ 0 ≤ a ∧ a ≤ top ∧ 0 ≤ b ∧ b ≤ top
  | .row ws => ws ≠ [] ∧ (ws.length : Int) ≤ top + 1 ∧ (∀ x ∈ ws, 0 ≤ x ∧ x ≤ top) ∧ (any = false → ws.Pairwise (· ≤ ·))
namespace Rl
mutual
def ok (n top : Int) (any : Bool) : Rl → Prop
  | .is w => 0 ≤ w ∧ w ≤ top
  | .hear j => 0 ≤ j ∧ j < n
  | .lst _ ps => ps ≠ [] ∧ ps.length ≤ 2 ∧ okA n top any ps
  | .mid a b c => ok n top any a ∧ ok n top any b ∧ ok n top any c
  | .un u a => u.ok n top any ∧ ok n top any a
def okA (n top : Int) (any : Bool) : List Rl → Prop
  | [] => True
  | r :: rs => ok n top any r ∧ okA n top any rs
end
theorem okA_all {n top : Int} {any : Bool} : ∀ {ps : List Rl}, okA n top any ps ↔ ∀ p ∈ ps, ok n top any p
  | [] => by simp [okA]
  | p :: ps => by simp only [okA, List.mem_cons, forall_eq_or_imp, okA_all]
/-- a rule that a draw of a depth can give -/
structure Drawn (n top : Int) (any : Bool) (deep : Nat) (r : Rl) : Prop where
  ok : r.ok n top any
  dep : r.dep ≤ deep
  cnt : r.cnt ≤ 4 ^ deep
theorem cntA_two {ps : List Rl} {c : Nat} (h : ∀ p ∈ ps, p.cnt ≤ c) : cntA ps ≤ ps.length * c := by
  induction ps with
  | nil => simp [cntA]
  | cons p ps ih =>
    have h1 := h p List.mem_cons_self
    have h2 := ih fun q hq => h q (List.mem_cons_of_mem _ hq)
    simp only [cntA, List.length_cons]
    rw [Nat.add_mul]
    omega
theorem depA_all {ps : List Rl} {d : Nat} (h : ∀ p ∈ ps, p.dep ≤ d) : depA ps ≤ d := by
  induction ps with
  | nil => simp [depA]
  | cons p ps ih =>
    have h1 := h p List.mem_cons_self
    have h2 := ih fun q hq => h q (List.mem_cons_of_mem _ hq)
    simp only [depA]
    omega
theorem pow4 (d : Nat) : 1 ≤ 4 ^ d := Nat.pow_pos (by decide)
theorem Drawn.leafI {n top : Int} {any : Bool} {w : Int} (d : Nat) (h : 0 ≤ w ∧ w ≤ top) : Drawn n top any d (.is w) := ⟨by simpa only [Rl.ok] using h, by simp only [Rl.dep]; omega, by simp only [Rl.cnt]; exact pow4 d⟩
theorem Drawn.leafH {n top : Int} {any : Bool} {w : Int} (d : Nat) (h : 0 ≤ w ∧ w < n) : Drawn n top any d (.hear w) := ⟨by simpa only [Rl.ok] using h, by simp only [Rl.dep]; omega, by simp only [Rl.cnt]; exact pow4 d⟩
theorem Drawn.lst {n top : Int} {any : Bool} {d : Nat} {k : LK} {ps : List Rl} (h0 : ps ≠ []) (h2 : ps.length ≤ 2) (h : ∀ p ∈ ps, Drawn n top any d p) : Drawn n top any (d + 1) (.lst k ps) := by
  refine ⟨?_, ?_, ?_⟩
  · simp only [Rl.ok]
    exact ⟨h0, h2, okA_all.mpr fun p hp => (h p hp).ok⟩
  · simp only [Rl.dep]
    have := depA_all fun p hp => (h p hp).dep
    omega
  · simp only [Rl.cnt]
    have h3 := cntA_two fun p hp => (h p hp).cnt
    have h4 : ps.length * 4 ^ d ≤ 2 * 4 ^ d := Nat.mul_le_mul_right _ h2
    have h5 := pow4 d
    rw [Nat.pow_succ]
    omega
theorem Drawn.mid {n top : Int} {any : Bool} {a b c : Rl} (ha : Drawn n top any 0 a) (hb : Drawn n top any 0 b) (hc : Drawn n top any 0 c) : Drawn n top any 1 (.mid a b c) := by
  have a1 := ha.dep; have a2 := ha.cnt; have b1 := hb.dep; have b2 := hb.cnt; have c1 := hc.dep; have c2 := hc.cnt
  refine ⟨by simp only [Rl.ok]; exact ⟨ha.ok, hb.ok, hc.ok⟩, by simp only [Rl.dep]; omega, by simp only [Rl.cnt]; omega⟩
theorem Drawn.un {n top : Int} {any : Bool} {d : Nat} {u : Un} {a : Rl} (hu : u.ok n top any) (ha : Drawn n top any d a) : Drawn n top any (d + 1) (.un u a) := by
  have a1 := ha.dep; have a2 := ha.cnt; have h5 := pow4 d
  refine ⟨by simp only [Rl.ok]; exact ⟨hu, ha.ok⟩, by simp only [Rl.dep]; omega, ?_⟩
  simp only [Rl.cnt]
  rw [Nat.pow_succ]
  omega
theorem Drawn.mono {n top : Int} {any : Bool} {d e : Nat} {a : Rl} (h : Drawn n top any d a) (k : d ≤ e) : Drawn n top any e a := ⟨h.ok, Nat.le_trans h.dep k, Nat.le_trans h.cnt (Nat.pow_le_pow_right (by decide) k)⟩
end Rl
/-- _law_rule(deal, n, top, deep, any_row) -/
def spRule (m : Nat) : Sp := fun vs H Q _ => ∃ (a l : Addr) (n top : Int) (deep : Nat) (any : Bool), vs = [.ref a, .int n, .int top, .int deep, .bl any] ∧ Deal H a l ∧ 1 ≤ n ∧ n ≤ 1000 ∧ 0 ≤ top ∧ top ≤ 50 ∧ deep + 1 ≤ m ∧
  ∀ (v : V) (r : Rl) (H' : Hp), Tp H' v r.toD → r.Drawn n top any deep → Deal H' a l → Kp a l H H' → Q v H'
theorem Rl.toDs_app : ∀ ps qs : List Rl, toDs (ps ++ qs) = toDs ps ++ toDs qs
  | [], _ => rfl
  | p :: ps, qs => by simp only [List.cons_append, toDs, Rl.toDs_app ps qs]
theorem Deal.a_some {H : Hp} {a l : Addr} (d : Deal H a l) {p : Addr} (h : H p = none) : p ≠ a ∧ p ≠ l := by
  obtain ⟨_, _, d⟩ := d
  exact ⟨fun e => (by rw [e, d.ob] at h; cases h), fun e => (by rw [e, d.li] at h; cases h)⟩
theorem Deal.putO {a l : Addr} {H : Hp} {p : Addr} {o : HO} (d : Deal H a l) (h1 : p ≠ a) (h2 : p ≠ l) : Deal (upd H p o) a l := by
  obtain ⟨ns, b, d⟩ := d
  exact ⟨ns, b, by rw [upd_ne h1.symm]; exact d.ob, by rw [upd_ne h2.symm]; exact d.li, d.nn, d.ln, d.b0, d.b1⟩
/-- a list of rules, as it is drawn -/
def RuleL (n top : Int) (any : Bool) (d : Nat) (a l D : Addr) (H0 : Hp) (i : Nat) (H : Hp) : Prop := ∃ (vs : List V) (rs : List Rl), vs.length = i ∧ rs.length = i ∧ H D = some (.lst vs) ∧ TpAll H vs (Rl.toDs rs) ∧
  (∀ r ∈ rs, r.Drawn n top any d) ∧ Deal H a l ∧ Kp a l H0 H ∧ D ≠ a ∧ D ≠ l ∧ H0 D = none
theorem RuleL.start {n top : Int} {any : Bool} {d : Nat} {a l D : Addr} {H0 H1 : Hp} (h : H1 D = none) (dl : Deal H1 a l) (k : Kp a l H0 H1) (h0 : H0 D = none) : RuleL n top any d a l D H0 0 (upd H1 D (.lst [])) :=
  ⟨[], [], rfl, rfl, upd_same, .nil, by simp, dl.new h, k.new1 h, (dl.a_some h).1, (dl.a_some h).2, h0⟩
theorem RuleL.step {n top : Int} {any : Bool} {d : Nat} {a l D : Addr} {H0 H1 H2 : Hp} {i : Nat} (h : RuleL n top any d a l D H0 i H1) (hi : i < 1000) {v : V} {r : Rl} (tv : Tp H2 v r.toD) (dr : r.Drawn n top any d) (dl : Deal H2 a l) (k : Kp a l H1 H2) :
    ∃ acc, H2 D = some (.lst acc) ∧ acc.length < sizeLine ∧ RuleL n top any d a l D H0 (i + 1) (upd H2 D (.lst (acc ++ [v]))) := by
  obtain ⟨vs, rs, h1, h2, h3, h4, h5, h6, h7, h8, h9, h0⟩ := h
  have h3' := k D _ h3 h8 h9
  have tk := k.tk h6
  have tp : TK H2 (upd H2 D (.lst (vs ++ [v]))) := TK.put h3' (fun _ => by simp)
  refine ⟨vs, h3', by have := sizeLine_eq; rw [sizeLine_eq]; omega, vs ++ [v], rs ++ [r], by rw [List.length_append, h1]; rfl, by rw [List.length_append, h2]; rfl, upd_same, ?_, ?_, dl.putO h8 h9, ?_, h8, h9, h0⟩
  · rw [Rl.toDs_app]
    exact ((h4.m tk).m tp).append (.cons (tv.m tp) .nil)
  · intro x hx
    rcases List.mem_append.mp hx with q | q
    · exact h5 x q
    · rw [List.mem_singleton.mp q]; exact dr
  · intro c o e e1 e2
    have q : c ≠ D := fun e' => by rw [e', h0] at e; cases e
    rw [upd_ne q]
    exact k c o (h7 c o e e1 e2) e1 e2
/-- a list of numbers, as it is drawn -/
def IntL (lo hi : Int) (a l D : Addr) (H0 : Hp) (i : Nat) (H : Hp) : Prop := ∃ ns : List Int, ns.length = i ∧ H D = some (.lst (ns.map V.int)) ∧ (∀ n ∈ ns, lo ≤ n ∧ n ≤ hi) ∧ Deal H a l ∧ Kp a l H0 H ∧ D ≠ a ∧ D ≠ l ∧ H0 D = none
theorem IntL.start {lo hi : Int} {a l D : Addr} {H0 H1 : Hp} (h : H1 D = none) (dl : Deal H1 a l) (k : Kp a l H0 H1) (h0 : H0 D = none) : IntL lo hi a l D H0 0 (upd H1 D (.lst [])) :=
  ⟨[], rfl, upd_same, by simp, dl.new h, k.new1 h, (dl.a_some h).1, (dl.a_some h).2, h0⟩
theorem IntL.step {lo hi : Int} {a l D : Addr} {H0 H1 H2 : Hp} {i : Nat} (h : IntL lo hi a l D H0 i H1) (hlt : i < 1000) {v : Int} (hv : lo ≤ v ∧ v ≤ hi) (dl : Deal H2 a l) (k : Kp a l H1 H2) :
    ∃ acc, H2 D = some (.lst acc) ∧ acc.length < sizeLine ∧ IntL lo hi a l D H0 (i + 1) (upd H2 D (.lst (acc ++ [.int v]))) := by
  obtain ⟨ns, h1, h3, h5, h6, h7, h8, h9, h0⟩ := h
  have h3' := k D _ h3 h8 h9
  refine ⟨_, h3', by rw [List.length_map, sizeLine_eq]; omega, ns ++ [v], by rw [List.length_append, h1]; rfl, by rw [upd_same, List.map_append]; rfl, ?_, dl.putO h8 h9, ?_, h8, h9, h0⟩
  · intro x hx
    rcases List.mem_append.mp hx with q | q
    · exact h5 x q
    · rw [List.mem_singleton.mp q]; exact hv
  · intro c o e e1 e2
    have q : c ≠ D := fun e' => by rw [e', h0] at e; cases e
    rw [upd_ne q]
    exact k c o (h7 c o e e1 e2) e1 e2
theorem tpInt2 {H : Hp} {p : Addr} {x : Str} {i : Int} (h : H p = some (.tup [.str x, .int i])) : Tp H (.ref p) (.tuple [.str x, .int i]) := .tup h (.cons (.str x) (.cons (.int i) .nil))
end NB
set_option linter.all false
set_option maxRecDepth 100000
set_option maxHeartbeats 4000000
namespace NB
open PySem PySem.Spec PyProof.Rows L2
/-! ### a drawn net -/
/-- a net as its tuples hold it, at v -/
structure NetAt (H : Hp) (v : V) (tops : List Int) (rs : List Rl) : Prop where
  ex : ∃ (a t p : Addr) (vs : List V), v = .ref a ∧ H a = some (.tup [.ref t, .ref p]) ∧ H t = some (.tup (tops.map V.int)) ∧ H p = some (.tup vs) ∧ TpAll H vs (Rl.toDs rs)
theorem NetAt.m {H H' : Hp} {v : V} {tops : List Int} {rs : List Rl} (h : NetAt H v tops rs) (k : TK H H') : NetAt H' v tops rs := by
  obtain ⟨a, t, p, vs, rfl, h1, h2, h3, h4⟩ := h.ex
  exact ⟨a, t, p, vs, rfl, k _ _ h1, k _ _ h2, k _ _ h3, h4.m k⟩
structure NetOk (most top : Int) (any : Bool) (tops : List Int) (rs : List Rl) : Prop where
  n0 : 1 ≤ tops.length
  n1 : (tops.length : Int) ≤ most
  same : rs.length = tops.length
  tp : ∀ t ∈ tops, 1 ≤ t ∧ t ≤ top
  dr : ∀ r ∈ rs, r.Drawn tops.length top any 3
/-- _law_net(deal, most, top, any_row) -/
def spNet : Sp := fun vs H Q _ => ∃ (a l : Addr) (most top : Int) (any : Bool), vs = [.ref a, .int most, .int top, .bl any] ∧ Deal H a l ∧ 1 ≤ most ∧ most ≤ 50 ∧ 1 ≤ top ∧ top ≤ 50 ∧
  ∀ (v : V) (tops : List Int) (rs : List Rl) (H' : Hp), NetAt H' v tops rs → NetOk most top any tops rs → Deal H' a l → Kp a l H H' → Q v H'
end NB
set_option linter.all false
set_option maxRecDepth 100000
set_option maxHeartbeats 4000000
namespace NB
open PySem PySem.Spec PyProof.Rows L2
/-! ### for at, x in enumerate(tuple) -/
open PySem.AutoSeq1 (wpAny_loadPart') in
theorem enum_newT (t : Addr) (items : Array Value) (n : Nat) (dct : Option Addr) (sl : Array (Option Value)) :
    Meets (Builtin.«enumerate.__new__» ⟨[.type "enumerate", .ref t], []⟩) (fun _ R s => s.heap.get? t = some { cls := .type "tuple", dict := dct, data := .seq items n, slots := sl } ∧
      R (.ok (.ret (.ref (s.heap.push { cls := .type "tuple_iterator", data := .fields #[.ref t, .int 0 0] }).objs.size)))
        { s with heap := (s.heap.push { cls := .type "tuple_iterator", data := .fields #[.ref t, .int 0 0] }).push { cls := .type "enumerate", data := .fields #[.none, .bool false, .ref s.heap.objs.size, rawInt 0, .none, .none] } }) :=
  .of_wp fun prog w A R s h => by
    obtain ⟨hp, g, d, tk, os⟩ := s
    obtain ⟨ht, h⟩ := h
    have hsub := sub_enumerate
    have hT : Heap.IsTuple (Shared.heap ⟨hp, g, d, tk, os⟩) t items := ⟨_, ht, rfl, n, rfl⟩
    wp_walk using wpAny_loadPart' ht
    refine wpAny_stack_any fun st => wpAny_pure ?_
    split
    · rename_i c _ _ _ _ _
      cases (c == Value.type "enumerate") <;>
      · wp_walk using wpAny_loadPart' ht, wpAny_pyIter_tuple hT
        exact ⟨_, rfl, h⟩
    · wp_walk using wpAny_loadPart' ht, wpAny_pyIter_tuple hT
      exact ⟨_, rfl, h⟩
theorem enum_callT {prog : Program} {w : World} {A : Around} {E : Value → Shared → Prop} {s : Shared} {t : Addr} {items : Array Value} {Q : Value → Shared → Prop} (hT : s.heap.IsTuple t items)
    (h : ∀ h', IsEnum h' (s.heap.objs.size + 1) s.heap.objs.size 0 .none → h'.IsTupleIter s.heap.objs.size t 0 → (∀ b o, s.heap.get? b = some o → h'.get? b = some o) → Q (.ref (s.heap.objs.size + 1)) { s with heap := h' }) :
    wpAny (model prog w) A (call (.type "enumerate") [.ref t]) Q E s := by
  obtain ⟨⟨c, dct, dt, sl⟩, ht, hc, n, hd⟩ := hT
  obtain rfl : c = .type "tuple" := hc
  obtain rfl : dt = .seq items n := hd
  generalize eI : ({ cls := .type "tuple_iterator", data := .fields #[.ref t, .int 0 0] } : Obj) = oI
  generalize eE : ({ cls := .type "enumerate", data := .fields #[.none, .bool false, .ref s.heap.objs.size, rawInt 0, .none, .none] } : Obj) = oE
  have nw := enum_newT t items n dct sl
  refine callType_new F.called_enumerate (by decide) (F.typeCall_enumerate_1 _) (F.newCall_enumerate_1 _) (fun obj => F.args_object_init_2 obj _) F.entry_enumerate_new nw ⟨ht, ?_⟩
  show _ ∧ _
  rw [eI, eE]
  have fI : oI.isFreed = false := by rw [← eI]; rfl
  have fE : oE.isFreed = false := by rw [← eE]; rfl
  have z1 : (s.heap.push oI).objs.size = s.heap.objs.size + 1 := Heap.size_push ..
  have g1 : (s.heap.push oI).get? s.heap.objs.size = some oI := Heap.get?_push_size _ fI
  have g2 : ((s.heap.push oI).push oE).get? (s.heap.objs.size + 1) = some oE := by
    have q := Heap.get?_push_size (s.heap.push oI) (o := oE) fE
    rwa [z1] at q
  rw [z1]
  refine ⟨⟨_, g2, by rw [← eE]⟩, h _ (by rw [← eE] at g2 ⊢; exact g2) ⟨_, Heap.get?_push_of_some _ g1, by rw [← eI], by rw [← eI]; rfl⟩ fun b o q => Heap.get?_push_of_some _ (Heap.get?_push_of_some _ q)⟩
/-- the tuple at a, each item in a new pair -/
def Iet (K : PySem.W.Frag) (a : Addr) : It :=
  ⟨fun i H => ∃ (xs : List V) (x : V), SqT K H a xs ∧ xs[i]? = some x, fun i H v H' => ∃ T x, v = .ref T ∧ H T = none ∧ H' = upd H T (.tup [.int (i : Nat), x]) ∧ ∀ xs, SqT K H a xs → xs[i]? = some x, fun i H => ∃ xs : List V, SqT K H a xs ∧ xs.length ≤ i⟩
theorem turn_iet {P : Program} {w : World} {K : PySem.W.Frag} {elts : List Expr} {kk : Nat} {tpos : Pos} (a e it : Addr) :
    Turn P w K (.Tuple elts kk tpos) (Iet K a) [e, it] e (fun i h => (∃ old, IsEnum h e it ((i : Nat) : Int) old) ∧ h.IsTupleIter it a i ∧ e ≠ it ∧ a ≠ it ∧ e ≠ a) where
  mem := List.mem_cons_self
  obj := fun i h st b hb => by
    obtain ⟨⟨old, he⟩, ⟨o, ho, _, hd⟩, _⟩ := st
    rcases List.mem_cons.mp hb with z | z
    · exact ⟨_, z ▸ he, fun v q => by cases q⟩
    · exact ⟨o, (List.mem_singleton.mp z) ▸ ho, fun v q => by rw [hd] at q; cases q⟩
  keep := fun i h h' st k => by
    obtain ⟨⟨old, he⟩, ⟨o, ho, r⟩, ne⟩ := st
    exact ⟨⟨old, k e List.mem_cons_self _ he⟩, ⟨o, k it (List.mem_cons_of_mem _ List.mem_cons_self) _ ho, r⟩, ne⟩
  item := by
    intro X hP hw hK hc i pins s σ H E I hf st hg
    subst hP hw hK
    obtain ⟨⟨old, he⟩, hit, ne, na, nea⟩ := st
    obtain ⟨xs, x, hq, hx⟩ := hg
    obtain ⟨its, rv, p, hz⟩ := I.tuple hq
    obtain ⟨u, hu, ru⟩ := rv.get hx
    have D := Draws.tuple (prog := X.prog) (w := X.w) (A := X.A.in1) (show X.A.in1.handled = none from I.ok.hd hc) it a na its.toArray
    have lE : e < s.heap.objs.size := Heap.lt_size he
    have lI : it < s.heap.objs.size := by obtain ⟨_, q, _⟩ := hit; exact Heap.lt_size q
    have pt : s.heap.IsTuple a its.toArray := p
    have hi : i < its.toArray.size := by
      have q := (List.getElem?_eq_some_iff.mp hu).1
      simpa using q
    have ef : e ∉ [it, a] := fun q => by
      rcases List.mem_cons.mp q with z | z
      · exact ne z
      · exact nea (List.mem_singleton.mp z)
    refine wpAny_pyNext_enum_itemD D he ⟨hit, pt⟩ hi ne ef fun v h1 tk hv ho hit1 hT hsz hk => ?_
    obtain rfl : v = u := by
      have q : its[i]? = some v := by simpa using hv
      rw [hu] at q
      exact (Option.some.inj q).symm
    refine ⟨_, rfl, wpAny_letOwnedTupleGo_enum (s := { s with heap := h1, toks := tk + 1 }) ho fun h2 he2 sb => ?_⟩
    have hT2 := (sb.2 _ (Nat.ne_of_gt lE)).trans hT
    have new : ObjOk X.prog X.w (upd H s.heap.objs.size (.tup [.int (i : Nat), x])) h2 s.heap.objs.size (.tup [.int (i : Nat), x]) :=
      ⟨by show 2 ≤ sizeLine; decide, [_, _], .cons ⟨_, rfl⟩ (.cons ru .nil), ⟨_, hT2, rfl, _, rfl⟩⟩
    have I2 : Inv X pins σ (upd H s.heap.objs.size (.tup [.int (i : Nat), x])) { s with heap := h2, toks := tk + 1 } := by
      refine I.turnedNew (ch := [e, it]) (fun b o hb q => ?_) hf (Nat.le_refl _) new
      have b1 : b ≠ e := fun z => hb (z ▸ List.mem_cons_self)
      have b2 : b ≠ it := fun z => hb (z ▸ List.mem_cons_of_mem _ List.mem_cons_self)
      exact (sb.2 b b1).trans (hk b o b1 b2 q)
    refine ⟨.ref s.heap.objs.size, _, I2, rfl, ⟨_, x, rfl, I.hok.fresh (Nat.le_refl _), rfl, fun ys hy => by rw [I.tuple_inj hy hq]; exact hx⟩, ⟨⟨v, ?_⟩, ?_, ne, na, nea⟩, fun b hb => ?_⟩
    · have z : ((i + 1 : Nat) : Int) = (i : Int) + 1 := by omega
      rw [z]; exact he2
    · obtain ⟨⟨o, q1, q2⟩, _⟩ := hit1
      exact ⟨o, (sb.2 it ne.symm).trans q1, q2⟩
    · have lb : b < s.heap.objs.size := by
        rcases List.mem_cons.mp hb with z | z
        · rw [z]; exact lE
        · rw [List.mem_singleton.mp z]; exact lI
      rw [upd_ne (Nat.ne_of_lt lb)]
      exact (hf b hb).1
  done := by
    intro X hP hw hK hc i pins s σ H E I hf st hg
    subst hP hw hK
    obtain ⟨⟨old, he⟩, hit, ne, na, nea⟩ := st
    obtain ⟨xs, hq, hx⟩ := hg
    obtain ⟨its, rv, p, hz⟩ := I.tuple hq
    obtain ⟨f0, f1, f2, f3, f4, f5⟩ := hf it (List.mem_cons_of_mem _ List.mem_cons_self)
    have hl := rv.length
    have pt : s.heap.IsTuple a its.toArray := p
    have none_ : its.toArray[i]? = none := by simp; omega
    have hT : s.TypeIs (.ref e) "enumerate" := ⟨_, he, rfl⟩
    unfold pyNext
    refine wpAny_bind (wpAny_attempt (wpAny_callSpecial?_slot (name := Str.ofString "__next__") hT F.slot_enumerate_next
      (wpAny_call_entry F.slot_enumerate_next hT F.entry_enumerate_next ?_ (F.args_enumerate_next_1 _))))
    show wpAny _ _ (field (.ref e) 2 >>= _) _ _ _
    refine wpAny_bind (wpAny_field he rfl (x := .ref it) rfl ?_)
    refine wpAny_bind ?_
    refine wpAny_nextOf_tuple_end (show X.A.in1.handled = none from I.ok.hd hc) hit pt none_ fun h' ex eb hx' => ?_
    obtain ⟨o, ho, hcl⟩ := hx'
    refine wpAny_bind (wpAny_isInstance (T := "StopIteration") (b := true) ⟨o, ho, hcl⟩ isSubtype_stop ?_)
    exact wpAny_pure ⟨rfl, I.turned (t' := s.toks) (fun b o hb q => eb b o hb q) f0 f1 f3 f4 f5⟩
  self := fun A i s Q E st h => by
    obtain ⟨⟨_, he⟩, _⟩ := st
    exact wpAny_pyIter_enum he h
def iEnumT (K : PySem.W.Frag) (ta : TA) : TI := fun σ H R => ta σ H fun vs H1 => ∃ a xs, vs = [.ref a] ∧ SqT K H1 a xs ∧ R (Iet K a) H1
theorem pi_enumT {X : Cx} {e : Expr} {ta : TA} {p pos tpos : Pos} {elts : List Expr} {kk : Nat} (hg : Gl X "enumerate") (hm : X.mg "enumerate" = none) (ha : PA X [e] ta) (hs : starEach [e] X.env = [(false, eval e X.env)] := by rfl) :
    PI X (.Tuple elts kk tpos) (.Call (.Name "enumerate" p) [e] [] pos) (iEnumT X.K ta) := by
  refine ⟨fun pins s σ H R I h => ?_⟩
  refine Call_ (ld_blt I hg hm boot_enumerate (PyProof.Rows.callWith_type1 (thn (ha.run pos pins s σ H _ I h) fun us s1 hq => ?_) hs rfl))
  obtain ⟨vs, H1, I1, r1, a, xs, rfl, hx, q⟩ := hq
  obtain ⟨u, rfl, rx⟩ := vals1 r1
  obtain rfl : u = Value.ref a := rx
  obtain ⟨its, rv, p', hz⟩ := I1.tuple hx
  have pt : s1.heap.IsTuple a its.toArray := p'
  have la : a < s1.heap.objs.size := by obtain ⟨o, ho, _⟩ := pt; exact Heap.lt_size ho
  refine enum_callT pt fun h' he hit hk => wpAny_pyIter_enum he ?_
  have I2 : Inv X pins σ H1 { s1 with heap := h' } := I1.kept (t' := s1.toks) hk
  refine ⟨s1.heap.objs.size + 1, [s1.heap.objs.size + 1, s1.heap.objs.size], _, _, H1, rfl, I2, turn_iet a (s1.heap.objs.size + 1) s1.heap.objs.size, ⟨⟨.none, he⟩, hit, Nat.succ_ne_self _, Nat.ne_of_lt la, Nat.ne_of_gt (Nat.lt_succ_of_lt la)⟩, fun b hb => ?_, q⟩
  have le : s1.heap.objs.size ≤ b := by
    rcases List.mem_cons.mp hb with z | z
    · rw [z]; exact Nat.le_succ _
    · rw [List.mem_singleton.mp z]; exact Nat.le_refl _
  exact I1.fpOk le (I1.hok.fresh le)
/-- a comprehension over it -/
theorem lcE {K : PySem.W.Frag} {a : Addr} {xs : List V} {H0 : Hp} {Qd : Hp → Prop} {body : (Hp → Prop) → V → Hp → Prop} (Pv : Nat → Hp → Prop) (h0 : Pv 0 H0) (hl : ∀ i H, i ≤ xs.length → Pv i H → SqT K H a xs)
    (hs : ∀ i x T H, xs[i]? = some x → Pv i H → H T = none → body (Pv (i + 1)) (.ref T) (upd H T (.tup [.int (i : Nat), x]))) (hd : ∀ H, Pv xs.length H → Qd H) :
    ∃ W : Nat → Nat → Hp → Prop, (∃ m, W 0 m H0) ∧ ∀ i m H, W i m H → ((Iet K a).stop i H ∧ Qd H) ∨ ((Iet K a).go i H ∧ ∃ Nx : Hp → Prop, (∀ H', Nx H' → ∃ m', m' < m ∧ W (i + 1) m' H') ∧ ∀ x H', (Iet K a).yld i H x H' → body Nx x H') := by
  refine ⟨fun i m H => m = xs.length - i ∧ i ≤ xs.length ∧ Pv i H, ⟨_, rfl, Nat.zero_le _, h0⟩, ?_⟩
  rintro i m H ⟨rfl, hi, p⟩
  have q := hl i H hi p
  rcases Nat.lt_or_ge i xs.length with c | c
  · have e : xs[i]? = some xs[i] := List.getElem?_eq_getElem c
    refine .inr ⟨⟨xs, xs[i], q, e⟩, Pv (i + 1), fun H' p' => ⟨_, by omega, rfl, c, p'⟩, fun v H' y => ?_⟩
    obtain ⟨T, x, rfl, hT, rfl, hx⟩ := y
    exact hs i x T H (hx xs q) p hT
  · obtain rfl : i = xs.length := by omega
    exact .inl ⟨⟨xs, q, Nat.le_refl _⟩, hd H p⟩
end NB
set_option linter.all false
set_option maxRecDepth 100000
set_option maxHeartbeats 4000000
namespace NB
open PySem PySem.Spec PyProof.Rows L2
/-! ### who hears whom -/
theorem inV_int (h : Int) : ∀ ns : List Int, inV (.int h) (ns.map V.int) = decide (h ∈ ns)
  | [] => rfl
  | n :: ns => by
    have ih := inV_int h ns
    unfold inV at ih ⊢
    rw [List.map_cons, List.any_cons, ih]
    have e : eqV (.int n) (.int h) = decide (n = h) := by
      show (n == h) = _
      by_cases q : n = h
      · subst q; simp
      · simp [q]
    rw [e]
    by_cases q : n = h
    · simp [q]
    · have q' : h ≠ n := fun e => q e.symm
      simp [q, q']
theorem flat_ints : ∀ ns : List Int, (ns.map V.int).all flatV = true
  | [] => rfl
  | n :: ns => by rw [List.map_cons, List.all_cons, flat_ints ns]; rfl
/-- house o hears house h -/
def ear (rs : List Rl) (o : Nat) (h : Int) : Bool := match rs[o]? with
  | some r => decide (h ∈ r.brs)
  | none => false
theorem ear_at {rs : List Rl} {o : Nat} {r : Rl} (e : rs[o]? = some r) (h : Int) : ear rs o h = decide (h ∈ r.brs) := by unfold ear; rw [e]
theorem ear_lt {rs : List Rl} {o : Nat} {h : Int} (e : ear rs o h = true) : o < rs.length := by
  unfold ear at e
  cases q : rs[o]? with
  | none => rw [q] at e; cases e
  | some r => exact (List.getElem?_eq_some_iff.mp q).1
/-- those below i that hear h -/
def hearsTo (rs : List Rl) (h : Int) (i : Nat) : List Nat := (List.range i).filter fun o => ear rs o h
theorem hearsTo_succ (rs : List Rl) (h : Int) (i : Nat) : hearsTo rs h (i + 1) = if ear rs i h = true then hearsTo rs h i ++ [i] else hearsTo rs h i := by
  unfold hearsTo
  rw [List.range_succ, List.filter_append]
  by_cases q : ear rs i h = true
  · simp [q]
  · simp [q]
theorem hearsTo_len (rs : List Rl) (h : Int) (i : Nat) : (hearsTo rs h i).length ≤ i := by
  have := List.length_filter_le (fun o => ear rs o h) (List.range i)
  rw [List.length_range] at this
  exact this
def ofN (ns : List Nat) : List Int := ns.map fun (n : Nat) => (n : Int)
abbrev hears (rs : List Rl) (h : Int) : List Nat := hearsTo rs h rs.length
/-- hearers(net, house) -/
def spHear : Sp := fun vs H Q _ => ∃ (v : V) (h : Int) (tops : List Int) (rs : List Rl), vs = [v, .int h] ∧ NetAt H v tops rs ∧ (∀ r ∈ rs, r.dep ≤ 3 ∧ r.cnt ≤ 100000) ∧ rs.length ≤ 1000 ∧
  ∀ (b : Addr) (H' : Hp), Same H H' → H' b = some (.tup ((ofN (hears rs h)).map V.int)) → Q (.ref b) H'
end NB
set_option linter.all false
set_option maxRecDepth 100000
set_option maxHeartbeats 4000000
namespace NB
open PySem PySem.Spec PyProof.Rows L2
/-- news of house h comes to house o, in one step or more -/
inductive Rch (rs : List Rl) (h : Int) : Nat → Prop
  | one {o : Nat} : ear rs o h = true → Rch rs h o
  | step {m o : Nat} : Rch rs h m → ear rs o (m : Int) = true → Rch rs h o
theorem Rch.lt {rs : List Rl} {h : Int} {o : Nat} (r : Rch rs h o) : o < rs.length := by
  cases r with
  | one e => exact ear_lt e
  | step _ e => exact ear_lt e
theorem Rch.trans {rs : List Rl} {h : Int} {m o : Nat} (a : Rch rs h m) (b : Rch rs (m : Int) o) : Rch rs h o := by
  induction b with
  | one e => exact .step a e
  | step _ e ih => exact .step ih e
theorem mem_hears {rs : List Rl} {h : Int} {o : Nat} : o ∈ hears rs h ↔ ear rs o h = true := by
  unfold hears hearsTo
  rw [List.mem_filter, List.mem_range]
  exact ⟨fun e => e.2, fun e => ⟨ear_lt e, e⟩⟩
def cntS (N : Nat) (S : Int → Bool) : Nat := ((List.range N).filter fun o => S (o : Nat)).length
theorem cntS_le (N : Nat) (S : Int → Bool) : cntS N S ≤ N := by
  have := List.length_filter_le (fun (o : Nat) => S (o : Nat)) (List.range N)
  rw [List.length_range] at this
  exact this
theorem cntS_succ (N : Nat) (S : Int → Bool) : cntS (N + 1) S = cntS N S + if S (N : Nat) = true then 1 else 0 := by
  unfold cntS
  rw [List.range_succ, List.filter_append, List.length_append]
  by_cases q : S (N : Nat) = true
  · simp [q]
  · simp [q]
theorem cntS_same {S : Int → Bool} {o : Nat} : ∀ N, N ≤ o → cntS N (fun j => S j || decide (j = (o : Int))) = cntS N S
  | 0, _ => rfl
  | N + 1, h => by
    rw [cntS_succ, cntS_succ, cntS_same N (by omega)]
    have e : decide ((N : Int) = (o : Int)) = false := decide_eq_false (by omega)
    simp only [e, Bool.or_false]
theorem cntS_add {S : Int → Bool} {o : Nat} (hS : S o = false) : ∀ N, o < N → cntS N (fun j => S j || decide (j = (o : Int))) = cntS N S + 1
  | 0, h => by omega
  | N + 1, h => by
    rw [cntS_succ, cntS_succ]
    by_cases e : o = N
    · subst e
      rw [cntS_same o (Nat.le_refl _), hS]
      simp
    · rw [cntS_add hS N (by omega)]
      have e : decide ((N : Int) = (o : Int)) = false := decide_eq_false (by omega)
      simp only [e, Bool.or_false]
      omega
/-- what stands of a search: found, waiting, and the house at hand -/
structure RI (rs : List Rl) (h : Int) (S : Int → Bool) (n : Nat) (ws : List Int) (at_ : Int → Prop) : Prop where
  sub : ∀ k, S k = true → ∃ o : Nat, k = o ∧ Rch rs h o
  wsub : ∀ x ∈ ws, x = h ∨ S x = true
  cnt : n = cntS rs.length S
  cl : ∀ m, (m = h ∨ S m = true) → m ∈ ws ∨ at_ m ∨ ∀ o, ear rs o m = true → S (o : Nat) = true
theorem RI.start (rs : List Rl) (h : Int) : RI rs h (fun _ => false) 0 [h] (fun _ => False) where
  sub := fun _ e => by cases e
  wsub := fun x hx => .inl (List.mem_singleton.mp hx)
  cnt := by
    unfold cntS
    rw [List.filter_eq_nil_iff.mpr (fun _ _ e => by cases e)]; rfl
  cl := fun m e => by
    rcases e with e | e
    · exact .inl (by rw [e]; exact List.mem_singleton.mpr rfl)
    · cases e
theorem RI.pop {rs : List Rl} {h : Int} {S : Int → Bool} {n : Nat} {ws : List Int} {z : Int} (r : RI rs h S n (ws ++ [z]) (fun _ => False)) : RI rs h S n ws (fun m => m = z) ∧ (z = h ∨ S z = true) := by
  refine ⟨⟨r.sub, fun x hx => r.wsub x (List.mem_append_left _ hx), r.cnt, fun m e => ?_⟩, r.wsub z (by simp)⟩
  rcases r.cl m e with q | q | q
  · rcases List.mem_append.mp q with q | q
    · exact .inl q
    · exact .inr (.inl (List.mem_singleton.mp q))
  · exact q.elim
  · exact .inr (.inr q)
theorem RI.add {rs : List Rl} {h z : Int} {S : Int → Bool} {n : Nat} {ws : List Int} {o : Nat} (r : RI rs h S n ws (fun m => m = z)) (hz : z = h ∨ S z = true) (e : ear rs o z = true) (hS : S o = false) :
    RI rs h (fun j => S j || decide (j = (o : Int))) (n + 1) (ws ++ [(o : Int)]) (fun m => m = z) ∧ n + 1 ≤ rs.length := by
  have ol := ear_lt e
  have hc := cntS_add hS rs.length ol
  have ro : Rch rs h o := by
    rcases hz with q | q
    · exact .one (by rw [← q]; exact e)
    · obtain ⟨m, rfl, rm⟩ := r.sub z q
      exact .step rm e
  refine ⟨⟨fun k hk => ?_, fun x hx => ?_, by rw [hc, ← r.cnt], fun m hm => ?_⟩, ?_⟩
  · rw [Bool.or_eq_true, decide_eq_true_eq] at hk
    rcases hk with q | q
    · exact r.sub k q
    · exact ⟨o, q, ro⟩
  · rcases List.mem_append.mp hx with q | q
    · rcases r.wsub x q with y | y
      · exact .inl y
      · exact .inr (by rw [y]; rfl)
    · exact .inr (by rw [List.mem_singleton.mp q]; simp)
  · by_cases mo : m = (o : Int)
    · exact .inl (by rw [mo]; simp)
    · have hm' : m = h ∨ S m = true := by
        rcases hm with q | q
        · exact .inl q
        · rw [Bool.or_eq_true, decide_eq_true_eq] at q
          rcases q with q | q
          · exact .inr q
          · exact absurd q mo
      rcases r.cl m hm' with q | q | q
      · exact .inl (List.mem_append_left _ q)
      · exact .inr (.inl q)
      · exact .inr (.inr fun o' e' => by rw [q o' e']; rfl)
  · have := cntS_le rs.length (fun j => S j || decide (j = (o : Int)))
    rw [hc, ← r.cnt] at this
    exact this
theorem RI.next {rs : List Rl} {h z : Int} {S : Int → Bool} {n : Nat} {ws : List Int} (r : RI rs h S n ws (fun m => m = z)) (hL : ∀ o, ear rs o z = true → S (o : Nat) = true) : RI rs h S n ws (fun _ => False) :=
  ⟨r.sub, r.wsub, r.cnt, fun m hm => by
    rcases r.cl m hm with q | q | q
    · exact .inl q
    · exact .inr (.inr fun o e => hL o (by rw [← q]; exact e))
    · exact .inr (.inr q)⟩
theorem RI.done {rs : List Rl} {h : Int} {S : Int → Bool} {n : Nat} (r : RI rs h S n [] (fun _ => False)) (o : Nat) : Rch rs h o → S (o : Nat) = true := by
  have c : ∀ m, (m = h ∨ S m = true) → ∀ o, ear rs o m = true → S (o : Nat) = true := fun m hm => by
    rcases r.cl m hm with q | q | q
    · cases q
    · exact q.elim
    · exact q
  intro k
  induction k with
  | one e => exact c h (.inl rfl) _ e
  | step _ e ih => exact c _ (.inr ih) _ e
/-- reached(net, house) -/
def spReach : Sp := fun vs H Q _ => ∃ (v : V) (h : Int) (tops : List Int) (rs : List Rl), vs = [v, .int h] ∧ NetAt H v tops rs ∧ (∀ r ∈ rs, r.dep ≤ 3 ∧ r.cnt ≤ 100000) ∧ rs.length ≤ 50 ∧
  ∀ (b : Addr) (ns : List Nat) (H' : Hp), Same H H' → H' b = some (.tup ((ofN ns).map V.int)) → ns.Pairwise (· < ·) → (∀ o, o ∈ ns ↔ Rch rs h o) → Q (.ref b) H'
theorem nats_of : ∀ {ns : List Int}, (∀ k ∈ ns, ∃ o : Nat, k = o) → ∃ ms : List Nat, ns = ofN ms
  | [], _ => ⟨[], rfl⟩
  | n :: ns, h => by
    obtain ⟨o, rfl⟩ := h n List.mem_cons_self
    obtain ⟨ms, rfl⟩ := nats_of (ns := ns) fun k hk => h k (List.mem_cons_of_mem _ hk)
    exact ⟨o :: ms, rfl⟩
theorem ofN_mem {ms : List Nat} {o : Nat} : (o : Int) ∈ ofN ms ↔ o ∈ ms := by
  unfold ofN
  rw [List.mem_map]
  constructor
  · rintro ⟨x, hx, e⟩
    obtain rfl : x = o := by omega
    exact hx
  · intro h; exact ⟨o, h, rfl⟩
theorem ofN_lt {ms : List Nat} (h : (ofN ms).Pairwise (· < ·)) : ms.Pairwise (· < ·) := by
  unfold ofN at h
  rw [List.pairwise_map] at h
  exact h.imp fun q => by omega
theorem cxW {CX : CXT} {P : Program} {w : World} {K : PySem.W.Frag} {mg : Str → Option Value} {base : Heap} {N : List Str} {qual : Str} {scope : Scope} {f : Addr} {cd : Value} {A : Around} {outer : List Env} {s : Shared} {H : Hp} {E : XK} :
  (cxOf CX P w K mg base N qual scope f cd A outer s H E).w = w := rfl
end NB
set_option linter.all false
set_option maxRecDepth 100000
set_option maxHeartbeats 4000000
namespace NB
open PySem PySem.Spec PyProof.Rows L2
/-! ### a range held by a name, and walked -/
theorem cr_range1 {X : Cx} : CallR X (.type "range") (fun vs H Q => ∃ j, vs = [V.int j] ∧ ∀ p, H p = none → Q (.ref p) (upd H p (.rng 0 j))) := by
  intro pins s σ H vs us Q I r h
  obtain ⟨j, rfl, q⟩ := h
  obtain ⟨u, rfl, t, rfl⟩ := vals1 r
  refine call_range_1 ⟨.ref s.heap.objs.size, upd H s.heap.objs.size (.rng 0 j), I.laid (t' := s.toks + 1 + 1) (fun b o e => Heap.get?_push_of_some _ e) (Nat.le_refl _) ?_, rfl, q _ (I.hok.fresh (Nat.le_refl _))⟩
  exact ⟨_, _, _, Heap.get?_push_size _ rfl⟩
def iRngV (tl : TE) : TI := fun σ H R => tl σ H fun x H1 => ∃ (a : Addr) (n : Nat), x = .ref a ∧ H1 a = some (.rng 0 (n : Int)) ∧ n < 1000000 ∧ R (Itr 0 n) H1
theorem pi_rngV {X : Cx} {tg l : Expr} {tl : TE} (hl : PE X l tl) : PI X tg l (iRngV tl) := by
  refine ⟨fun pins s σ H R I h => ?_⟩
  refine thn (hl.run pins s σ H _ I h) fun v s1 hq => ?_
  obtain ⟨x, H1, I1, r1, a, n, rfl, ha, hn, q⟩ := hq
  obtain rfl : v = Value.ref a := r1
  obtain ⟨t, u, v, ho⟩ := I1.hok a _ ha
  refine wpAny_pyIter_range (show IsRange s1.heap a 0 (n : Int) 1 t u v from ho) (small_one (by decide) (by decide) (by omega) (by omega)) ?_
  refine ⟨s1.heap.objs.size, [s1.heap.objs.size], _, _, H1, rfl, I1.kept (t' := s1.toks) fun b o e => Heap.get?_push_of_some _ e, turn_range _ 0 n, ?_, fun b hb => ?_, q⟩
  · have e1 : (0 : Int) + ((0 : Nat) : Int) * 1 = 0 := by simp
    have e2 : ((n : Nat) : Int) - ((0 : Nat) : Int) = Builtin.Range.rangeSize 0 (n : Int) 1 := by rw [rangeSize_one]; split <;> omega
    show IsRangeIter _ _ ((0 : Int) + ((0 : Nat) : Int) * 1) (((n : Nat) : Int) - ((0 : Nat) : Int)) 1
    rw [e1, e2]
    exact Heap.get?_push_size _ rfl
  · obtain rfl : b = s1.heap.objs.size := List.mem_singleton.mp hb
    exact I1.fpOk (Nat.le_refl _) (I1.hok.fresh (Nat.le_refl _))
/-! ### houses that hear one another -/
/-- the lot of a house: itself, and those that it reaches and that reach it -/
def Mate (rs : List Rl) (h o : Nat) : Prop := o = h ∨ (Rch rs (h : Int) o ∧ Rch rs (o : Int) h)
theorem Mate.refl {rs : List Rl} (h : Nat) : Mate rs h h := .inl rfl
theorem Mate.symm {rs : List Rl} {h o : Nat} (m : Mate rs h o) : Mate rs o h := by
  rcases m with rfl | ⟨a, b⟩
  · exact .inl rfl
  · exact .inr ⟨b, a⟩
theorem Mate.trans {rs : List Rl} {h o k : Nat} (m : Mate rs h o) (p : Mate rs o k) : Mate rs h k := by
  rcases m with rfl | ⟨a, b⟩
  · exact p
  · rcases p with rfl | ⟨c, d⟩
    · exact .inr ⟨a, b⟩
    · exact .inr ⟨a.trans c, d.trans b⟩
/-- ns are the members below N of a lot, in their order -/
structure Lot (rs : List Rl) (N h : Nat) (ns : List Nat) : Prop where
  srt : ns.Pairwise (· < ·)
  mem : ∀ o, o ∈ ns ↔ o < N ∧ Mate rs h o
theorem sorted_ext : ∀ {xs ys : List Nat}, xs.Pairwise (· < ·) → ys.Pairwise (· < ·) → (∀ o, o ∈ xs ↔ o ∈ ys) → xs = ys
  | [], [], _, _, _ => rfl
  | [], y :: ys, _, _, h => by have := (h y).mpr List.mem_cons_self; cases this
  | x :: xs, [], _, _, h => by have := (h x).mp List.mem_cons_self; cases this
  | x :: xs, y :: ys, hx, hy, h => by
    obtain ⟨x1, x2⟩ := List.pairwise_cons.mp hx
    obtain ⟨y1, y2⟩ := List.pairwise_cons.mp hy
    have e : x = y := by
      rcases List.mem_cons.mp ((h x).mp List.mem_cons_self) with q | q
      · exact q
      · rcases List.mem_cons.mp ((h y).mpr List.mem_cons_self) with z | z
        · exact z.symm
        · have := y1 x q; have := x1 y z; omega
    subst e
    rw [sorted_ext x2 y2 fun o => ?_]
    constructor
    · intro q
      rcases List.mem_cons.mp ((h o).mp (List.mem_cons_of_mem _ q)) with z | z
      · subst z; have := x1 o q; omega
      · exact z
    · intro q
      rcases List.mem_cons.mp ((h o).mpr (List.mem_cons_of_mem _ q)) with z | z
      · subst z; have := y1 o q; omega
      · exact z
theorem Lot.same {rs : List Rl} {N h k : Nat} {xs ys : List Nat} (a : Lot rs N h xs) (b : Lot rs N k ys) (m : Mate rs h k) : xs = ys :=
  sorted_ext a.srt b.srt fun o => by
    rw [a.mem, b.mem]
    exact ⟨fun q => ⟨q.1, m.symm.trans q.2⟩, fun q => ⟨q.1, m.trans q.2⟩⟩
end NB
set_option linter.all false
set_option maxRecDepth 100000
set_option maxHeartbeats 1000000
namespace SV
open PySem PySem.Spec PyProof.Rows L2 NB

/-! ### what is walked -/
inductive Wk where
  | fix (ds : List D) | live (r : Nat)
def nxt (its : Wk) (i : Nat) (S : Sto) : Option (Option D) := match its with
  | .fix ds => some ds[i]?
  | .live r => match S[r]? with
    | some (.lst ds) => some ds[i]?
    | _ => none
def Wk.fuel : Wk → Nat
  | .fix ds => ds.length + 1
  | .live _ => fuelOf
abbrev FI := En → Sto → R Wk
/-- how a hand-layer iterator yields just this -/
structure WkR (K : PySem.W.Frag) (H : Hp) (w : Vw) (its : Wk) (J : It) : Prop where
  stop : ∀ H' w' S', ExtW K H w H' w' → StR K H' w' S' → ∀ i, nxt its i S' = some none → J.stop i H'
  go : ∀ H' w' S', ExtW K H w H' w' → StR K H' w' S' → ∀ i d, nxt its i S' = some (some d) → J.go i H' ∧ ∀ v H2, J.yld i H' v H2 → Ext K H' w' H2 w' ∧ StR K H2 w' S' ∧ Rep K H2 w' v d
def forN (its : Wk) (g : FG) (b : FS) : Nat → Nat → En → Sto → R Fl
  | 0, _, _, _ => .bad
  | n + 1, i, E, S => match nxt its i S with
    | none => .bad
    | some none => .ok (.nx E) S
    | some (some d) => (g d E S).bind fun E1 S1 => (b E1 S1).bind fun fl S2 => match fl with
      | .nx E2 => forN its g b n (i + 1) E2 S2
      | .ct E2 => forN its g b n (i + 1) E2 S2
      | .brk E2 => .ok (.nx E2) S2
      | .ret d => .ok (.ret d) S2
def fFor (it : FI) (g : FG) (b : FS) : FS := fun E S => (it E S).bind fun its S1 => forN its g b its.fuel 0 E S1
def tiOf (K : PySem.W.Frag) (W : WX) (f : FI) : TI := fun σ H R => ∃ w E S, EnR K H w E σ ∧ StR K H w S ∧ Post K W H w (f E S) fun its _ H' w' => ∀ J, WkR K H' w' its J → R J H'
abbrev RI (X : Cx) (W : WX) (tg e : Expr) (f : FI) : Prop := PI X tg e (tiOf X.K W f)
theorem PI.wk {X : Cx} {tg e : Expr} {t t' : TI} (h : PI X tg e t) (i : ∀ σ H Q, t' σ H Q → t σ H Q) : PI X tg e t' := ⟨fun pins s σ H Q I q => h.run pins s σ H Q I (i _ _ _ q)⟩
theorem WkR.ext {K : PySem.W.Frag} {H H' : Hp} {w w' : Vw} {its : Wk} {J : It} (h : WkR K H w its J) (e : ExtW K H w H' w') : WkR K H' w' its J :=
  ⟨fun H2 w2 S2 e2 s2 i q => h.stop H2 w2 S2 (e.trans e2) s2 i q, fun H2 w2 S2 e2 s2 i d q => h.go H2 w2 S2 (e.trans e2) s2 i d q⟩

section
variable {X : Cx} {W : WX} {a b e tg : Expr} {es : List Expr} {fe : FE} {pos : Pos} {body : List Stmt} {f : FS}
theorem rs_for {it : FI} {g : FG} {iter : Expr} (hp : PassesOwn (model X.prog X.w) X.A X.env X.xe) (hc : X.calm = true) (hi : RI X W tg iter it) (hg : RG X W tg g) (hb : RSs X W body f)
    (hs : ∀ x, foldedSetIterable iter X.env x = pure x := by intro _; rfl) : RS X W (.For tg iter body [] pos) (fFor it g f) :=
  PS.wk (ps_for hp hc hi hg hb hs) fun D_ σ H ⟨w, E, S, hE, hS, hP⟩ => ⟨w, E, S, hE, hS, Post.imp (Post.bind hP) fun its S1 H1 w1 e1 s1 q J hJ => by
    refine ⟨fun i m σ H => ∃ w E S, Ext X.K H1 w1 H w ∧ EnR X.K H w E σ ∧ StR X.K H w S ∧ Post X.K W H w (forN its g f m i E S) fun fl _ H' w' => FlQ X.K D_ fl H' w', ⟨_, w1, E, S1, Ext.refl, hE.ext e1, s1, q⟩, ?_⟩
    rintro i m σ H ⟨w, E, S, ex, hE, hS, hP⟩
    cases m with
    | zero => exact hP.elim
    | succ n =>
      unfold forN at hP
      split at hP
      · exact hP.elim
      · rename_i e
        exact .inl ⟨hJ.stop H w S ex.wk hS i e, flq_same (D_ := D_) hP hS _ hE⟩
      · rename_i d e
        obtain ⟨j1, j2⟩ := hJ.go H w S ex.wk hS i d e
        refine .inr ⟨j1, fun σ' H' => ∃ w E S, Ext X.K H1 w1 H' w ∧ EnR X.K H' w E σ' ∧ StR X.K H' w S ∧ Post X.K W H' w (forN its g f n (i + 1) E S) fun fl _ H' w' => FlQ X.K D_ fl H' w', fun σ' H' z => ⟨n, Nat.lt_succ_self n, z⟩, fun v H2 y => ?_⟩
        obtain ⟨k1, k2, k3⟩ := j2 v H2 y
        refine ⟨w, E, S, d, hE.ext k1, k2, k3, Post.imp (Post.bind (Post.ext hP k1)) fun E3 S3 H3 w3 e3 s3 q3 σ3 hE3 => ⟨w3, E3, S3, hE3, s3, Post.imp (Post.bind q3) fun fl S4 H4 w4 e4 s4 q4 => ?_⟩⟩
        have ex4 := ((ex.trans k1).trans e3).trans e4
        cases fl with
        | nx E2 => exact fun σ2 h2 => ⟨w4, E2, S4, ex4, h2, s4, q4⟩
        | ct E2 => exact fun σ2 h2 => ⟨w4, E2, S4, ex4, h2, s4, q4⟩
        | brk E2 => exact flq_same (D_ := D_) q4 s4
        | ret d => exact flq_same (D_ := D_) q4 s4⟩

/-! #### lists and tuples -/
def wkOf (d : D) (S : Sto) : R Wk := match viewT d with
  | some ds => .ok (.fix ds) S
  | none => match d with
    | .p (.list xs) => .ok (.fix (xs.map .p)) S
    | .ref r => match S[r]? with
      | some (.lst _) => .ok (.live r) S
      | _ => .bad
    | _ => .bad
def fWk (a : FE) : FI := fun E S => (a E S).bind fun d S1 => wkOf d S1
def iSeq (K : PySem.W.Frag) (tl : TE) : TI := fun σ H R => tl σ H fun x H1 => ∃ a, x = .ref a ∧ (((∃ xs, SqL K H1 a xs) ∧ R (Itl K a) H1) ∨ ((∃ xs, SqT K H1 a xs) ∧ R (Itt K a) H1))
theorem pi_seq {l : Expr} {tl : TE} (hl : PE X l tl) : PI X tg l (iSeq X.K tl) := by
  refine ⟨fun pins s σ H R I h => ?_⟩
  refine thn (hl.run pins s σ H _ I h) fun v s1 ⟨x, H1, I1, r1, q1⟩ => ?_
  obtain ⟨a, e, q1⟩ := q1
  subst e
  cases r1
  rcases q1 with ⟨⟨xs, hq⟩, q⟩ | ⟨⟨xs, hq⟩, q⟩
  · obtain ⟨its, rv, p, hz⟩ := I1.list hq
    refine wpAny_pyIter_list p.isList ?_
    refine ⟨s1.heap.objs.size, [s1.heap.objs.size], _, _, H1, rfl, I1.kept (t' := s1.toks) fun b o e => Heap.get?_push_of_some _ e, turn_list a _, ⟨_, Heap.get?_push_size _ rfl, rfl, rfl⟩, fun b hb => ?_, q⟩
    have e : b = s1.heap.objs.size := by simpa using hb
    subst e
    exact I1.fpOk (Nat.le_refl _) (I1.hok.fresh (Nat.le_refl _))
  · obtain ⟨its, rv, p, hz⟩ := I1.tuple hq
    refine wpAny_pyIter_tuple (show s1.heap.IsTuple a its.toArray from p) ?_
    refine ⟨s1.heap.objs.size, [s1.heap.objs.size], _, _, H1, rfl, I1.kept (t' := s1.toks) fun b o e => Heap.get?_push_of_some _ e, turn_tuple a _, ⟨_, Heap.get?_push_size _ rfl, rfl, rfl⟩, fun b hb => ?_, q⟩
    have e : b = s1.heap.objs.size := by simpa using hb
    subst e
    exact I1.fpOk (Nat.le_refl _) (I1.hok.fresh (Nat.le_refl _))
section
variable {K : PySem.W.Frag} {H H' : Hp} {w : Vw} {p : Addr} {v : V} {vs : List V} {d : D} {ds : List D} {S : Sto}
theorem Reps.none_of (r : Reps K H w vs ds) {i : Nat} (h : ds[i]? = none) : vs.length ≤ i := by
  rw [r.len]; exact List.getElem?_eq_none_iff.mp h
theorem wkr_tup {a : Addr} (h : SqT K H a vs) (r : Reps K H w vs ds) : WkR K H w (.fix ds) (Itt K a) :=
  ⟨fun H' w' S' e s i q => ⟨vs, e.t _ _ h, r.none_of (Option.some.inj q)⟩, fun H' w' S' e s i d q => by
    obtain ⟨v, h1, h2⟩ := r.get (Option.some.inj q)
    refine ⟨⟨vs, v, e.t _ _ h, h1⟩, fun v' H2 y => ?_⟩
    obtain ⟨rfl, y⟩ := y
    have := y vs (e.t _ _ h)
    rw [h1] at this
    obtain rfl := Option.some.inj this
    exact ⟨Ext.refl, s, h2.extW e⟩⟩
theorem wkr_lst {a : Addr} (h : H a = some (.lst vs)) (hm : a ∉ w.M) (hz : a ∉ w.Z) (r : Reps K H w vs ds) : WkR K H w (.fix ds) (Itl K a) :=
  ⟨fun H' w' S' e s i q => ⟨vs, SqL.of (e.kw _ _ h nt_lst hm hz), r.none_of (Option.some.inj q)⟩, fun H' w' S' e s i d q => by
    obtain ⟨v, h1, h2⟩ := r.get (Option.some.inj q)
    refine ⟨⟨vs, v, SqL.of (e.kw _ _ h nt_lst hm hz), h1⟩, fun v' H2 y => ?_⟩
    obtain ⟨rfl, y⟩ := y
    have := y vs (SqL.of (e.kw _ _ h nt_lst hm hz))
    rw [h1] at this
    obtain rfl := Option.some.inj this
    exact ⟨Ext.refl, s, h2.extW e⟩⟩
theorem wkr_live {a : Addr} {r : Nat} (h : w.M[r]? = some a) : WkR K H w (.live r) (Itl K a) := by
  have key : ∀ H' w' S', ExtW K H w H' w' → StR K H' w' S' → ∀ ds, S'[r]? = some (.lst ds) → ∃ vs, H' a = some (.lst vs) ∧ Reps K H' w' vs ds := fun H' w' S' e s ds q => by
    obtain ⟨a', ho, h1, h2, h3⟩ := s.get q
    rw [e.mref h] at h1
    obtain rfl := (Option.some.inj h1).symm
    cases ho with
    | lst vs => exact ⟨vs, h2, h3⟩
    | _ => exact h3.elim
  refine ⟨fun H' w' S' e s i q => ?_, fun H' w' S' e s i d q => ?_⟩
  · unfold nxt at q
    dsimp only at q
    split at q
    · rename_i ds es
      obtain ⟨vs, h1, h2⟩ := key H' w' S' e s ds es
      exact ⟨vs, SqL.of h1, h2.none_of (Option.some.inj q)⟩
    · cases q
  · unfold nxt at q
    dsimp only at q
    split at q
    · rename_i ds es
      obtain ⟨vs, h1, h2⟩ := key H' w' S' e s ds es
      obtain ⟨v, h3, h4⟩ := h2.get (Option.some.inj q)
      refine ⟨⟨vs, v, SqL.of h1, h3⟩, fun v' H2 y => ?_⟩
      obtain ⟨rfl, y⟩ := y
      have := y vs (SqL.of h1)
      rw [h3] at this
      obtain rfl := Option.some.inj this
      exact ⟨Ext.refl, s, h4⟩
    · cases q
theorem wkr_rng (lo : Int) (n : Nat) : WkR K H w (.fix ((List.range n).map fun (i : Nat) => D.p (.int (lo + (i : Int))))) (Itr lo n) :=
  ⟨fun H' w' S' e s i q => by
    have h := List.getElem?_eq_none_iff.mp (Option.some.inj q)
    rw [List.length_map, List.length_range] at h
    exact h, fun H' w' S' e s i d q => by
    have q' := Option.some.inj q
    have hi : i < n := by have := (List.getElem?_eq_some_iff.mp q').1; simpa using this
    refine ⟨hi, fun v H2 y => ?_⟩
    obtain ⟨rfl, rfl⟩ := y
    rw [List.getElem?_map, List.getElem?_range hi] at q'
    obtain rfl := Option.some.inj q'
    exact ⟨Ext.refl, s, .p (.int _)⟩⟩
end
theorem ri_seq (he : RE X W e fe) : RI X W tg e (fWk fe) :=
  PI.wk (pi_seq he) fun σ H R ⟨w, E, S, hE, hS, hP⟩ => ⟨w, E, S, hE, hS, Post.imp (Post.bind hP) fun d S1 H1 w1 e1 s1 q v rv => by
    unfold wkOf at q
    split at q
    · rename_i ds ed
      obtain ⟨a, vs, rfl, h1, h2⟩ := viewT_ok rv ed
      exact ⟨a, rfl, .inr ⟨⟨vs, h1⟩, Post.same (κ := fun its _ H' w' => ∀ J, WkR X.K H' w' its J → R J H') q s1 _ (wkr_tup h1 h2)⟩⟩
    · split at q
      · cases rv with | p rv => cases rv with | lst f r =>
          exact ⟨_, rfl, .inl ⟨⟨_, f.sq⟩, Post.same (κ := fun its _ H' w' => ∀ J, WkR X.K H' w' its J → R J H') q s1 _ (wkr_lst f.1 f.2.1 f.2.2 r.reps)⟩⟩
      · split at q
        · rename_i r _ _ es
          cases rv with | ref rv =>
            obtain ⟨a', ho, h1, h2, h3⟩ := s1.get es
            rw [rv] at h1
            obtain rfl := (Option.some.inj h1).symm
            cases ho with
            | lst vs => exact ⟨_, rfl, .inl ⟨⟨_, SqL.of h2⟩, Post.same (κ := fun its _ H' w' => ∀ J, WkR X.K H' w' its J → R J H') q s1 _ (wkr_live rv)⟩⟩
            | _ => exact h3.elim
        · exact q.elim
      · exact q.elim⟩
/-! #### range -/
def rngD (lo : Int) (n : Nat) : List D := (List.range n).map fun (i : Nat) => D.p (.int (lo + (i : Int)))
def wkRng1 (ds : List D) (S : Sto) : R Wk := match ds with
  | [.p (.int j)] => if j.natAbs < 2 ^ 62 then .ok (.fix (rngD 0 j.toNat)) S else .bad
  | _ => .bad
def wkRng2 (ds : List D) (S : Sto) : R Wk := match ds with
  | [.p (.int i), .p (.int j)] => if i.natAbs < 2 ^ 62 ∧ j.natAbs < 2 ^ 62 then .ok (.fix (rngD i (j - i).toNat)) S else .bad
  | _ => .bad
def fRng1 (a : FA) : FI := fun E S => (a E S).bind wkRng1
def fRng2 (a : FA) : FI := fun E S => (a E S).bind wkRng2
theorem ri_range1 {f : FA} {p : Pos} (hg : Gl X "range") (hm : X.mg "range" = none) (ha : RA X W [a] f) (hs : starEach [a] X.env = [(false, eval a X.env)] := by rfl) : RI X W tg (.Call (.Name "range" p) [a] [] pos) (fRng1 f) :=
  PI.wk (pi_range1 hg hm ha hs) fun σ H R ⟨w, E, S, hE, hS, hP⟩ => ⟨w, E, S, hE, hS, Post.imp (Post.bind hP) fun d S1 H1 w1 e1 s1 q v rv => by
    unfold wkRng1 at q
    split at q
    · split at q
      · rename_i c
        cases rv with | cons r1 r2 => cases r2; cases r1 with | p r1 =>
          cases r1
          exact ⟨_, rfl, by omega, by omega, Post.same (κ := fun its _ H' w' => ∀ J, WkR X.K H' w' its J → R J H') q s1 _ (wkr_rng 0 _)⟩
      · exact q.elim
    · exact q.elim⟩
theorem ri_range2 {f : FA} {p : Pos} (hg : Gl X "range") (hm : X.mg "range" = none) (ha : RA X W [a, b] f) (hs : starEach [a, b] X.env = [(false, eval a X.env), (false, eval b X.env)] := by rfl) (hs2 : starEach [b] X.env = [(false, eval b X.env)] := by rfl) :
    RI X W tg (.Call (.Name "range" p) [a, b] [] pos) (fRng2 f) :=
  PI.wk (pi_range2 hg hm ha hs hs2) fun σ H R ⟨w, E, S, hE, hS, hP⟩ => ⟨w, E, S, hE, hS, Post.imp (Post.bind hP) fun d S1 H1 w1 e1 s1 q v rv => by
    unfold wkRng2 at q
    split at q
    · split at q
      · rename_i c
        cases rv with | cons r1 r2 => cases r2 with | cons r2 r3 => cases r3; cases r1 with | p r1 => cases r2 with | p r2 =>
          cases r1; cases r2
          exact ⟨_, _, rfl, by omega, Post.same (κ := fun its _ H' w' => ∀ J, WkR X.K H' w' its J → R J H') q s1 _ (wkr_rng _ _)⟩
      · exact q.elim
    · exact q.elim⟩
end

/-! ### list comprehensions -/
/-- what a target of plain names stores -/
inductive Tgt where
  | one (i : Nat) | many (is : List Nat) | deep (ts : List Tgt)
def setsE : List Nat → List D → En → En
  | i :: is, d :: ds, E => setsE is ds (E.set i (some d))
  | _, _, E => E
def setsσ : List Nat → List V → L2.St → L2.St
  | i :: is, d :: ds, E => setsσ is ds (E.set i (some d))
  | _, _, E => E
mutual
def Tgt.put : Tgt → D → En → Option En
  | .one i, d, E => some (E.set i (some d))
  | .many is, d, E => match viewT d with
    | some ds => if ds.length = is.length then some (setsE is ds E) else none
    | none => none
  | .deep ts, d, E => match viewT d with
    | some ds => Tgt.puts ts ds E
    | none => none
def Tgt.puts : List Tgt → List D → En → Option En
  | [], [], E => some E
  | t :: ts, d :: ds, E => match t.put d E with
    | some E1 => Tgt.puts ts ds E1
    | none => none
  | _, _, _ => none
end
def gMany : List Nat → TGs
  | [] => gNil
  | i :: is => gCons (gName i) (gMany is)
mutual
def Tgt.tg (K : PySem.W.Frag) : Tgt → TG
  | .one i => gName i
  | .many is => gTup K is.length (gMany is)
  | .deep ts => gTup K ts.length (Tgt.tgs K ts)
def Tgt.tgs (K : PySem.W.Frag) : List Tgt → TGs
  | [] => gNil
  | t :: ts => gCons (t.tg K) (Tgt.tgs K ts)
end
mutual
def Tgt.slots : Tgt → List Nat
  | .one i => [i]
  | .many is => is
  | .deep ts => Tgt.slotss ts
def Tgt.slotss : List Tgt → List Nat
  | [] => []
  | t :: ts => t.slots ++ Tgt.slotss ts
end
def wipeE (E : En) : List Nat → En
  | [] => E
  | i :: is => (wipeE E is).set i none
def lcN (its : Wk) (t : Tgt) (ts : FT) (te : FE) (E : En) : Nat → Nat → List D → Sto → R (List D)
  | 0, _, _, _ => .bad
  | n + 1, i, acc, S => match nxt its i S with
    | none => .bad
    | some none => .ok acc S
    | some (some d) => match t.put d E with
      | none => .bad
      | some E1 => match ts E1 S with
        | .ok c S1 => if c then match te E1 S1 with
            | .ok y S2 => if acc.length < 400000 then lcN its t ts te E n (i + 1) (acc ++ [y]) S2 else .bad
            | _ => .bad
          else lcN its t ts te E n (i + 1) acc S1
        | _ => .bad
def fLc (fz : Bool) (it : FI) (t : Tgt) (vs : List Nat) (ts : FT) (te : FE) : FE := fun E S => (it E S).bind fun its S1 => (lcN its t ts te (wipeE E vs) its.fuel 0 [] S1).bind fun ds S2 => newL fz ds S2
def fYes : FT := fun _ S => .ok true S

section
variable {K : PySem.W.Frag} {H H' H1 : Hp} {w w' w1 : Vw} {p Dd : Addr} {v : V} {vs : List V} {d : D} {ds : List D} {S : Sto} {E : En} {σ : L2.St}
theorem gMany_to : ∀ {is : List Nat} {vs : List V} {σ : L2.St} {H : Hp} {Q : L2.St → Hp → Prop}, vs.length = is.length → Q (setsσ is vs σ) H → gMany is vs σ H Q
  | [], [], _, _, _, _, h => ⟨rfl, h⟩
  | i :: is, v :: vs, σ, H, Q, l, h => ⟨v, vs, rfl, gMany_to (is := is) (by simpa using l) h⟩
  | [], _ :: _, _, _, _, l, _ => by simp at l
  | _ :: _, [], _, _, _, l, _ => by simp at l
theorem EnR.sets : ∀ {is : List Nat} {ds : List D} {vs : List V} {E : En} {σ : L2.St}, EnR K H w E σ → Reps K H w vs ds → EnR K H w (setsE is ds E) (setsσ is vs σ)
  | [], _, _, _, _, h, r => by cases r <;> exact h
  | i :: is, _, _, _, _, h, .nil => h
  | i :: is, _, _, _, _, h, .cons r t => EnR.sets (is := is) (h.set r i) t
theorem wipe_step (σ : L2.St) (i : Nat) (is : List Nat) : wipe σ (i :: is) = (wipe σ is).set i none := by
  simp only [wipe]
theorem EnR.clear (h : EnR K H w E σ) (i : Nat) : EnR K H w (E.set i none) (σ.set i none) := ⟨by simp [h.len], fun j d q => by
  by_cases c : i = j
  · subst c
    rw [List.getElem?_set] at q
    split at q
    · split at q <;> cases q
    · rename_i z; exact absurd rfl z
  · rw [List.getElem?_set_ne c] at q ⊢
    exact h.at_ j d q⟩
theorem EnR.wipe : ∀ {is : List Nat} {E : En} {σ : L2.St}, EnR K H w E σ → EnR K H w (wipeE E is) (L2.wipe σ is)
  | [], _, _, h => h
  | i :: is, E, σ, h => by
    rw [wipe_step]
    exact (EnR.wipe (is := is) h).clear i
theorem wipe_len : ∀ (is : List Nat) (σ : L2.St), (wipe σ is).length = σ.length := fun is σ => wipe_length σ is
theorem wipe_get : ∀ (is : List Nat) (σ : L2.St) (j : Nat), (wipe σ is)[j]? = if j ∈ is then (if j < σ.length then some none else none) else σ[j]?
  | [], σ, j => by simp [wipe]
  | i :: is, σ, j => by
    rw [wipe_step]
    by_cases c : i = j
    · subst c
      rw [if_pos List.mem_cons_self, List.getElem?_set, wipe_len]
      simp
    · rw [List.getElem?_set_ne c, wipe_get is σ j]
      by_cases h : j ∈ is
      · rw [if_pos h, if_pos (List.mem_cons_of_mem _ h)]
      · rw [if_neg h, if_neg (by simp [h, Ne.symm c])]
theorem wipe_set {is : List Nat} {σ : L2.St} {i : Nat} {x : Option V} (h : i ∈ is) : wipe ((wipe σ is).set i x) is = wipe σ is := by
  apply List.ext_getElem?
  intro j
  rw [wipe_get, wipe_get, List.length_set, wipe_len]
  by_cases c : j ∈ is
  · rw [if_pos c, if_pos c]
  · rw [if_neg c, if_neg c, List.getElem?_set_ne (fun z => c (by rw [← z]; exact h)), wipe_get, if_neg c]
theorem wipe_sets : ∀ {ts : List Nat} {vs : List V} {is : List Nat} {σ τ : L2.St}, (∀ i ∈ ts, i ∈ is) → wipe τ is = wipe σ is → wipe (setsσ ts vs τ) is = wipe σ is
  | [], vs, _, _, _, _, h => by cases vs <;> exact h
  | _ :: _, [], _, _, _, _, h => h
  | t :: ts, v :: vs, is, σ, τ, hm, h => wipe_sets (ts := ts) (fun i hi => hm i (List.mem_cons_of_mem _ hi)) (by
      rw [← h]
      apply List.ext_getElem?
      intro j
      rw [wipe_get, wipe_get, List.length_set]
      by_cases c : j ∈ is
      · rw [if_pos c, if_pos c]
      · rw [if_neg c, if_neg c, List.getElem?_set_ne (fun z => c (by rw [← z]; exact hm t List.mem_cons_self))])
/-- a new list that is being filled is named by nothing -/
abbrev Vw.hide (w : Vw) (D_ : Addr) : Vw := { w with Z := D_ :: w.Z }
abbrev Vw.z (w : Vw) (Z : List Addr) : Vw := { w with Z := Z }
theorem SqT.hid {o : HO} {b : Addr} {xs : List V} (h : SqT K H b xs) (hn : H p = none) : SqT K (upd H p o) b xs := by
  rcases h with h | h
  · exact .inl (rd_upd h hn)
  · exact .inr h
/-- a list that is filled is put by: what stood before still stands -/
theorem ExtW.hide {o : HO} (hn : H p = none) : ExtW K H w (upd H p o) (w.hide p) :=
  ⟨fun a h => by
    rcases List.mem_cons.mp h with z | z
    · rw [z]; exact .inr hn
    · exact .inl z, ⟨[], by simp, by simp⟩, fun a u e _ _ _ => by rw [upd_ne (ne_of_none e hn)]; exact e, fun b xs h => SqT.hid h hn, fun b u e => ⟨u, by rw [upd_ne (ne_of_none e hn)]; exact e⟩, fun P ⟨ps, e, t⟩ => ⟨ps, by rw [upd_ne (ne_of_none e hn)]; exact e, t⟩⟩
theorem StR.hide {o : HO} (h : StR K H w S) (hn : H p = none) : StR K (upd H p o) (w.hide p) S :=
  ⟨h.len, h.nd, fun a ha hz => by
    rcases List.mem_cons.mp hz with z | z
    · exact h.nfr hn (by rw [← z]; exact ha)
    · exact h.nz a ha z, fun a ha => by
    rcases List.mem_cons.mp ha with z | z
    · exact ⟨o, by rw [z]; exact upd_same⟩
    · exact (h.new (o := o) hn).zt a z, fun r b ob h1 h2 => by
    obtain ⟨ho, e, q⟩ := h.ob r b ob h1 h2
    exact ⟨ho, by rw [upd_ne (ne_of_none e hn)]; exact e, q.extW (ExtW.hide hn)⟩⟩
/-- it is filled -/
theorem ExtW.fill {xs : List V} {o : HO} (hz : p ∈ w.Z) (hp : H p = some (.lst xs)) : ExtW K H w (upd H p o) w :=
  ⟨fun a h => .inl h, ⟨[], by simp, by simp⟩, fun a u e _ _ z => by rw [upd_ne (fun c => z (by rw [c]; exact hz))]; exact e, fun b ys h => by
    rcases h with h | h
    · have ne : b ≠ p := fun c => by
        subst c
        rcases h with h | ⟨ob, h⟩
        · rw [hp] at h; cases h
        · rw [hp] at h; cases h
      refine .inl ?_
      unfold Rd
      rw [upd_ne ne]
      exact h
    · exact .inr h, fun b u e => by
    by_cases c : b = p
    · subst c; exact ⟨o, upd_same⟩
    · exact ⟨u, by rw [upd_ne c]; exact e⟩, fun P ⟨ps, e, t⟩ => ⟨ps, by rw [upd_ne (fun c => by rw [c, hp] at e; cases e)]; exact e, t⟩⟩
theorem StR.fill {xs : List V} {o : HO} (h : StR K H w S) (hz : p ∈ w.Z) (hp : H p = some (.lst xs)) : StR K (upd H p o) w S :=
  ⟨h.len, h.nd, h.nz, fun a ha => (ExtW.fill (K := K) (o := o) hz hp).s a _ (h.zt a ha).choose_spec, fun r b ob h1 h2 => by
    obtain ⟨ho, e, q⟩ := h.ob r b ob h1 h2
    have ne : b ≠ p := fun c => h.nz b (List.mem_of_getElem? h1) (by rw [c]; exact hz)
    exact ⟨ho, by rw [upd_ne ne]; exact e, q.extW (ExtW.fill hz hp)⟩⟩
/-- it is done -/
theorem ExtW.show {Z : List Addr} (hz : ∀ a ∈ Z, a ∈ w.Z) : ExtW K H w H (w.z Z) := ⟨fun a h => .inl (hz a h), ⟨[], by simp, by simp⟩, fun _ _ e _ _ _ => e, fun _ _ h => h, fun _ u e => ⟨u, e⟩, fun _ h => h⟩
theorem StR.show {Z : List Addr} (h : StR K H w S) (hz : ∀ a ∈ Z, a ∈ w.Z) : StR K H (w.z Z) S :=
  ⟨h.len, h.nd, fun a ha c => h.nz a ha (hz a c), fun a ha => h.zt a (hz a ha), fun r b ob h1 h2 => by
    obtain ⟨ho, e, q⟩ := h.ob r b ob h1 h2
    exact ⟨ho, e, q.extW (ExtW.show hz)⟩⟩
theorem Ext.hid {Z : List Addr} (e : Ext K H w H' w') : Ext K H (w.z Z) H' (w'.z Z) := ⟨rfl, e.m, e.k, e.t, e.s, e.b⟩
/-- a thing that was not there is changed -/
theorem Ext.putNew {o : HO} (e : Ext K H1 w1 H' w') (hn : H1 p = none) {xs : List V} (hp : H' p = some (.lst xs)) : Ext K H1 w1 (upd H' p o) w' :=
  ⟨e.z, e.m, fun a u h n m => by rw [upd_ne (ne_of_none h hn)]; exact e.k a u h n m, fun b ys h => by
    have h' := e.t b ys h
    rcases h' with h' | h'
    · have ne : b ≠ p := fun c => by
        subst c
        rcases h' with h' | ⟨ob, h'⟩
        · rw [hp] at h'; cases h'
        · rw [hp] at h'; cases h'
      refine .inl ?_
      unfold Rd
      rw [upd_ne ne]
      exact h'
    · exact .inr h', fun a u h => by
    obtain ⟨o', h'⟩ := e.s a u h
    exact ⟨o', by rw [upd_ne (ne_of_none h hn)]; exact h'⟩, fun P h => by
    obtain ⟨ps, e', t⟩ := e.b P h
    exact ⟨ps, by rw [upd_ne (fun c => by rw [c, hp] at e'; cases e')]; exact e', t⟩⟩
end
section
variable {X : Cx} {W : WX}
theorem newL_post {K : PySem.W.Frag} {W : WX} {H1 : Hp} {w1 : Vw} {H : Hp} {w : Vw} {fz : Bool} {ds : List D} {vs : List V} {S S1 : Sto} {Q : VK} {p : Addr} (h : PostV K W H1 w1 (newL fz ds S) Q) (hn : H1 p = none) (s1 : StR K H1 w1 S1)
    (e : Ext K H1 w1 H (w.z w1.Z)) (s : StR K H w S) (hp : H p = some (.lst vs)) (hm : p ∉ w.M) (hz : w.Z = p :: w1.Z) (r : Reps K H w vs ds) : Q (.ref p) H := by
  have sub : ∀ a ∈ w1.Z, a ∈ w.Z := fun a ha => by rw [hz]; exact List.mem_cons_of_mem _ ha
  have mu : PostV K W H1 w1 (.ok (.ref S.length) (S ++ [.lst ds])) Q → Q (.ref p) H := fun h => by
    let w2 : Vw := ⟨w.M ++ [p], w1.Z⟩
    have em : Ext K H1 w1 H w2 := by
      obtain ⟨N, hN, fN⟩ := e.m
      exact ⟨rfl, ⟨N ++ [p], by show w.M ++ [p] = _; rw [show w.M = w1.M ++ N from hN, List.append_assoc], fun a ha => by
        rcases List.mem_append.mp ha with z | z
        · exact fN a z
        · rw [List.mem_singleton.mp z]; exact hn⟩, e.k, e.t, e.s, e.b⟩
    have ew : ExtW K H w H w2 := ⟨fun a h => .inl (sub a h), ⟨[p], rfl, fun a ha => by rw [List.mem_singleton.mp ha, hz]; exact .inr List.mem_cons_self⟩, fun _ _ e _ _ _ => e, fun _ _ h => h, fun _ u e => ⟨u, e⟩, fun _ h => h⟩
    refine h H w2 em ⟨by show (w.M ++ [p]).length = _; simp [s.len], ?_, ?_, fun a ha => s.zt a (sub a ha), fun r' b ob h1 h2 => ?_⟩ _ (.ref ?_)
    · show (w.M ++ [p]).Nodup
      rw [List.nodup_append]
      refine ⟨s.nd, by simp, fun x hx y hy => ?_⟩
      rw [List.mem_singleton.mp hy]
      rintro rfl
      exact hm hx
    · intro b hb c
      rcases List.mem_append.mp hb with z | z
      · exact s.nz b z (sub b c)
      · rw [List.mem_singleton.mp z] at c
        exact s1.nz_new hn c
    · have h1 : (w.M ++ [p])[r']? = some b := h1
      by_cases c : r' < w.M.length
      · rw [List.getElem?_append_left c] at h1
        rw [List.getElem?_append_left (by rw [← s.len]; exact c)] at h2
        obtain ⟨ho, e', q'⟩ := s.ob r' b ob h1 h2
        exact ⟨ho, e', q'.extW ew⟩
      · have hr : r' = w.M.length := by
          have := (List.getElem?_eq_some_iff.mp h1).1
          simp at this
          omega
        subst hr
        rw [List.getElem?_append_right (Nat.le_refl _)] at h1
        rw [List.getElem?_append_right (by rw [s.len]; exact Nat.le_refl _)] at h2
        simp at h1
        rw [s.len] at h2
        simp at h2
        subst h1; subst h2
        exact ⟨_, hp, (show ObR K H w2 (.lst vs) (.lst ds) from r.extW ew)⟩
    · show (w.M ++ [p])[S.length]? = some p
      rw [← s.len, List.getElem?_append_right (Nat.le_refl _)]
      simp
  cases fz with
  | false =>
    unfold SV.newL at h
    exact mu h
  | true =>
    cases e' : pures ds with
    | none =>
      unfold SV.newL at h
      rw [e'] at h
      exact mu h
    | some xs =>
      unfold SV.newL at h
      rw [e'] at h
      obtain rfl := pures_some e'
      exact h H (w.z w1.Z) e (s.show sub) _ (.p (.lst ⟨hp, hm, s1.nz_new hn⟩ (RPs.of_reps (r.extW (ExtW.show sub)))))
variable {elt tg iter : Expr} {ifs : List Expr} {scope : Scope} {own : List (Str × Nat)} {pos : Pos}
abbrev RTs (X : Cx) (W : WX) (ifs : List Expr) (f : FT) : Prop := PTs X ifs (ttOf X.K W f)
theorem rts_nil : RTs X W [] fYes := ⟨fun pins s σ H Q I ⟨w, E, S, hE, hS, hP⟩ => pts_nil.run pins s σ H Q I (Post.same hP hS)⟩
theorem rts_one {c : Expr} {f : FT} (h : RT X W c f) : RTs X W [c] f := pts_one h
def noW : WX := fun _ _ _ _ => False
theorem wipe_twice (σ : L2.St) (is : List Nat) : wipe (wipe σ is) is = wipe σ is := by
  apply List.ext_getElem?
  intro j
  rw [wipe_get, wipe_get, wipe_len]
  by_cases c : j ∈ is
  · rw [if_pos c, if_pos c]
  · rw [if_neg c, if_neg c]
theorem wipe_set' {is : List Nat} {τ σ : L2.St} {i : Nat} {x : Option V} (h : i ∈ is) (e : wipe τ is = wipe σ is) : wipe (τ.set i x) is = wipe σ is := by
  rw [← e]
  apply List.ext_getElem?
  intro j
  rw [wipe_get, wipe_get, List.length_set]
  by_cases c : j ∈ is
  · rw [if_pos c, if_pos c]
  · rw [if_neg c, if_neg c, List.getElem?_set_ne (fun z => c (by rw [← z]; exact h))]
theorem puts_len : ∀ (ts : List Tgt) {ds : List D} {E E1 : En}, Tgt.puts ts ds E = some E1 → ds.length = ts.length
  | [], [], _, _, _ => rfl
  | [], _ :: _, _, _, h => by simp only [Tgt.puts] at h; cases h
  | _ :: _, [], _, _, h => by simp only [Tgt.puts] at h; cases h
  | t :: ts, d :: ds, E, E1, h => by
    simp only [Tgt.puts] at h
    split at h
    · simp [puts_len ts h]
    · cases h
section
variable {K : PySem.W.Frag} {H : Hp} {w : Vw} {σ : L2.St} {is : List Nat}
mutual
theorem tgt_putG : ∀ (t : Tgt) {d : D} {v : V} {E E1 : En} {τ : L2.St} {Q : L2.St → Hp → Prop}, t.put d E = some E1 → EnR K H w E τ → Rep K H w v d → (∀ i ∈ t.slots, i ∈ is) → wipe τ is = wipe σ is →
    (∀ σ2, EnR K H w E1 σ2 → wipe σ2 is = wipe σ is → Q σ2 H) → t.tg K v τ H Q
  | .one i, d, v, E, E1, τ, Q, h, hE, r, hi, ww, q => by
    obtain rfl := Option.some.inj (show some (E.set i (some d)) = some E1 by simpa only [Tgt.put] using h)
    show gName i v τ H Q
    exact q _ (hE.set r i) (wipe_set' (hi i (by simp [Tgt.slots])) ww)
  | .many ts, d, v, E, E1, τ, Q, h, hE, r, hi, ww, q => by
    simp only [Tgt.put] at h
    split at h
    · rename_i ds e
      split at h
      · rename_i hl
        obtain rfl := Option.some.inj h
        obtain ⟨a, vs, rfl, h1, h2⟩ := viewT_ok r e
        exact ⟨a, vs, rfl, h1, by rw [h2.len]; exact hl, gMany_to (by rw [h2.len]; exact hl) (q _ (hE.sets h2) (wipe_sets (fun i z => hi i (by simpa only [Tgt.slots] using z)) ww))⟩
      · cases h
    · cases h
  | .deep ts, d, v, E, E1, τ, Q, h, hE, r, hi, ww, q => by
    simp only [Tgt.put] at h
    split at h
    · rename_i ds e
      obtain ⟨a, vs, rfl, h1, h2⟩ := viewT_ok r e
      obtain ⟨hl, z⟩ := tgt_putsG ts h hE h2 (fun i z => hi i (by simpa only [Tgt.slots] using z)) ww q
      exact ⟨a, vs, rfl, h1, hl, z⟩
    · cases h
theorem tgt_putsG : ∀ (ts : List Tgt) {ds : List D} {vs : List V} {E E1 : En} {τ : L2.St} {Q : L2.St → Hp → Prop}, Tgt.puts ts ds E = some E1 → EnR K H w E τ → Reps K H w vs ds → (∀ i ∈ Tgt.slotss ts, i ∈ is) → wipe τ is = wipe σ is →
    (∀ σ2, EnR K H w E1 σ2 → wipe σ2 is = wipe σ is → Q σ2 H) → vs.length = ts.length ∧ Tgt.tgs K ts vs τ H Q
  | [], ds, vs, E, E1, τ, Q, h, hE, r, hi, ww, q => by
    cases ds with
    | nil =>
      cases r
      obtain rfl := Option.some.inj (show some E = some E1 by simpa only [Tgt.puts] using h)
      exact ⟨rfl, rfl, q _ hE ww⟩
    | cons d ds => simp only [Tgt.puts] at h; cases h
  | t :: ts, ds, vs, E, E1, τ, Q, h, hE, r, hi, ww, q => by
    cases ds with
    | nil => simp only [Tgt.puts] at h; cases h
    | cons d ds =>
      cases r with
      | cons r1 r2 =>
        simp only [Tgt.puts] at h
        split at h
        · rename_i E2 e2
          have key := puts_len ts h
          refine ⟨by simp [r2.len, key], _, _, rfl, tgt_putG t e2 hE r1 (fun i z => hi i (by simp only [Tgt.slotss]; exact List.mem_append_left _ z)) ww fun σ2 hE2 w2 => (tgt_putsG ts h hE2 r2 (fun i z => hi i (by simp only [Tgt.slotss]; exact List.mem_append_right _ z)) w2 q).2⟩
        · cases h
end
end
theorem lc_sound {fz : Bool} {it : FI} {t : Tgt} {ts : FT} {te : FE} {K : PySem.W.Frag} {vs : List Nat} (ht : ∀ i ∈ t.slots, i ∈ vs) {σ : L2.St} {H : Hp} {Q : VK} (h : teOf K W (fLc fz it t vs ts te) σ H Q) :
    tLc (tiOf K W it) (t.tg K) (ttOf K noW ts) (teOf K noW te) vs σ H Q := by
  obtain ⟨w, E, S, hE, hS, hP⟩ := h
  refine ⟨w, E, S, hE, hS, Post.imp (Post.bind hP) fun its S1 H1 w1 e1 s1 q J hJ D_ hD => ?_⟩
  have hE1 := hE.ext e1
  cases hr : lcN its t ts te (wipeE E vs) its.fuel 0 [] S1 with
  | exc _ _ _ =>
    exfalso
    have nox : ∀ n i acc S x E' S', lcN its t ts te (wipeE E vs) n i acc S ≠ .exc x E' S' := by
      intro n
      induction n with
      | zero => intro i acc S x E' S' c; cases c
      | succ n ih =>
        intro i acc S x E' S' c
        unfold lcN at c
        split at c
        · cases c
        · cases c
        · split at c
          · cases c
          · split at c
            · split at c
              · split at c
                · split at c
                  · exact ih _ _ _ _ _ _ c
                  · cases c
                · cases c
              · exact ih _ _ _ _ _ _ c
            · cases c
    exact nox _ _ _ _ _ _ _ hr
  | bad => rw [hr] at q; exact q.elim
  | ok out Sf =>
    rw [hr] at q
    have q : PostV K W H1 w1 (newL fz out Sf) Q := q
    refine ⟨fun i m H => ∃ w' S' acc ds, Ext K H1 w1 H (w'.z w1.Z) ∧ ExtW K H1 w1 H w' ∧ w'.Z = D_ :: w1.Z ∧ D_ ∉ w'.M ∧ StR K H w' S' ∧ H D_ = some (.lst acc) ∧ Reps K H w' acc ds ∧ EnR K H w' (wipeE E vs) (wipe σ vs) ∧ lcN its t ts te (wipeE E vs) m i ds S' = .ok out Sf,
      ⟨_, w1.hide D_, S1, [], [], Ext.new hD, ExtW.hide hD, rfl, s1.nfr hD, s1.hide hD, upd_same, .nil, hE1.wipe.extW (ExtW.hide hD), hr⟩, ?_⟩
    rintro i m H ⟨w', S', acc, ds, ex, ew, hZ, hM, hS', hL, hR, hE', hq⟩
    cases m with
    | zero => cases hq
    | succ n =>
      unfold lcN at hq
      split at hq
      · cases hq
      · rename_i e
        injection hq with h1 h2
        subst h1; subst h2
        exact .inl ⟨hJ.stop H _ S' ew hS' i e, newL_post q hD s1 ex hS' hL hM hZ hR⟩
      · rename_i d e
        obtain ⟨j1, j2⟩ := hJ.go H _ S' ew hS' i d e
        have hDz : ∀ {w2 : Vw}, w2.Z = w'.Z → D_ ∈ w2.Z := fun h => by rw [h, hZ]; exact List.mem_cons_self
        refine .inr ⟨j1, _, fun H' z => ⟨n, Nat.lt_succ_self n, z⟩, fun v H2 y => ?_⟩
        obtain ⟨k1, k2, k3⟩ := j2 v H2 y
        split at hq
        · cases hq
        · rename_i E1 eE
          refine tgt_putG t eE (hE'.ext k1) k3 ht (wipe_twice _ _) fun σ2 hE2 hw => ⟨hw, w', E1, S', hE2, k2, ?_⟩
          -- behind H2: what the rest of the turn leads to
          have lift : ∀ {H3 : Hp} {w3 : Vw}, Ext K H2 w' H3 w3 → Ext K H1 w1 H3 (w3.z w1.Z) ∧ ExtW K H1 w1 H3 w3 ∧ w3.Z = D_ :: w1.Z ∧ D_ ∉ w3.M ∧ H3 D_ = some (.lst acc) := fun {H3 w3} e3 => by
            have eh : Ext K H w' H3 w3 := k1.trans e3
            refine ⟨ex.trans (eh.hid), ew.trans eh.wk, by rw [eh.z]; exact hZ, eh.nm hL hM, eh.k _ _ hL nt_lst hM⟩
          cases hts : ts E1 S' with
          | exc _ _ _ => rw [hts] at hq; cases hq
          | bad => rw [hts] at hq; cases hq
          | ok c S3 =>
            rw [hts] at hq
            refine fun H3 w3 e3 s3 => ?_
            obtain ⟨l1, l2, l3, l4, l5⟩ := lift e3
            dsimp only at hq
            cases c with
            | false =>
              rw [if_neg Bool.false_ne_true]
              exact ⟨w3, S3, acc, ds, l1, l2, l3, l4, s3, l5, hR.ext (k1.trans e3), hE'.ext (k1.trans e3), hq⟩
            | true =>
              rw [if_pos rfl]
              rw [if_pos rfl] at hq
              refine ⟨w3, E1, S3, hE2.ext e3, s3, ?_⟩
              cases hte : te E1 S3 with
              | exc _ _ _ => rw [hte] at hq; cases hq
              | bad => rw [hte] at hq; cases hq
              | ok y S4 =>
                rw [hte] at hq
                dsimp only at hq
                split at hq
                · rename_i hlen
                  refine fun H4 w4 e4 s4 yv ry => ?_
                  have e34 := e3.trans e4
                  obtain ⟨m1, m2, m3, m4, m5⟩ := lift e34
                  have hz4 : D_ ∈ w4.Z := by rw [m3]; exact List.mem_cons_self
                  have fl : ExtW K H4 w4 (upd H4 D_ (.lst (acc ++ [yv]))) w4 := ExtW.fill hz4 m5
                  refine ⟨acc, m5, ?_, w4, S4, acc ++ [yv], ds ++ [y], m1.putNew hD m5, m2.trans fl, m3, m4, s4.fill hz4 m5, upd_same,
                    ((hR.ext (k1.trans e34)).append (.cons ry .nil)).extW fl, (hE'.ext (k1.trans e34)).extW fl, hq⟩
                  rw [hR.len]
                  exact Nat.lt_trans hlen (by rw [sizeLine_eq]; decide)
                · cases hq
/-- [elt for names in iter if test] -/
theorem re_lc {fz : Bool} {it : FI} {t : Tgt} {ts : FT} {te : FE} (hc : X.calm = true) (hN : X.N.Nodup) (hi : RI X W tg iter it) (ok : BlkOk X.N X.env.scope scope own) (ht : ∀ i ∈ t.slots, i ∈ own.map (·.2))
    (hg : ∀ (s : Shared) (H : Hp) (C : Addr) (cl : List (Str × Addr)) (fp : List Addr), PG (X.blk s H scope (compEnvC scope cl C X.env) fp) tg (t.tg X.K)) (hts : ∀ (s : Shared) (H : Hp) (C : Addr) (cl : List (Str × Addr)) (fp : List Addr), RTs (X.blk s H scope (compEnvC scope cl C X.env) fp) noW ifs ts)
    (he : ∀ (s : Shared) (H : Hp) (C : Addr) (cl : List (Str × Addr)) (fp : List Addr), RE (X.blk s H scope (compEnvC scope cl C X.env) fp) noW elt te) (hs : ∀ x, foldedSetIterable iter X.env x = pure x := by intro _; rfl) :
    RE X W (.ListComp elt [⟨tg, iter, ifs, 0⟩] scope pos) (fLc fz it t (own.map (·.2)) ts te) :=
  PE.wk (pe_lc (te := teOf X.K noW te) (tt := ttOf X.K noW ts) (g := t.tg X.K) hc hN hi ok hg hts he hs) fun σ H Q h => lc_sound ht h
end
end SV
set_option linter.all false
set_option maxRecDepth 100000
set_option maxHeartbeats 1000000
namespace SV
open PySem PySem.Spec PyProof.Rows L2 NB

/-! ### equality of stores -/
mutual
def beqP : PyData → PyData → Bool
  | .none, .none => true
  | .bool a, .bool b => a == b
  | .int a, .int b => a == b
  | .str a, .str b => decide (a = b)
  | .list a, .list b => beqPs a b
  | .tuple a, .tuple b => beqPs a b
  | .dict a, .dict b => beqKs a b
  | _, _ => false
def beqPs : List PyData → List PyData → Bool
  | [], [] => true
  | a :: r, b :: t => beqP a b && beqPs r t
  | _, _ => false
def beqKs : List (PyData × PyData) → List (PyData × PyData) → Bool
  | [], [] => true
  | (a, c) :: r, (b, d) :: t => beqP a b && beqP c d && beqKs r t
  | _, _ => false
end
mutual
theorem beqP_iff : ∀ (a b : PyData), beqP a b = true ↔ a = b
  | .none, b => by cases b <;> simp [beqP]
  | .bool a, b => by cases b <;> simp [beqP]
  | .int a, b => by cases b <;> simp [beqP]
  | .str a, b => by cases b <;> simp [beqP]
  | .list a, b => by
    cases b with
    | list b => simp [beqP, beqPs_iff a b]
    | _ => simp [beqP]
  | .tuple a, b => by
    cases b with
    | tuple b => simp [beqP, beqPs_iff a b]
    | _ => simp [beqP]
  | .dict a, b => by
    cases b with
    | dict b => simp [beqP, beqKs_iff a b]
    | _ => simp [beqP]
theorem beqPs_iff : ∀ (a b : List PyData), beqPs a b = true ↔ a = b
  | [], b => by cases b <;> simp [beqPs]
  | a :: r, b => by
    cases b with
    | nil => simp [beqPs]
    | cons b t => simp [beqPs, beqP_iff a b, beqPs_iff r t]
theorem beqKs_iff : ∀ (a b : List (PyData × PyData)), beqKs a b = true ↔ a = b
  | [], b => by cases b <;> simp [beqKs]
  | (a, c) :: r, b => by
    cases b with
    | nil => simp [beqKs]
    | cons b t =>
      obtain ⟨b1, b2⟩ := b
      simp [beqKs, beqP_iff a b1, beqP_iff c b2, beqKs_iff r t]
end
mutual
def beqD : D → D → Bool
  | .p a, .p b => beqP a b
  | .ref a, .ref b => a == b
  | .tup a, .tup b => beqDs a b
  | .glb a, .glb b => decide (a = b)
  | .scr a, .scr b => decide (a = b)
  | .exn a c x, .exn b d y => decide (a = b) && decide (c = d) && beqD x y
  | _, _ => false
def beqDs : List D → List D → Bool
  | [], [] => true
  | a :: r, b :: t => beqD a b && beqDs r t
  | _, _ => false
end
mutual
theorem beqD_iff : ∀ (a b : D), beqD a b = true ↔ a = b
  | .p a, b => by cases b <;> simp [beqD, beqP_iff]
  | .ref a, b => by cases b <;> simp [beqD]
  | .glb a, b => by cases b <;> simp [beqD]
  | .scr a, b => by cases b <;> simp [beqD]
  | .exn a c x, b => by
    cases b with
    | exn b d y => simp [beqD, beqD_iff x y, and_assoc]
    | _ => simp [beqD]
  | .tup a, b => by
    cases b with
    | tup b => simp [beqD, beqDs_iff a b]
    | _ => simp [beqD]
theorem beqDs_iff : ∀ (a b : List D), beqDs a b = true ↔ a = b
  | [], b => by cases b <;> simp [beqDs]
  | a :: r, b => by
    cases b with
    | nil => simp [beqDs]
    | cons b t => simp [beqDs, beqD_iff a b, beqDs_iff r t]
end
def beqKD : List (Key × D) → List (Key × D) → Bool
  | [], [] => true
  | (a, c) :: r, (b, d) :: t => decide (a = b) && beqD c d && beqKD r t
  | _, _ => false
theorem beqKD_iff : ∀ (a b : List (Key × D)), beqKD a b = true ↔ a = b
  | [], b => by cases b <;> simp [beqKD]
  | (a, c) :: r, b => by
    cases b with
    | nil => simp [beqKD]
    | cons b t =>
      obtain ⟨b1, b2⟩ := b
      simp [beqKD, beqD_iff c b2, beqKD_iff r t]
def beqO : Ob → Ob → Bool
  | .lst a, .lst b => beqDs a b
  | .dK a, .dK b => beqKD a b
  | .tabs a, .tabs b => decide (a = b)
  | _, _ => false
theorem beqO_iff (a b : Ob) : beqO a b = true ↔ a = b := by
  cases a <;> cases b <;> simp [beqO, beqDs_iff, beqKD_iff]
def beqS : Sto → Sto → Bool
  | [], [] => true
  | a :: r, b :: t => beqO a b && beqS r t
  | _, _ => false
theorem beqS_iff : ∀ (a b : Sto), beqS a b = true ↔ a = b
  | [], b => by cases b <;> simp [beqS]
  | a :: r, b => by
    cases b with
    | nil => simp [beqS]
    | cons b t => simp [beqS, beqO_iff a b, beqS_iff r t]
mutual
def closedD (n : Nat) : D → Bool
  | .p _ => true
  | .ref r => decide (r < n)
  | .tup xs => closedDs n xs
  | .glb _ => true
  | .scr _ => true
  | .exn _ _ x => closedD n x
def closedDs (n : Nat) : List D → Bool
  | [] => true
  | d :: r => closedD n d && closedDs n r
end
def closedO (n : Nat) : Ob → Bool
  | .lst ds => closedDs n ds
  | .dK kvs => closedDs n (kvs.map (·.2))
  | .tabs _ => true
def closedS (n : Nat) (S : Sto) : Bool := S.all (closedO n)
def mapO (f : D → Option D) : List D → Option (List D)
  | [] => some []
  | d :: r => (f d).bind fun e => (mapO f r).map (e :: ·)
/-- what stands in a store beyond n is made fast -/
def fre (S : Sto) (n : Nat) : Nat → D → Option D
  | 0, _ => none
  | k + 1, d => match d with
    | .p x => some (.p x)
    | .glb v => some (.glb v)
    | .scr ns => some (.scr ns)
    | .exn _ _ _ => none
    | .ref r => if r < n then some (.ref r) else match S[r]? with
      | some (.lst ds) => (mapO (fre S n k) ds).bind fun es => (pures es).map fun xs => .p (.list xs)
      | _ => none
    | .tup ds => (mapO (fre S n k) ds).map mkT
/-- the end of a def: what it made and does not hand out is dropped -/
def leave (S0 : Sto) (d : D) (S1 : Sto) : R D :=
  if S1.length = S0.length then .ok d S1
  else if beqS (S1.take S0.length) S0 then (match fre S1 S0.length 5 d with
    | some d' => .ok d' S0
    | none => .ok d S1)
  else if closedS S0.length (S1.take S0.length) then (match fre S1 S0.length 5 d with
    | some d' => .ok d' (S1.take S0.length)
    | none => .ok d S1)
  else .ok d S1

section
variable {K : PySem.W.Frag} {H H' : Hp} {w w' w1 : Vw} {a p : Addr} {v : V} {vs : List V} {d : D} {ds : List D} {S S0 S1 : Sto}
mutual
theorem Rep.closed : ∀ (d : D) (v : V), Rep K H w v d → closedD w.M.length d = true
  | .p _, _, _ => rfl
  | .ref r, _, h => by cases h with | ref h => exact decide_eq_true (List.getElem?_eq_some_iff.mp h).1
  | .tup ds, _, h => by cases h with | tup _ h => exact Reps.closed ds _ h
  | .glb _, _, _ => rfl
  | .scr _, _, _ => rfl
  | .exn _ _ x, _, h => by cases h with | exn _ _ _ h => exact Rep.closed x _ h
theorem Reps.closed : ∀ (ds : List D) (vs : List V), Reps K H w vs ds → closedDs w.M.length ds = true
  | [], _, _ => rfl
  | d :: r, _, h => by cases h with | cons h t => exact Bool.and_eq_true_iff.mpr ⟨Rep.closed d _ h, Reps.closed r _ t⟩
end
mutual
theorem RP.less {M : List Addr} (hm : ∀ a ∈ M, a ∈ w.M) : ∀ (x : PyData) (v : V), RP K H w v x → RP K H ⟨M, w.Z⟩ v x
  | .none, _, h => by cases h; exact .non
  | .bool b, _, h => by cases h; exact .bl b
  | .int i, _, h => by cases h; exact .int i
  | .str x, _, h => by cases h; exact .str x
  | .list ds, _, h => by cases h with | lst h1 h2 => exact .lst ⟨h1.1, fun z => h1.2.1 (hm _ z), h1.2.2⟩ (RPs.less hm ds _ h2)
  | .tuple ds, _, h => by cases h with | tup h1 h2 => exact .tup h1 (RPs.less hm ds _ h2)
  | .dict _, _, h => by cases h
theorem RPs.less {M : List Addr} (hm : ∀ a ∈ M, a ∈ w.M) : ∀ (x : List PyData) (v : List V), RPs K H w v x → RPs K H ⟨M, w.Z⟩ v x
  | [], _, h => by cases h; exact .nil
  | x :: r, _, h => by cases h with | cons h t => exact .cons (RP.less hm x _ h) (RPs.less hm r _ t)
end
mutual
theorem Rep.less (n : Nat) : ∀ (d : D) (v : V), Rep K H w v d → closedD n d = true → Rep K H ⟨w.M.take n, w.Z⟩ v d
  | .p x, v, h, _ => by cases h with | p h => exact .p (RP.less (fun a ha => List.mem_of_mem_take ha) x v h)
  | .ref r, _, h, c => by cases h with | ref h => exact .ref (by show (w.M.take n)[r]? = _; rw [List.getElem?_take_of_lt (of_decide_eq_true c)]; exact h)
  | .tup ds, _, h, c => by cases h with | tup h1 h => exact .tup h1 (Reps.less n ds _ h c)
  | .glb v, _, h, _ => by cases h; exact .glb v
  | .scr ns, _, h, _ => by
    cases h with | scr h =>
      refine .scr ?_
      rcases h with ⟨h1, h2, h3⟩ | h
      · exact .inl ⟨h1, fun z => h2 (List.mem_of_mem_take z), h3⟩
      · exact .inr h
  | .exn a dx x, _, h, c => by cases h with | exn h1 h2 h3 h4 => exact .exn h1 (fun z => h2 (List.mem_of_mem_take z)) h3 (Rep.less n x _ h4 c)
theorem Reps.less (n : Nat) : ∀ (ds : List D) (vs : List V), Reps K H w vs ds → closedDs n ds = true → Reps K H ⟨w.M.take n, w.Z⟩ vs ds
  | [], _, h, _ => by cases h; exact .nil
  | d :: r, _, h, c => by
    cases h with | cons h t =>
      obtain ⟨c1, c2⟩ := Bool.and_eq_true_iff.mp c
      exact .cons (Rep.less n d _ h c1) (Reps.less n r _ t c2)
end
theorem ObR.closed {h : HO} {o : Ob} (r : ObR K H w h o) : closedO w.M.length o = true := by
  cases o with
  | lst ds => cases h with
    | lst vs => exact Reps.closed ds vs r
    | _ => exact r.elim
  | dK kds => cases h with
    | dK kvs =>
      have : ∀ {kvs : List (Key × V)} {kds : List (Key × D)}, Paired (fun (p : Key × V) (q : Key × D) => p.1 = q.1 ∧ Rep K H w p.2 q.2) kvs kds → closedDs w.M.length (kds.map (·.2)) = true := by
        intro kvs kds q
        induction q with
        | nil => rfl
        | cons h _ ih => exact Bool.and_eq_true_iff.mpr ⟨Rep.closed _ _ h.2, ih⟩
      exact this r
    | _ => exact r.elim
  | tabs Ps => rfl
theorem ObR.less {h : HO} {o : Ob} {n : Nat} (r : ObR K H w h o) (c : closedO n o = true) : ObR K H ⟨w.M.take n, w.Z⟩ h o := by
  cases o with
  | lst ds => cases h with
    | lst vs => exact Reps.less n ds vs r c
    | _ => exact r.elim
  | dK kds => cases h with
    | dK kvs =>
      have : ∀ {kvs : List (Key × V)} {kds : List (Key × D)}, Paired (fun (p : Key × V) (q : Key × D) => p.1 = q.1 ∧ Rep K H w p.2 q.2) kvs kds → closedDs n (kds.map (·.2)) = true → Paired (fun (p : Key × V) (q : Key × D) => p.1 = q.1 ∧ Rep K H ⟨w.M.take n, w.Z⟩ p.2 q.2) kvs kds := by
        intro kvs kds q
        induction q with
        | nil => intro _; exact .nil
        | cons h _ ih =>
          intro c
          obtain ⟨c1, c2⟩ := Bool.and_eq_true_iff.mp c
          exact .cons ⟨h.1, Rep.less n _ _ h.2 c1⟩ (ih c2)
      exact this r c
    | _ => exact r.elim
  | tabs Ps => cases h with
    | tbl ps => exact r
    | _ => exact r.elim
theorem StR.less {n : Nat} (s : StR K H w S) (c : closedS n (S.take n) = true) : StR K H ⟨w.M.take n, w.Z⟩ (S.take n) := by
  refine ⟨by simp [s.len], s.nd.sublist (List.take_sublist _ _), fun a ha => s.nz a (List.mem_of_mem_take ha), s.zt, fun r a o h1 h2 => ?_⟩
  have h1 : (w.M.take n)[r]? = some a := h1
  have hr : r < n := by
    have := (List.getElem?_eq_some_iff.mp h2).1
    simp at this
    omega
  have hc := List.all_eq_true.mp c o (List.mem_of_getElem? h2)
  rw [List.getElem?_take_of_lt hr] at h1 h2
  obtain ⟨ho, e, q⟩ := s.ob r a o h1 h2
  exact ⟨ho, e, q.less hc⟩
theorem StR.closed (s : StR K H w S) : closedS S.length S = true := by
  refine List.all_eq_true.mpr fun o ho => ?_
  obtain ⟨r, hr, e⟩ := List.getElem_of_mem ho
  obtain ⟨a, h, h1, h2, h3⟩ := s.get (r := r) (o := o) (by rw [← e]; simp)
  rw [← s.len]
  exact h3.closed
theorem mapO_ok {f : D → Option D} : ∀ {ds es : List D} {vs : List V}, Reps K H w vs ds → mapO f ds = some es → (∀ d e v, f d = some e → Rep K H w v d → Rep K H w1 v e) → Reps K H w1 vs es
  | [], _, _, h, e, _ => by cases h; cases e; exact .nil
  | d :: r, es, _, h, e, k => by
    cases h with | cons h t =>
      obtain ⟨x, e1, e2⟩ := Option.bind_eq_some_iff.mp (show (f d).bind (fun e => (mapO f r).map (e :: ·)) = some es from e)
      obtain ⟨xs, e3, rfl⟩ := Option.map_eq_some_iff.mp e2
      exact .cons (k _ _ _ e1 h) (mapO_ok t e3 k)
theorem fre_ok (s : StR K H w S) (n : Nat) : ∀ (k : Nat) (d d' : D) (v : V), fre S n k d = some d' → Rep K H w v d → Rep K H ⟨w.M.take n, w.Z⟩ v d'
  | 0, _, _, _, h, _ => by cases h
  | k + 1, d, d', v, h, r => by
    unfold fre at h
    split at h
    · cases h; exact Rep.less n _ _ r rfl
    · cases h; exact Rep.less n _ _ r rfl
    · cases h; exact Rep.less n _ _ r rfl
    · cases h
    · rename_i i
      split at h
      · rename_i c
        cases h
        exact Rep.less n _ _ r (decide_eq_true c)
      · rename_i c
        split at h
        · rename_i ds es
          obtain ⟨es', e1, e2⟩ := Option.bind_eq_some_iff.mp h
          obtain ⟨xs, e3, rfl⟩ := Option.map_eq_some_iff.mp e2
          obtain rfl := pures_some e3
          cases r with | ref r =>
            obtain ⟨a', ho, h1, h2, h3⟩ := s.get es
            rw [r] at h1
            obtain rfl := (Option.some.inj h1).symm
            cases ho with
            | lst vs =>
              refine .p (.lst ⟨h2, fun z => ?_, s.nz _ (List.mem_of_getElem? r)⟩ (RPs.of_reps (mapO_ok h3 e1 fun d e v q q2 => fre_ok s n k d e v q q2)))
              have z : a' ∈ w.M.take n := z
              obtain ⟨j, hj, ej⟩ := List.getElem_of_mem z
              have hj2 : j < n := by simp at hj; omega
              have : w.M[j]? = some a' := by
                rw [← List.getElem?_take_of_lt hj2]
                exact List.getElem?_eq_some_iff.mpr ⟨hj, ej⟩
              obtain ⟨i1, e1⟩ := List.getElem?_eq_some_iff.mp r
              obtain ⟨i2, e2⟩ := List.getElem?_eq_some_iff.mp this
              have := (List.getElem_inj s.nd).mp (e1.trans e2.symm)
              omega
            | _ => exact h3.elim
        · cases h
    · rename_i ds
      obtain ⟨es, e1, rfl⟩ := Option.map_eq_some_iff.mp h
      cases r with | tup h1 h2 => exact rep_tup h1 (mapO_ok h2 e1 fun d e v q q2 => fre_ok s n k d e v q q2)
theorem Ext.less {n : Nat} (e : Ext K H w H' w') (h : w'.M.take n = w.M) : Ext K H w H' ⟨w'.M.take n, w'.Z⟩ := ⟨e.z, ⟨[], by simp [h], by simp⟩, e.k, e.t, e.s, e.b⟩
theorem leave_ok {W : WX} {Q : VK} {S0 S1 : Sto} (s0 : StR K H w S0) (e : Ext K H w H' w') (s1 : StR K H' w' S1) (r : Rep K H' w' v d) (h : PostV K W H w (leave S0 d S1) Q) : Q v H' := by
  unfold leave at h
  have hM : w'.M.take S0.length = w.M := by
    obtain ⟨N, hN, _⟩ := e.m
    rw [hN, ← s0.len, List.take_left']
    rfl
  have drop : ∀ {d' : D} {S2 : Sto}, S2 = S1.take S0.length → closedS S0.length (S1.take S0.length) = true → fre S1 S0.length 5 d = some d' → PostV K W H w (.ok d' S2) Q → Q v H' := fun e2 c f h => by
    subst e2
    exact h H' ⟨w'.M.take S0.length, w'.Z⟩ (e.less hM) (s1.less c) v (fre_ok s1 _ _ _ _ _ f r)
  split at h
  · exact h H' w' e s1 v r
  · split at h
    · rename_i c
      split at h
      · rename_i d' f
        exact drop ((beqS_iff _ _).mp c).symm (by rw [(beqS_iff _ _).mp c]; exact s0.closed) f h
      · exact h H' w' e s1 v r
    · split at h
      · rename_i c
        split at h
        · rename_i d' f
          exact drop rfl c f h
        · exact h H' w' e s1 v r
      · exact h H' w' e s1 v r
end

/-! ### defs -/
def wOf (E : XK) : WX := fun cls d _ H => E cls d H
def spOf (K : PySem.W.Frag) (n : Nat) (fn : FN) : Sp := fun vs H Q E => vs.length = n ∧ ∃ w ds S, Reps K H w vs ds ∧ StR K H w S ∧ PostV K (wOf E) H w (fn ds S) Q
def startE (n : Nat) (ds : List D) : En := ds.map some ++ List.replicate (n - ds.length) none
/-- a def as a function -/
def defF (n : Nat) (fb : FS) : FN := fun ds S => (match fb (startE n ds) S with
  | .ok (.nx _) S1 => leave S (.p .none) S1
  | .ok (.ret d) S1 => leave S d S1
  | .exc e E S1 => .exc e E S1
  | _ => .bad : R D).at []
section
variable {P : Program} {W_ : World} {K : PySem.W.Frag} {mg : Str → Option Value} {base : Heap}
theorem enR_start {H : Hp} {w : Vw} {N : List Str} : ∀ {vs : List V} {ds : List D}, Reps K H w vs ds → EnR K H w (startE N.length ds) (L2.start N vs) := fun {vs ds} r => by
  refine ⟨?_, fun i d q => ?_⟩
  · unfold startE L2.start
    simp [r.len]
  · unfold startE at q
    by_cases c : i < ds.length
    · rw [List.getElem?_append_left (by simpa using c), List.getElem?_map] at q
      cases e : ds[i]? with
      | none => rw [e] at q; cases q
      | some d' =>
        rw [e] at q
        obtain rfl : d' = d := by simpa using q
        obtain ⟨v, h1, h2⟩ := r.get e
        refine ⟨v, ?_, h2⟩
        unfold L2.start
        rw [List.getElem?_append_left (by rw [List.length_map, r.len]; exact c), List.getElem?_map, h1]
        rfl
    · rw [List.getElem?_append_right (by rw [List.length_map]; omega), List.getElem?_replicate] at q
      split at q <;> cases q
theorem Post.at {H : Hp} {w : Vw} {W : WX} {α : Type} {r : R α} {E : En} {κ : α → Sto → Hp → Vw → Prop} (h : Post K W H w (r.at E) κ) (hx : ∀ cls d σ σ' H', W cls d σ H' → W cls d σ' H') (hE : ∃ σ, ∀ H' w', Ext K H w H' w' → EnR K H' w' E σ) : Post K W H w r κ := by
  cases r with
  | ok x S' => exact h
  | exc e E' S' =>
    obtain ⟨σ0, hσ⟩ := hE
    exact fun cls d H' w' σ e1 e2 e3 e4 => hx cls d σ0 σ H' (h cls d H' w' σ0 e1 e2 (hσ H' w' e1) e4)
  | bad => exact h
theorem fn_sv {x qual : Str} {st : Stmt} {f : Addr} {fd : FuncData} {N ps : List Str} {k : Nat} {fb : FS} (F : Fun K x qual st f fd) (SC : FnScope N ps (defScope st))
    (hb : ∀ (cdv : Value) (A : Around) (outer : List Env) (s : Shared) (H : Hp) (E : XK), Room k (A.deeper (envOfC qual (defScope st) s.heap.objs.size f cdv)) →
      RSs (cxOf CX0 P W_ K mg base N qual (defScope st) f cdv A outer s H E).nox (wOf E) (defBody st) fb) :
    FnOk P W_ K mg base CX0 (k + 1) f fd ps (spOf K ps.length (defF N.length fb)) := by
  refine F.ok SC (fun vs H Q E h => h.1) fun cdv A outer s H vs Q E hr h => ?_
  obtain ⟨hl, w, ds, S, hR, hS, hP⟩ := h
  refine ⟨_, hb cdv A outer s H E hr, w, _, S, enR_start hR, hS, ?_⟩
  have hP2 := Post.at hP (fun _ _ _ _ _ h => h) ⟨[], fun H' w' _ => ⟨rfl, fun i d q => by simp at q⟩⟩
  clear hP
  show Post K (wOf E) H w (fb (startE N.length ds) S) _
  cases hf : fb (startE N.length ds) S with
  | bad => rw [hf] at hP2; exact hP2.elim
  | exc e E' S1 => rw [hf] at hP2; exact hP2
  | ok fl S1 =>
    rw [hf] at hP2
    intro H' w' e1 s1
    cases fl with
    | nx E1 => exact fun σ' _ => leave_ok hS e1 s1 (.p .non) hP2
    | ret d => exact fun v rv => leave_ok hS e1 s1 rv hP2
    | brk _ => exact hP2.elim
    | ct _ => exact hP2.elim
/-- it is called -/
theorem re_call {X : Cx} {W : WX} {e : Expr} {es : List Expr} {fa : FA} {k n : Nat} {f : Addr} {fd : FuncData} {ps : List Str} {fn : FN} {x : Str} {p pos : Pos} (F : FnOk X.prog X.w X.K X.mg X.base CX0 k f fd ps (spOf X.K n fn)) (hr : Room k X.A) (hg : Gl X x) (hm : X.mg x = some (.ref f))
    (hk : PySem.W.keepIn X.K (.ref f) = true) (hb : Binds X.K fd ps []) (ha : RA X W (e :: es) fa) (hdb : (x == ("__debug__" : Str)) = false := by decide) (he : starEach (e :: es) X.env = (false, eval e X.env) :: starEach es X.env := by rfl)
    (hpl : (backTo pos (starEach es X.env)).any (·.1) = false := by rfl) (hlen : ∀ {E S ds S'}, fa E S = .ok ds S' → ds.length = n) : RE X W (.Call (.Name x p) (e :: es) [] pos) (fCall fn fa) :=
  PE.wk (pe_call (E := fun _ _ _ => True) F hr hg hm hk hb .nil (fun _ _ _ _ _ _ _ h => h.elim) ha hdb he hpl) fun σ H Q ⟨w, E, S, hE, hS, hP⟩ =>
    ⟨w, E, S, hE, hS, by
      have hq := Post.bind hP
      cases hfa : fa E S with
      | bad => rw [hfa] at hq; exact hq
      | exc _ _ _ => rw [hfa] at hq; exact hq
      | ok ds S1 =>
        rw [hfa] at hq
        intro H1 w1 e1 s1 vs rv
        have q : Post X.K W H1 w1 ((fn ds S1).at E) (fun d _ H' w' => ∀ v, Rep X.K H' w' v d → Q v H') := hq H1 w1 e1 s1
        refine ⟨by rw [List.append_nil, rv.len]; exact hlen hfa, w1, ds, S1, by rw [List.append_nil]; exact rv, s1, ?_⟩
        cases hfn : fn ds S1 with
        | bad => rw [hfn] at q; exact q
        | exc _ _ _ => exact fun _ _ _ _ _ _ _ _ _ => True.intro
        | ok d S2 => rw [hfn] at q; exact q⟩
end
end SV
set_option linter.all false
set_option maxRecDepth 100000
set_option maxHeartbeats 1000000
namespace SV
open PySem PySem.Spec PyProof.Rows L2 NB

/-! ### built-ins -/
def gLen (ds : List D) (S : Sto) : R D := match ds with
  | [.p (.str z)] => if z.length ≤ sizeLine then .ok (.p (.int z.length)) S else .bad
  | [x] => match viewS x S with
    | some es => .ok (.p (.int es.length)) S
    | none => .bad
  | _ => .bad
def gTuple (ds : List D) (S : Sto) : R D := match ds with
  | [x] => match viewT x with
    | some _ => .ok x S
    | none => match viewL x S with
      | some es => .ok (mkT es) S
      | none => .bad
  | _ => .bad
def gList (fz : Bool) (ds : List D) (S : Sto) : R D := match ds with
  | [x] => match viewS x S with
    | some es => newL fz es S
    | none => .bad
  | _ => .bad
def ins1 (x : Int) : List Int → List Int
  | [] => [x]
  | y :: r => if x ≤ y then x :: y :: r else y :: ins1 x r
def isort : List Int → List Int
  | [] => []
  | x :: r => ins1 x (isort r)
theorem ins1_perm (x : Int) : ∀ l, (ins1 x l).Perm (x :: l)
  | [] => .refl _
  | y :: r => by
    unfold ins1
    split
    · exact .refl _
    · exact ((ins1_perm x r).cons y).trans (List.Perm.swap x y r)
theorem isort_perm : ∀ l, (isort l).Perm l
  | [] => .refl _
  | x :: r => (ins1_perm x _).trans ((isort_perm r).cons x)
theorem ins1_sorted (x : Int) : ∀ l, l.Pairwise (· ≤ ·) → (ins1 x l).Pairwise (· ≤ ·)
  | [], _ => by simp [ins1]
  | y :: r, h => by
    unfold ins1
    obtain ⟨h1, h2⟩ := List.pairwise_cons.mp h
    split
    · rename_i c
      refine List.pairwise_cons.mpr ⟨fun z hz => ?_, h⟩
      rcases List.mem_cons.mp hz with q | q
      · omega
      · have := h1 z q; omega
    · rename_i c
      refine List.pairwise_cons.mpr ⟨fun z hz => ?_, ins1_sorted x r h2⟩
      rcases List.mem_cons.mp ((ins1_perm x r).mem_iff.mp hz) with q | q
      · omega
      · exact h1 z q
theorem isort_sorted : ∀ l, (isort l).Pairwise (· ≤ ·)
  | [] => .nil
  | x :: r => ins1_sorted x _ (isort_sorted r)
theorem isort_uniq {l m : List Int} (h : m.Perm l) (s : m.Pairwise (· ≤ ·)) : m = isort l :=
  List.Perm.eq_of_pairwise (fun x y _ _ h1 h2 => Int.le_antisymm h1 h2) s (isort_sorted l) (h.trans (isort_perm l).symm)
def gSorted (fz : Bool) (ds : List D) (S : Sto) : R D := match ds with
  | [x] => match (viewL x S).bind intsD with
    | some ns => newL fz ((isort ns).map fun i => .p (.int i)) S
    | none => .bad
  | _ => .bad
def gSum (ds : List D) (S : Sto) : R D := match ds with
  | [x] => match (viewL x S).bind intsD with
    | some ns => .ok (.p (.int ns.sum)) S
    | none => .bad
  | _ => .bad
def minL : List Int → Int
  | [] => 0
  | [x] => x
  | x :: r => if x ≤ minL r then x else minL r
def maxL : List Int → Int
  | [] => 0
  | [x] => x
  | x :: r => if maxL r ≤ x then x else maxL r
theorem minL_ok : ∀ (l : List Int), l ≠ [] → minL l ∈ l ∧ ∀ y ∈ l, minL l ≤ y
  | [], h => absurd rfl h
  | [x], _ => by simp [minL]
  | x :: y :: r, _ => by
    obtain ⟨h1, h2⟩ := minL_ok (y :: r) (by simp)
    unfold minL
    split
    · rename_i c
      refine ⟨List.mem_cons_self, fun z hz => ?_⟩
      rcases List.mem_cons.mp hz with q | q
      · omega
      · have := h2 z q; omega
    · rename_i c
      refine ⟨List.mem_cons_of_mem _ h1, fun z hz => ?_⟩
      rcases List.mem_cons.mp hz with q | q
      · omega
      · exact h2 z q
theorem maxL_ok : ∀ (l : List Int), l ≠ [] → maxL l ∈ l ∧ ∀ y ∈ l, y ≤ maxL l
  | [], h => absurd rfl h
  | [x], _ => by simp [maxL]
  | x :: y :: r, _ => by
    obtain ⟨h1, h2⟩ := maxL_ok (y :: r) (by simp)
    unfold maxL
    split
    · rename_i c
      refine ⟨List.mem_cons_self, fun z hz => ?_⟩
      rcases List.mem_cons.mp hz with q | q
      · omega
      · have := h2 z q; omega
    · rename_i c
      refine ⟨List.mem_cons_of_mem _ h1, fun z hz => ?_⟩
      rcases List.mem_cons.mp hz with q | q
      · omega
      · exact h2 z q
def gMin (ds : List D) (S : Sto) : R D := match ds with
  | [.p (.int i), .p (.int j)] => .ok (.p (.int (if j < i then j else i))) S
  | [x] => match (viewL x S).bind intsD with
    | some ns => if ns ≠ [] then .ok (.p (.int (minL ns))) S else .bad
    | none => match (viewT x).bind intsD with
      | some ns => if ns ≠ [] then .ok (.p (.int (minL ns))) S else .bad
      | none => .bad
  | _ => .bad
def gMax (ds : List D) (S : Sto) : R D := match ds with
  | [.p (.int i), .p (.int j)] => .ok (.p (.int (if j > i then j else i))) S
  | [x] => match (viewL x S).bind intsD with
    | some ns => if ns ≠ [] then .ok (.p (.int (maxL ns))) S else .bad
    | none => match (viewT x).bind intsD with
      | some ns => if ns ≠ [] then .ok (.p (.int (maxL ns))) S else .bad
      | none => .bad
  | _ => .bad
def gAbs (ds : List D) (S : Sto) : R D := match ds with
  | [.p (.int i)] => .ok (.p (.int (if i < 0 then -i else i))) S
  | _ => .bad
def gInt (ds : List D) (S : Sto) : R D := match ds with
  | [.p (.int i)] => .ok (.p (.int i)) S
  | [.p (.bool b)] => .ok (.p (.int (if b then 1 else 0))) S
  | _ => .bad
/-! #### isinstance -/
inductive Ty where
  | non | bool | int | str | list | tuple | dict
  deriving DecidableEq
def Ty.nm : Ty → String
  | .non => "NoneType" | .bool => "bool" | .int => "int" | .str => "str" | .list => "list" | .tuple => "tuple" | .dict => "dict"
def tyOf (d : D) (S : Sto) : Option Ty := match d with
  | .p .none => some .non
  | .p (.bool _) => some .bool
  | .p (.int _) => some .int
  | .p (.str _) => some .str
  | .p (.list _) => some .list
  | .p (.tuple _) => some .tuple
  | .tup _ => some .tuple
  | .ref r => match S[r]? with
    | some (.lst _) => some .list
    | some (.dK _) => some .dict
    | _ => none
  | _ => none
def isB (t c : Ty) : Bool := decide (t = c) || (decide (t = .bool) && decide (c = .int))
theorem kit_is (t c : Ty) (K : PySem.W.Frag) : PySem.W.kitOne K (.type t.nm) (.type c.nm) = some (isB t c) := by
  refine kit_ty ?_
  cases t <;> cases c <;> decide +kernel
/-- the classes that are asked for, by the generator -/
def gIsi (c : Ty) (d : D) (S : Sto) : R D := match tyOf d S with
  | some t => .ok (dBl (isB t c)) S
  | none => .bad
section
variable {K : PySem.W.Frag} {W : WX} {H : Hp} {w : Vw} {v : V} {vs : List V} {d : D} {ds : List D} {S : Sto} {X : Cx}
theorem ty_ok {t : Ty} (r : Rep K H w v d) (s : StR K H w S) (h : tyOf d S = some t) : TyX K H v (.type t.nm) := by
  have tup : ∀ {a : Addr} {xs : List V}, SqT K H a xs → TyX K H (.ref a) (.type "tuple") := fun h => by
    rcases h with (h | ⟨o, h⟩) | ⟨o, its, n, h1, h2, _⟩
    · exact .base (.tup h)
    · exact .fTuple h
    · exact .kTuple h1 h2
  unfold tyOf at h
  split at h
  · cases h; cases r with | p r => cases r; exact .base .non
  · cases h; cases r with | p r => cases r; exact .base (.bl _)
  · cases h; cases r with | p r => cases r; exact .base (.int _)
  · cases h; cases r with | p r => cases r; exact .base (.str _)
  · cases h; cases r with | p r => cases r with | lst f _ => exact .base (.lst f.1)
  · cases h; cases r with | p r => cases r with | tup f _ => exact tup f
  · cases h; cases r with | tup f _ => exact tup f
  · split at h
    · cases h
      rename_i es
      cases r with | ref r =>
        obtain ⟨a', ho, h1, h2, h3⟩ := s.get es
        rw [r] at h1
        obtain rfl := (Option.some.inj h1).symm
        cases ho with
        | lst vs => exact .base (.lst h2)
        | _ => exact h3.elim
    · cases h
      rename_i es
      cases r with | ref r =>
        obtain ⟨a', ho, h1, h2, h3⟩ := s.get es
        rw [r] at h1
        obtain rfl := (Option.some.inj h1).symm
        cases ho with
        | dK vs => exact .base (.dK h2)
        | _ => exact h3.elim
    · cases h
  · cases h
theorem re_isi {e : Expr} {c : Expr} {fe : FE} {p pos : Pos} (t : Ty) (h : ∀ {ta : TA}, PA X [e, c] ta → PE X (.Call (.Name "isinstance" p) [e, c] [] pos) (tCB (rIsi X.K) ta)) (hp : ∀ {te tc : TE}, PE X e te → PE X c tc → PA X [e, c] (tCons te (tCons tc tNil))) (ha : RE X W e fe) (hc : PE X c (tC (.ty t.nm))) :
    RE X W (.Call (.Name "isinstance" p) [e, c] [] pos) (fUn (gIsi t) fe) :=
  PE.wk (h (hp ha hc)) fun σ H Q ⟨w, E, S, hE, hS, hP⟩ => ⟨w, E, S, hE, hS, Post.imp (Post.bind hP) fun x S1 H1 w1 e1 s1 q v rv => by
    unfold gIsi at q
    split at q
    · rename_i tt et
      exact ⟨v, _, _, _, _, rfl, .ty _, ty_ok rv s1 et, kit_is tt t X.K, PostV.same q s1 (.p (.bl _))⟩
    · exact q.elim⟩
theorem callk_len : CallK K W (fun xs H Q => (∃ z, xs = [.str z] ∧ z.length ≤ sizeLine ∧ Q (.int z.length) H) ∨ ∃ p ys, xs = [.ref p] ∧ (SqL K H p ys ∨ SqT K H p ys) ∧ Q (.int ys.length) H) gLen := by
  intro H w S ds vs Q s r q
  unfold gLen at q
  split at q
  · split at q
    · rename_i c
      cases r with | cons r1 r2 => cases r2; cases r1 with | p r1 => cases r1; exact .inl ⟨_, rfl, c, PostV.same q s (.p (.int _))⟩
    · exact q.elim
  · split at q
    · rename_i es e
      cases r with | cons r1 r2 =>
        cases r2
        obtain ⟨a, us, rfl, h1, h2⟩ := viewS_ok r1 s e
        refine .inr ⟨a, us, rfl, h1, ?_⟩
        rw [h2.len]
        exact PostV.same q s (.p (.int _))
    · exact q.elim
  · exact q.elim
theorem call_lenA : CallR X (.builtin "len") (fun xs H Q => (∃ z, xs = [.str z] ∧ z.length ≤ sizeLine ∧ Q (.int z.length) H) ∨ ∃ p ys, xs = [.ref p] ∧ (SqL X.K H p ys ∨ SqT X.K H p ys) ∧ Q (.int ys.length) H) := call_len_str.or call_len_seq
theorem callk_tuple : CallK K W (fun xs H Q => ∃ p ys, xs = [.ref p] ∧ ((SqL K H p ys ∧ ∀ l, H l = none → Q (.ref l) (upd H l (.tup ys))) ∨ (SqT K H p ys ∧ Q (.ref p) H))) gTuple := by
  intro H w S ds vs Q s r q
  unfold gTuple at q
  split at q
  · cases r with | cons r1 r2 =>
      cases r2
      split at q
      · rename_i es e
        obtain ⟨a, us, rfl, h1, h2⟩ := viewT_ok r1 e
        exact ⟨a, us, rfl, .inr ⟨h1, PostV.same q s r1⟩⟩
      · split at q
        · rename_i es e
          obtain ⟨a, us, rfl, h1, h2⟩ := viewL_ok r1 s e
          exact ⟨a, us, rfl, .inl ⟨SqL.of h1, fun l hl => PostV.newT q s hl h2⟩⟩
        · exact q.elim
  · exact q.elim
theorem callk_list (fz : Bool) : CallK K W (fun xs H Q => ∃ p ys, xs = [.ref p] ∧ (SqL K H p ys ∨ SqT K H p ys) ∧ ∀ l, H l = none → Q (.ref l) (upd H l (.lst ys))) (gList fz) := by
  intro H w S ds vs Q s r q
  unfold gList at q
  split at q
  · cases r with | cons r1 r2 =>
      cases r2
      split at q
      · rename_i es e
        obtain ⟨a, us, rfl, h1, h2⟩ := viewS_ok r1 s e
        exact ⟨a, us, rfl, h1, fun l hl => PostV.newL q s hl h2⟩
      · exact q.elim
  · exact q.elim
theorem ints_view {x : D} {ns : List Int} (r : Rep K H w v x) (s : StR K H w S) (h : (viewL x S).bind intsD = some ns) : ∃ a, v = .ref a ∧ SqL K H a (ns.map V.int) := by
  obtain ⟨es, e1, e2⟩ := Option.bind_eq_some_iff.mp h
  obtain ⟨a, us, rfl, h1, h2⟩ := viewL_ok r s e1
  refine ⟨a, rfl, SqL.of ?_⟩
  rw [← ints_ok h2 e2]; exact h1
theorem ints_viewT {x : D} {ns : List Int} (r : Rep K H w v x) (h : (viewT x).bind intsD = some ns) : ∃ a, v = .ref a ∧ SqT K H a (ns.map V.int) := by
  obtain ⟨es, e1, e2⟩ := Option.bind_eq_some_iff.mp h
  obtain ⟨a, us, rfl, h1, h2⟩ := viewT_ok r e1
  refine ⟨a, rfl, ?_⟩
  rw [← ints_ok h2 e2]; exact h1
theorem callk_sorted (fz : Bool) : CallK K W (rSortedI K) (gSorted fz) := by
  intro H w S ds vs Q s r q
  unfold gSorted at q
  split at q
  · cases r with | cons r1 r2 =>
      cases r2
      split at q
      · rename_i ns e
        obtain ⟨a, rfl, h1⟩ := ints_view r1 s e
        refine ⟨a, ns, rfl, h1, fun ns' p hp hs hn => ?_⟩
        rw [isort_uniq hp hs]
        exact PostV.newL q s hn (ints_rep _)
      · exact q.elim
  · exact q.elim
theorem callk_sum : CallK K W (rSum K) gSum := by
  intro H w S ds vs Q s r q
  unfold gSum at q
  split at q
  · cases r with | cons r1 r2 =>
      cases r2
      split at q
      · rename_i ns e
        obtain ⟨a, rfl, h1⟩ := ints_view r1 s e
        exact ⟨a, ns, rfl, h1, PostV.same q s (.p (.int _))⟩
      · exact q.elim
  · exact q.elim
def rMinA (K : PySem.W.Frag) : List V → Hp → VK → Prop := fun xs H Q => (∃ i j, xs = [.int i, .int j] ∧ Q (.int (if j < i then j else i)) H) ∨ (rMin K xs H Q ∨ rMinT K xs H Q)
def rMaxA (K : PySem.W.Frag) : List V → Hp → VK → Prop := fun xs H Q => (∃ i j, xs = [.int i, .int j] ∧ Q (.int (if j > i then j else i)) H) ∨ (rMax K xs H Q ∨ rMaxT K xs H Q)
theorem call_minA (hc : X.calm = true) : CallR X (.builtin "min") (rMinA X.K) := (call_min2 hc).or ((cr_min hc).or (cr_minT hc))
theorem call_maxA (hc : X.calm = true) : CallR X (.builtin "max") (rMaxA X.K) := (call_max2 hc).or ((cr_max hc).or (cr_maxT hc))
theorem callk_min : CallK K W (rMinA K) gMin := by
  intro H w S ds vs Q s r q
  unfold gMin at q
  split at q
  · cases r with | cons r1 r2 => cases r2 with | cons r2 r3 => cases r3; cases r1 with | p r1 => cases r2 with | p r2 =>
      cases r1; cases r2
      exact .inl ⟨_, _, rfl, PostV.same q s (.p (.int _))⟩
  · cases r with | cons r1 r2 =>
      cases r2
      split at q
      · rename_i ns e
        split at q
        · rename_i c
          obtain ⟨a, rfl, h1⟩ := ints_view r1 s e
          obtain ⟨m1, m2⟩ := minL_ok ns c
          refine .inr (.inl ⟨a, ns, rfl, h1, List.length_pos_iff.mpr c, fun m hm hle => ?_⟩)
          have : m = minL ns := Int.le_antisymm (hle _ m1) (m2 _ hm)
          rw [this]
          exact PostV.same q s (.p (.int _))
        · exact q.elim
      · split at q
        · rename_i ns e
          split at q
          · rename_i c
            obtain ⟨a, rfl, h1⟩ := ints_viewT r1 e
            obtain ⟨m1, m2⟩ := minL_ok ns c
            refine .inr (.inr ⟨a, ns, rfl, h1, List.length_pos_iff.mpr c, fun m hm hle => ?_⟩)
            have : m = minL ns := Int.le_antisymm (hle _ m1) (m2 _ hm)
            rw [this]
            exact PostV.same q s (.p (.int _))
          · exact q.elim
        · exact q.elim
  · exact q.elim
theorem callk_max : CallK K W (rMaxA K) gMax := by
  intro H w S ds vs Q s r q
  unfold gMax at q
  split at q
  · cases r with | cons r1 r2 => cases r2 with | cons r2 r3 => cases r3; cases r1 with | p r1 => cases r2 with | p r2 =>
      cases r1; cases r2
      exact .inl ⟨_, _, rfl, PostV.same q s (.p (.int _))⟩
  · cases r with | cons r1 r2 =>
      cases r2
      split at q
      · rename_i ns e
        split at q
        · rename_i c
          obtain ⟨a, rfl, h1⟩ := ints_view r1 s e
          obtain ⟨m1, m2⟩ := maxL_ok ns c
          refine .inr (.inl ⟨a, ns, rfl, h1, List.length_pos_iff.mpr c, fun m hm hle => ?_⟩)
          have : m = maxL ns := Int.le_antisymm (m2 _ hm) (hle _ m1)
          rw [this]
          exact PostV.same q s (.p (.int _))
        · exact q.elim
      · split at q
        · rename_i ns e
          split at q
          · rename_i c
            obtain ⟨a, rfl, h1⟩ := ints_viewT r1 e
            obtain ⟨m1, m2⟩ := maxL_ok ns c
            refine .inr (.inr ⟨a, ns, rfl, h1, List.length_pos_iff.mpr c, fun m hm hle => ?_⟩)
            have : m = maxL ns := Int.le_antisymm (m2 _ hm) (hle _ m1)
            rw [this]
            exact PostV.same q s (.p (.int _))
          · exact q.elim
        · exact q.elim
  · exact q.elim
theorem callk_abs : CallK K W (fun xs H Q => ∃ i, xs = [.int i] ∧ Q (.int (if i < 0 then -i else i)) H) gAbs := by
  intro H w S ds vs Q s r q
  unfold gAbs at q
  split at q
  · cases r with | cons r1 r2 => cases r2; cases r1 with | p r1 => cases r1; exact ⟨_, rfl, PostV.same q s (.p (.int _))⟩
  · exact q.elim
theorem callk_int : CallK K W (fun xs H Q => (∃ i, xs = [.int i] ∧ Q (.int i) H) ∨ ∃ k, xs = [.bl k] ∧ Q (.int (if k then 1 else 0)) H) gInt := by
  intro H w S ds vs Q s r q
  unfold gInt at q
  split at q
  · cases r with | cons r1 r2 => cases r2; cases r1 with | p r1 => cases r1; exact .inl ⟨_, rfl, PostV.same q s (.p (.int _))⟩
  · cases r with | cons r1 r2 => cases r2; cases r1 with | p r1 => cases r1; exact .inr ⟨_, rfl, PostV.same q s (.p (.int _))⟩
  · exact q.elim

/-! ### methods of lists -/
def isLst (d : D) (S : Sto) : Bool := (viewL d S).isSome
def fMt (g : D → List D → Sto → R D) (o : FE) (a : FA) : FE := fun E S => (o E S).bind fun x S1 => if isLst x S1 then (a E S1).bind fun ds S2 => g x ds S2 else .bad
def MtK (K : PySem.W.Frag) (W : WX) (r : V → List V → Hp → VK → Prop) (g : D → List D → Sto → R D) : Prop :=
  ∀ (H : Hp) (w : Vw) (S : Sto) (x : D) (v : V) (ds : List D) (vs : List V) (Q : VK), StR K H w S → Rep K H w v x → Reps K H w vs ds → PostV K W H w (g x ds S) Q → r v vs H Q
theorem re_mt {o e : Expr} {fo : FE} {fa : FA} {es : List Expr} {r : V → List V → Hp → VK → Prop} {g : D → List D → Sto → R D} (h : ∀ {to : TE} {t : TA}, PE X o to → PA X es t → PE X e (tBM X.K "list" r to t)) (hk : MtK X.K W r g) (ho : RE X W o fo) (ha : RA X W es fa) :
    RE X W e (fMt g fo fa) :=
  PE.wk (h ho ha) fun σ H Q ⟨w, E, S, hE, hS, hP⟩ => ⟨w, E, S, hE, hS, Post.imp (Post.bind hP) fun x S1 H1 w1 e1 s1 q v rv => by
    split at q
    · rename_i c
      obtain ⟨es', ee⟩ := Option.isSome_iff_exists.mp c
      obtain ⟨a, us, rfl, h1, h2⟩ := viewL_ok rv s1 ee
      exact ⟨.inl ⟨rfl, us, SqL.of h1⟩, w1, E, S1, hE.ext e1, s1, Post.imp (Post.bind q) fun ds S2 H2 w2 e2 s2 q2 vs rvs => hk H2 w2 S2 x _ ds vs Q s2 (rv.ext e2) rvs q2⟩
    · exact q.elim⟩
theorem re_mt0 {o e : Expr} {fo : FE} {r : V → List V → Hp → VK → Prop} {g : D → List D → Sto → R D} (h : ∀ {to : TE}, PE X o to → PE X e (tBM0 X.K "list" r to)) (hk : MtK X.K W r g) (ho : RE X W o fo) :
    RE X W e (fMt g fo fNilA) :=
  PE.wk (h ho) fun σ H Q ⟨w, E, S, hE, hS, hP⟩ => ⟨w, E, S, hE, hS, Post.imp (Post.bind hP) fun x S1 H1 w1 e1 s1 q v rv => by
    split at q
    · rename_i c
      obtain ⟨es', ee⟩ := Option.isSome_iff_exists.mp c
      obtain ⟨a, us, rfl, h1, h2⟩ := viewL_ok rv s1 ee
      exact ⟨.inl ⟨rfl, us, SqL.of h1⟩, hk H1 w1 S1 x _ [] [] Q s1 rv .nil q⟩
    · exact q.elim⟩
def refL (d : D) (S : Sto) : Option (Nat × List D) := match d with
  | .ref r => match S[r]? with
    | some (.lst ds) => some (r, ds)
    | _ => none
  | _ => none
def gAppend (x : D) (ds : List D) (S : Sto) : R D := match ds, refL x S with
  | [y], some (r, es) => if es.length < 400000 then .ok (.p .none) (S.set r (.lst (es ++ [y]))) else .bad
  | _, _ => .bad
def gPop (x : D) (ds : List D) (S : Sto) : R D := match ds, refL x S with
  | [], some (r, es) => match es[es.length - 1]? with
    | some y => .ok y (S.set r (.lst es.dropLast))
    | none => .bad
  | _, _ => .bad
def gPopAt (x : D) (ds : List D) (S : Sto) : R D := match ds, refL x S with
  | [.p (.int i)], some (r, es) => if -(2 ^ 62) ≤ i ∧ i < 2 ^ 62 then match seqIndex? i es.length with
    | some k => match es[k]? with
      | some y => .ok y (S.set r (.lst (es.eraseIdx k)))
      | none => .bad
    | none => .bad
    else .bad
  | _, _ => .bad
def gExtend (x : D) (ds : List D) (S : Sto) : R D := match ds, refL x S with
  | [y], some (r, es) => match viewS y S with
    | some zs => if es.length + zs.length ≤ 400000 then .ok (.p .none) (S.set r (.lst (es ++ zs))) else .bad
    | none => .bad
  | _, _ => .bad
theorem refL_ok {r : Nat} (h : refL d S = some (r, ds)) (rv : Rep K H w v d) (s : StR K H w S) : ∃ a vs, v = .ref a ∧ w.M[r]? = some a ∧ H a = some (.lst vs) ∧ Reps K H w vs ds ∧ S[r]? = some (.lst ds) := by
  unfold refL at h
  split at h
  · split at h
    · rename_i es
      cases h
      cases rv with | ref rv =>
        obtain ⟨a', ho, h1, h2, h3⟩ := s.get es
        rw [rv] at h1
        obtain rfl := (Option.some.inj h1).symm
        cases ho with
        | lst vs => exact ⟨_, vs, rfl, rv, h2, h3, es⟩
        | _ => exact h3.elim
    · cases h
  · cases h
/-- a list is written -/
theorem PostV.put {Q : VK} {a : Addr} {r : Nat} {us : List V} {es : List D} {y : D} {z : V} (h : PostV K W H w (.ok y (S.set r (.lst es))) Q) (s : StR K H w S) (hr : w.M[r]? = some a) (ha : H a = some (.lst vs)) (hu : Reps K H w us es) (hz : Rep K H w z y) : Q z (upd H a (.lst us)) := by
  have em : a ∈ w.M := List.mem_of_getElem? hr
  have ex : Ext K H w (upd H a (.lst us)) w := Ext.put ha (by simp) (by simp) em
  exact h _ w ex (s.put hr ha (by simp) (by simp) (show ObR K _ w (.lst us) (.lst es) from hu.ext ex)) z (hz.ext ex)
theorem mtk_append : MtK K W rAppend gAppend := by
  intro H w S x v ds vs Q s rx rv q
  unfold gAppend at q
  split at q
  · rename_i y r es e
    split at q
    · rename_i c
      obtain ⟨a, us, rfl, h1, h2, h3, h4⟩ := refL_ok e rx s
      cases rv with | cons r1 r2 =>
        cases r2
        exact ⟨a, us, _, rfl, rfl, h2, by rw [h3.len]; exact Nat.lt_trans c (by rw [sizeLine_eq]; decide), PostV.put q s h1 h2 (h3.append (.cons r1 .nil)) (.p .non)⟩
    · exact q.elim
  · exact q.elim
theorem Reps.dropLast (r : Reps K H w vs ds) : Reps K H w vs.dropLast ds.dropLast := by
  rw [List.dropLast_eq_take, List.dropLast_eq_take, r.len]
  exact r.take _
theorem Reps.erase : ∀ {ds : List D} {vs : List V} (i : Nat), Reps K H w vs ds → Reps K H w (vs.eraseIdx i) (ds.eraseIdx i)
  | [], _, _, h => by cases h; exact .nil
  | _ :: _, _, 0, h => by cases h with | cons _ t => exact t
  | _ :: _, _, n + 1, h => by cases h with | cons h t => exact .cons h (Reps.erase n t)
theorem mtk_pop : MtK K W rPop gPop := by
  intro H w S x v ds vs Q s rx rv q
  unfold gPop at q
  split at q
  · rename_i r es e
    split at q
    · rename_i y ey
      obtain ⟨a, us, rfl, h1, h2, h3, h4⟩ := refL_ok e rx s
      cases rv
      obtain ⟨z, hz, rz⟩ := h3.get ey
      exact ⟨a, us, z, rfl, rfl, h2, by rw [h3.len]; exact hz, PostV.put q s h1 h2 h3.dropLast rz⟩
    · exact q.elim
  · exact q.elim
theorem mtk_popAt : MtK K W rPopAt gPopAt := by
  intro H w S x v ds vs Q s rx rv q
  unfold gPopAt at q
  split at q
  · rename_i i r es e
    split at q
    · rename_i c
      split at q
      · rename_i k ek
        split at q
        · rename_i y ey
          obtain ⟨a, us, rfl, h1, h2, h3, h4⟩ := refL_ok e rx s
          cases rv with | cons r1 r2 =>
            cases r2
            cases r1 with | p r1 =>
              cases r1
              obtain ⟨z, hz, rz⟩ := h3.get ey
              exact ⟨a, us, i, k, z, rfl, rfl, h2, by omega, by omega, by rw [h3.len]; exact ek, hz, PostV.put q s h1 h2 (h3.erase k) rz⟩
        · exact q.elim
      · exact q.elim
    · exact q.elim
  · exact q.elim
end
end SV
set_option linter.all false
set_option maxRecDepth 100000
set_option maxHeartbeats  1000000
/-! t[::-1] of a tuple -/
namespace HV
open PySem PySem.Spec PyProof.Rows L2
section
variable {prog : Program} {w : World} {A : Around} {E : Value → Shared → Prop} {s : Shared}
theorem back_places (n : Nat) : Builtin.Slice.slicePlaces ((n : Int) - 1) (-1) (-1) = n := by
  unfold Builtin.Slice.slicePlaces
  have h1 : ¬ ((-1 : Int) > 0) := by omega
  simp only [h1, if_false]
  by_cases c : (n : Int) - 1 > -1
  · rw [if_pos c, show (- -1 : Int) = 1 by decide, Int.ediv_one]
    omega
  · rw [if_neg c]
    omega
theorem back_applied {sl : Addr} {vs : Value} {n : Nat} {Q : Int × Int × Nat → Shared → Prop} (hs : s.heap.IsSliceOf sl .none .none vs) (ps : IsPart vs (some (-1)))
    (h : Q ((n : Int) - 1, -1, n) s) : wpAny (model prog w) A (Builtin.Slice.sliceApplied (.ref sl) (pure (n : Int))) Q E s := by
  obtain ⟨os, hos, hcs, hds⟩ := id hs
  unfold Builtin.Slice.sliceApplied Builtin.Slice.sliceFields
  refine wpAny_bind (wpAny_bind (wpAny_field hos hds (x := .none) rfl (wpAny_bind (wpAny_field hos hds (x := .none) rfl (wpAny_bind (wpAny_field hos hds (x := vs) rfl (wpAny_pure ?_)))))))
  refine wpAny_bind (HT.slicePart_ ps ?_)
  show wpAny _ _ (if ((-1 : Int) == 0) = true then _ else _) _ _ s
  rw [if_neg (by decide)]
  refine wpAny_bind (HT.slicePart_ .none (wpAny_bind (HT.slicePart_ .none (wpAny_bind (wpAny_pure ?_)))))
  show wpAny _ _ (pure ((n : Int) - 1, (-1 : Int), Builtin.Slice.slicePlaces ((n : Int) - 1) (-1) (-1))) _ _ s
  rw [back_places]
  exact wpAny_pure h
theorem fm_eq {α β : Type} {f g : α → Option β} : ∀ l : List α, (∀ x ∈ l, f x = g x) → l.filterMap f = l.filterMap g
  | [], _ => rfl
  | x :: l, h => by
    rw [List.filterMap_cons, List.filterMap_cons, h x List.mem_cons_self, fm_eq l fun y hy => h y (List.mem_cons_of_mem _ hy)]
theorem back_pick (xs : Array Value) : ((List.range xs.size).filterMap fun (k : Nat) => xs[(((xs.size : Int) - 1) + (k : Int) * (-1)).toNat]?).toArray = xs.toList.reverse.toArray := by
  have e : ((List.range xs.size).filterMap fun (k : Nat) => xs[(((xs.size : Int) - 1) + (k : Int) * (-1)).toNat]?) = ((List.range xs.size).map fun k => xs.size - 1 - k).filterMap (xs[·]?) := by
    rw [List.filterMap_map]
    refine fm_eq _ fun k hk => ?_
    have := List.mem_range.mp hk
    rw [show (((xs.size : Int) - 1) + (k : Int) * (-1)).toNat = xs.size - 1 - k by omega]
    rfl
  rw [e, PySem.W.krv_range, List.filterMap_reverse, PySem.W.krv_all]
theorem get_back {t sl : Addr} {items : Array Value} {vs : Value} {Q : Value → Shared → Prop} (ht : IsTup s.heap t items) (hs : s.heap.IsSliceOf sl .none .none vs) (ps : IsPart vs (some (-1)))
    (h : Q (.ref s.heap.objs.size) { s with heap := s.heap.push { cls := .type "tuple", data := .seq items.toList.reverse.toArray } })
    (hsz : items.size ≤ sizeLine) : wpAny (model prog w) A (getItem (.ref t) (.ref sl)) Q E s := by
  have hfit : sizeOk (.seq items.toList.reverse.toArray) := by
    show items.toList.reverse.toArray.size ≤ sizeLine
    rw [List.size_toArray, List.length_reverse, Array.length_toList]
    exact hsz
  obtain ⟨os, hos, hcs, hds⟩ := id hs
  have hT : s.TypeIs (.ref sl) "slice" := ⟨os, hos, hcs⟩
  unfold getItem
  try with_reducible refine wpAny_holding ?_
  first | refine wpAny_bind (wpAny_pure ?_) | skip
  refine wpAny_bind (wpAny_sequenceKey ht.typeIs (by decide) ?_)
  refine wpAny_bind (wpAny_callSpecial?_slot (name := Str.ofString "__getitem__") ht.typeIs PyProof.Rows.slot_tuple_getitem
    (wpAny_call_entry PyProof.Rows.slot_tuple_getitem ht.typeIs PyProof.Rows.entry_tuple_getitem ?_ (PyProof.Rows.args_tuple_getitem _ _)))
  show wpAny _ _ (Builtin.Tuple.tupleItemsOf (.ref t) >>= _) _ _ s
  refine wpAny_bind (tupleItemsOf_ ht ?_)
  refine wpAny_bind (wpAny_typeOf hT ?_)
  rw [if_pos (by decide)]
  refine wpAny_bind (back_applied hs ps ?_)
  show wpAny _ _ (if (((items.size : Int) - 1) == 0 && (-1 : Int) == 1 && items.size == items.size) = true then _ else _) _ _ s
  rw [if_neg (by rw [show ((-1 : Int) == 1) = false from rfl, Bool.and_false, Bool.false_and]; exact Bool.false_ne_true), back_pick]
  first
    | exact wpAny_bind (m := Builtin.Tuple.tupleExact _) (wpAny_newObj_type (wpAny_pure ⟨_, rfl, wpAny_pure h⟩) hfit)
    | exact wpAny_bind (m := Builtin.Tuple.tupleExact _) (wpAny_newObj_type (wpAny_bind (wpAny_pure (wpAny_pure ⟨_, rfl, wpAny_pure h⟩))) hfit)
    | exact wpAny_bind (wpAny_bind (m := Builtin.Tuple.tupleExact _) (wpAny_newObj_type (wpAny_pure (wpAny_pure ⟨_, rfl, wpAny_pure h⟩)) hfit))
    | exact wpAny_bind (wpAny_bind (m := Builtin.Tuple.tupleExact _) (wpAny_newObj_type (wpAny_pure ⟨_, rfl, wpAny_pure h⟩) hfit))
end
def tRevA (K : PySem.W.Frag) (te : TE) : TE := fun σ H Q => te σ H fun x H1 => ∃ a xs, x = .ref a ∧ ((SqL K H1 a xs ∧ ∀ p, H1 p = none → Q (.ref p) (upd H1 p (.lst xs.reverse))) ∨ (SqT K H1 a xs ∧ ∀ p, H1 p = none → Q (.ref p) (upd H1 p (.tup xs.reverse))))
theorem pe_revA {X : Cx} {e : Expr} {te : TE} {k : Nat} {p1 p2 p3 pos : Pos} (he : PE X e te) : PE X (.Subscript e (.Slice none none (some (.UnaryOp .USub (.Constant (.int 1) k p1) p2)) p3) pos) (tRevA X.K te) := by
  constructor
  intro pins s σ H Q I h
  refine Subscript_ (thn (he.run pins s σ H _ I h) fun v s1 ⟨x, H1, I1, r1, a, xs, ex, q⟩ => ?_)
  subst ex
  cases r1
  have hst : PO X (some (.UnaryOp .USub (.Constant (.int 1) k p1) p2)) (tPart (tUn (rU fun i => .int (-i)) (tC (.int 1)))) := po_some (pe_un un_neg pe_int)
  refine wpAny_Slice (thn (po_none.run pins s1 σ H1 (fun o H2 => o = none ∧ H2 = H1) I1 ⟨rfl, rfl⟩) fun vl s2 ⟨l, H2, I2, pl, el, e2⟩ => ?_)
  subst el; subst e2
  refine thn (po_none.run pins s2 σ H2 (fun o H3 => o = none ∧ H3 = H2) I2 ⟨rfl, rfl⟩) fun vu s3 ⟨u, H3, I3, pu, eu, e3⟩ => ?_
  subst eu; subst e3
  refine thn (hst.run pins s3 σ H3 (fun o H4 => o = some (-1) ∧ H4 = H3) I3 ⟨1, rfl, -1, rfl, rfl, rfl⟩) fun vs s4 ⟨o, H4, I4, ps, eo, e4⟩ => ?_
  subst eo; subst e4
  cases pl
  cases pu
  have I5 : Inv X pins σ H4 { s4 with heap := s4.heap.push { cls := .type "slice", data := .fields #[.none, .none, vs] } } := I4.kept (t' := s4.toks) fun b ob q => Heap.get?_push_of_some _ q
  show wpAny (model X.prog X.w) X.A (subscriptTail e (.Slice none none (some (.UnaryOp .USub (.Constant (.int 1) k p1) p2)) p3) (.ref a) (.ref s4.heap.objs.size)) (EP X pins σ Q) X.xe { s4 with heap := s4.heap.push { cls := .type "slice", data := .fields #[.none, .none, vs] } }
  rcases q with ⟨hx, q⟩ | ⟨hx, q⟩
  · obtain ⟨its, r, ht, hz⟩ := I5.list hx
    have hlen := r.length
    refine tail_any (ops := [.ref a, .ref s4.heap.objs.size]) ht.isList.typeIs (PySem.slot_list_getitem.lookup) ?_ (by with_unfolding_all rfl)
    refine wpAny_getItem_list_slice ht.isList (Heap.IsSliceOf.new _ .none .none vs) .none .none ps (by decide) ?_ (by rw [List.size_toArray]; omega)
    rw [PySem.W.krv_pick]
    exact ⟨.ref _, _, I5.laid (t' := s4.toks) (o := .lst xs.reverse) (fun b ob q => Heap.get?_push_of_some _ q) (Nat.le_refl _) ⟨by rw [List.length_reverse]; exact hz, _, 0, r.reverse, Heap.get?_push_size _ rfl⟩, rfl, q _ (I5.hok.fresh (Nat.le_refl _))⟩
  · obtain ⟨its, r, ht, hz⟩ := I5.tuple hx
    have hlen := r.length
    refine tail_any (ops := [.ref a, .ref s4.heap.objs.size]) ht.typeIs (PyProof.Rows.slot_tuple_getitem.lookup) ?_ (by with_unfolding_all rfl)
    refine get_back ht (Heap.IsSliceOf.new _ .none .none vs) ps ?_ (by rw [List.size_toArray]; omega)
    exact ⟨.ref _, _, I5.laid (t' := s4.toks) (o := .tup xs.reverse) (fun b ob q => Heap.get?_push_of_some _ q) (Nat.le_refl _) ⟨by rw [List.length_reverse]; exact hz, _, r.reverse, IsTup.new _ _⟩, rfl, q _ (I5.hok.fresh (Nat.le_refl _))⟩
end HV
set_option linter.all false
set_option maxRecDepth 100000
set_option maxHeartbeats 1000000
namespace SV
open PySem PySem.Spec PyProof.Rows L2 NB

section
variable {X : Cx} {W : WX} {a b c e tg : Expr} {es : List Expr} {fa fb fc fe : FE} {pos : Pos}
/-! ### chains as tests -/
theorem chain_ok {r r' : R2} {g g' : D → D → Sto → R D} (hk : OpK X.K W r g) (hk' : OpK X.K W r' g') {σ : L2.St} {H : Hp} {Q : VK} (h : teOf X.K W (fChain g g' fa fb fc) σ H Q) : tChain r r' (teOf X.K W fa) (teOf X.K W fb) (teOf X.K W fc) σ H Q := by
  obtain ⟨w, E, S, hE, hS, hP⟩ := h
  exact ⟨w, E, S, hE, hS, Post.imp (Post.bind hP) fun x S1 H1 w1 e1 s1 q v rv => ⟨w1, E, S1, hE.ext e1, s1, Post.imp (Post.bind q) fun y S2 H2 w2 e2 s2 q2 u ru =>
      hk H2 w2 S2 x y v u _ s2 (rv.ext e2) ru (Post.imp (Post.bind q2) fun z S3 H3 w3 e3 s3 q3 t rt => by
        split at q3
        · cases rt with | p rt =>
            cases rt
            refine ⟨_, rfl, ?_⟩
            split at q3
            · rename_i c; rw [if_pos c]
              exact ⟨w3, E, S3, ((hE.ext e1).ext e2).ext e3, s3, Post.imp (Post.bind q3) fun t' S4 H4 w4 e4 s4 q4 tv rtv => hk' H4 w4 S4 y t' u tv Q s4 ((ru.ext e3).ext e4) rtv q4⟩
            · rename_i c; rw [if_neg c]; exact PostV.same q3 s3 (.p (.bl _))
        · exact q3.elim)⟩⟩
theorem ttest_of {K : PySem.W.Frag} {f : FE} {σ : L2.St} {H : Hp} {Q : Bool → Hp → Prop} (h : ttOf K W (fB f) σ H Q) : teOf K W f σ H fun x H' => ∃ k, x = .bl k ∧ Q k H' := by
  obtain ⟨w, E, S, hE, hS, hP⟩ := h
  exact ⟨w, E, S, hE, hS, Post.imp (Post.bind hP) fun x S1 H1 w1 e1 s1 q v rv => by
    unfold gBool at q
    split at q
    · cases rv with | p rv => cases rv; exact ⟨_, rfl, Post.same q s1⟩
    · exact q.elim⟩
theorem re_chn {op op' : CmpOp} {r r' : R2} {g g' : D → D → Sto → R D} (ho : OpR X (compareOp op) r) (ho' : OpR X (compareOp op') r') (hk : OpK X.K W r g) (hk' : OpK X.K W r' g') (ha : RE X W a fa) (hb : RE X W b fb) (hc : RE X W c fc)
    (hm : lastMarks [op, op'] [b, c] = false := by with_unfolding_all rfl) : RE X W (.Compare a [op, op'] [b, c] pos) (fChain g g' fa fb fc) := PE.wk (pe_chain ho ho' ha hb hc hm) fun σ H Q h => chain_ok hk hk' h
theorem rt_chn {op op' : CmpOp} {r r' : R2} {g g' : D → D → Sto → R D} (ho : OpR X (compareOp op) r) (ho' : OpR X (compareOp op') r') (hk : OpK X.K W r g) (hk' : OpK X.K W r' g') (ha : RE X W a fa) (hb : RE X W b fb) (hc : RE X W c fc)
    (hm : lastMarks [op, op'] [b, c] = false := by with_unfolding_all rfl) : RT X W (.Compare a [op, op'] [b, c] pos) (fB (fChain g g' fa fb fc)) := PT.wk (pt_chain ho ho' ha hb hc hm) fun σ H Q h => chain_ok hk hk' (ttest_of h)
/-! ### is, is not between bools -/
def gIs (x y : D) (S : Sto) : R D := match x, y with
  | .p (.bool a), .p (.bool b) => .ok (dBl (decide (a = b))) S
  | _, _ => .bad
def gIsn (x y : D) (S : Sto) : R D := match x, y with
  | .p (.bool a), .p (.bool b) => .ok (dBl (!decide (a = b))) S
  | _, _ => .bad
theorem opk_is {K : PySem.W.Frag} : OpK K W (fun x y H Q => ∃ a b, x = .bl a ∧ y = .bl b ∧ Q (.bl (decide (a = b))) H) gIs := by
  intro H w S x y v u Q s rx ry q
  unfold gIs at q
  split at q
  · cases rx with | p rx => cases rx; cases ry with | p ry => cases ry; exact ⟨_, _, rfl, rfl, PostV.same q s (.p (.bl _))⟩
  · exact q.elim
theorem opk_isn {K : PySem.W.Frag} : OpK K W (fun x y H Q => ∃ a b, x = .bl a ∧ y = .bl b ∧ Q (.bl (!decide (a = b))) H) gIsn := by
  intro H w S x y v u Q s rx ry q
  unfold gIsn at q
  split at q
  · cases rx with | p rx => cases rx; cases ry with | p ry => cases ry; exact ⟨_, _, rfl, rfl, PostV.same q s (.p (.bl _))⟩
  · exact q.elim
def isNonD : D → Option Bool
  | .p .none => some true
  | .p _ => some false
  | .ref _ => some false
  | .tup _ => some false
  | _ => none
/-- is None -/
def gIsN (x y : D) (S : Sto) : R D := match isNonD x, y with
  | some b, .p .none => .ok (dBl b) S
  | _, _ => .bad
def gIsnN (x y : D) (S : Sto) : R D := match isNonD x, y with
  | some b, .p .none => .ok (dBl (!b)) S
  | _, _ => .bad
theorem isNon_ok {K : PySem.W.Frag} {H : Hp} {w : Vw} {x : D} {v : V} {b : Bool} (r : Rep K H w v x) (h : isNonD x = some b) : decide (v = .non) = b := by
  unfold isNonD at h
  split at h
  · cases h; cases r with | p r => cases r; rfl
  · rename_i hn
    cases h; cases r with | p r =>
      cases r with
      | non => exact absurd rfl hn
      | _ => rfl
  · cases h; cases r; rfl
  · cases h; cases r; rfl
  · cases h
theorem opk_isN {K : PySem.W.Frag} : OpK K W (fun x y H Q => y = .non ∧ Q (.bl (decide (x = .non))) H) gIsN := by
  intro H w S x y v u Q s rx ry q
  unfold gIsN at q
  split at q
  · rename_i b e
    cases ry with | p ry => cases ry; exact ⟨rfl, by rw [isNon_ok rx e]; exact PostV.same q s (.p (.bl _))⟩
  · exact q.elim
theorem opk_isnN {K : PySem.W.Frag} : OpK K W (fun x y H Q => y = .non ∧ Q (.bl (!decide (x = .non))) H) gIsnN := by
  intro H w S x y v u Q s rx ry q
  unfold gIsnN at q
  split at q
  · rename_i b e
    cases ry with | p ry => cases ry; exact ⟨rfl, by rw [isNon_ok rx e]; exact PostV.same q s (.p (.bl _))⟩
  · exact q.elim

/-! ### constants of the module -/
structure GC (K : PySem.W.Frag) (mg : Str → Option Value) (x : Str) (d : D) : Prop where
  ex : ∃ u v, mg x = some u ∧ RelV v u ∧ ∀ H w, Rep K H w v d
theorem re_glob {x : Str} {d : D} {p : Pos} (C : GC X.K X.mg x d) (hg : Gl X x) (hd : (x == ("__debug__" : Str)) = false := by decide) : RE X W (.Name x p) (fC d) := by
  obtain ⟨u, v, h1, h2, h3⟩ := C.ex
  exact re_c (pe_glob hg h1 h2 hd) h3
/-- a written dict with text keys -/
structure KD (K : PySem.W.Frag) (w : World) (d : Addr) (tab : List (Str × D)) : Prop where
  ex : ∃ es n, KDict K w d es n ∧ Paired (fun (p : Str × D) (e : DictEntry) => (∃ t, e.key = .str p.1 t) ∧ ∃ v, RelV v e.val ∧ ∀ H w', Rep K H w' v p.2) tab es.toList
/-- .. under its name -/
structure DC (K : PySem.W.Frag) (w : World) (mg : Str → Option Value) (x : Str) (tab : List (Str × D)) : Prop where
  ex : ∃ d, mg x = some (.ref d) ∧ KD K w d tab
theorem KD.look {K : PySem.W.Frag} {w : World} {d : Addr} {tab : List (Str × D)} (k : KD K w d tab) (z : Str) : ∃ r, PySem.W.nsIn K d z = some r ∧ match tab.lookup z with
    | some x => ∃ u v, r = some u ∧ RelV v u ∧ ∀ H w', Rep K H w' v x
    | none => r = none := by
  obtain ⟨es, n, kd, pr⟩ := k.ex
  unfold PySem.W.nsIn
  rw [kd.at_]
  dsimp only
  have key : ∀ {tab : List (Str × D)} {l : List DictEntry}, Paired (fun (p : Str × D) (e : DictEntry) => (∃ t, e.key = .str p.1 t) ∧ ∃ v, RelV v e.val ∧ ∀ H w', Rep K H w' v p.2) tab l →
      ∃ r, (match l.find? (·.key.isStr z) with | some e => some (some e.val) | none => if l.any (·.refKey) then none else some none) = some r ∧ match tab.lookup z with
        | some x => ∃ u v, r = some u ∧ RelV v u ∧ ∀ H w', Rep K H w' v x
        | none => r = none := by
    intro tab l pr
    induction pr with
    | nil => exact ⟨none, rfl, rfl⟩
    | @cons p e ps es' h t ih =>
      obtain ⟨⟨tk, hk⟩, v, hv, hr⟩ := h
      obtain ⟨pk, px⟩ := p
      have hk : e.key = .str pk tk := hk
      by_cases c : z = pk
      · subst c
        refine ⟨some e.val, ?_, ?_⟩
        · rw [List.find?_cons_of_pos (by rw [hk]; simp [Value.isStr, Value.isStrOf])]
        · rw [show List.lookup z ((z, px) :: ps) = some px by simp [List.lookup]]
          exact ⟨_, v, rfl, hv, hr⟩
      · obtain ⟨r, h1, h2⟩ := ih
        refine ⟨r, ?_, ?_⟩
        · rw [List.find?_cons_of_neg (by rw [hk]; simp [Value.isStr, Value.isStrOf, Ne.symm c])]
          rw [List.any_cons, show e.refKey = false by unfold DictEntry.refKey; rw [hk]]
          simpa using h1
        · rw [show List.lookup z ((pk, px) :: ps) = List.lookup z ps by
            have cc : (z == pk) = false := beq_false_of_ne c
            simp only [List.lookup, cc]]
          exact h2
  exact key pr
def gInKd (tab : List (Str × D)) (neg : Bool) (x : D) (S : Sto) : R D := match x with
  | .p (.str z) => .ok (dBl (if neg then !(tab.lookup z).isSome else (tab.lookup z).isSome)) S
  | _ => .bad
def gIxKd (tab : List (Str × D)) (y : D) (S : Sto) : R D := match y with
  | .p (.str z) => match tab.lookup z with
    | some d => .ok d S
    | none => .bad
  | _ => .bad
theorem KD.isSome {K : PySem.W.Frag} {w : World} {d : Addr} {tab : List (Str × D)} (k : KD K w d tab) (z : Str) : ∃ r, PySem.W.nsIn K d z = some r ∧ r.isSome = (tab.lookup z).isSome := by
  obtain ⟨r, h1, h2⟩ := k.look z
  refine ⟨r, h1, ?_⟩
  cases e : tab.lookup z with
  | none => rw [e] at h2; rw [h2]; rfl
  | some x => rw [e] at h2; obtain ⟨u, v, rfl, _⟩ := h2; rfl
theorem ttc {K : PySem.W.Frag} {d : D} {σ : L2.St} {H : Hp} : ∀ {Q : VK} {v : V}, Q v H → tC v σ H Q := fun q => q
/-- x in D, D a written dict -/
theorem re_inKd {x : Str} {tab : List (Str × D)} {p : Pos} (C : DC X.K X.w X.mg x tab) (hg : Gl X x) (ha : RE X W a fa) (hd : (x == ("__debug__" : Str)) = false := by decide) (hb : behindInMarks .In (.Name x p) = false := by rfl) :
    RE X W (.Compare a [.In] [.Name x p] pos) (fUn (gInKd tab false) fa) := by
  obtain ⟨d, hm, k⟩ := C.ex
  obtain ⟨es, n, kd, pr⟩ := k.ex
  exact PE.wk (pe_cmpR (op_in_kd kd) ha (pe_glob (v := .ref d) hg hm rfl hd) hb) fun σ H Q ⟨w, E, S, hE, hS, hP⟩ => ⟨w, E, S, hE, hS, Post.imp (Post.bind hP) fun y S1 H1 w1 e1 s1 q v rv => by
    unfold gInKd at q
    split at q
    · rename_i z
      cases rv with | p rv =>
        cases rv
        obtain ⟨r, h1, h2⟩ := k.isSome z
        refine ⟨z, r, rfl, rfl, h1, ?_⟩
        rw [h2]
        exact PostV.same q s1 (.p (.bl _))
    · exact q.elim⟩
theorem rt_inKd {x : Str} {tab : List (Str × D)} {p : Pos} (C : DC X.K X.w X.mg x tab) (hg : Gl X x) (ha : RE X W a fa) (hd : (x == ("__debug__" : Str)) = false := by decide) (hb : behindInMarks .In (.Name x p) = false := by rfl) :
    RT X W (.Compare a [.In] [.Name x p] pos) (fB (fUn (gInKd tab false) fa)) := by
  obtain ⟨d, hm, k⟩ := C.ex
  obtain ⟨es, n, kd, pr⟩ := k.ex
  exact PT.wk (pt_cmpR (op_in_kd kd) ha (pe_glob (v := .ref d) hg hm rfl hd) hb) fun σ H Q h => by
    obtain ⟨w, E, S, hE, hS, hP⟩ := ttest_of h
    exact ⟨w, E, S, hE, hS, Post.imp (Post.bind hP) fun y S1 H1 w1 e1 s1 q v rv => by
      unfold gInKd at q
      split at q
      · rename_i z
        cases rv with | p rv =>
          cases rv
          obtain ⟨r, h1, h2⟩ := k.isSome z
          refine ⟨z, r, rfl, rfl, h1, ?_⟩
          rw [h2]
          exact PostV.same q s1 (.p (.bl _))
      · exact q.elim⟩
/-- D[x] -/
theorem re_ixKd {x : Str} {tab : List (Str × D)} {p : Pos} (C : DC X.K X.w X.mg x tab) (hg : Gl X x) (ha : RE X W a fa) (hs : PlainIx a) (hd : (x == ("__debug__" : Str)) = false := by decide) :
    RE X W (.Subscript (.Name x p) a pos) (fUn (gIxKd tab) fa) := by
  obtain ⟨d, hm, k⟩ := C.ex
  obtain ⟨es, n, kd, pr⟩ := k.ex
  exact PE.wk (pe_ix ix_kdict (pe_glob (v := .ref d) hg hm rfl hd) ha hs) fun σ H Q ⟨w, E, S, hE, hS, hP⟩ => ⟨w, E, S, hE, hS, Post.imp (Post.bind hP) fun y S1 H1 w1 e1 s1 q v rv => by
    unfold gIxKd at q
    split at q
    · rename_i z
      split at q
      · rename_i dd e
        cases rv with | p rv =>
          cases rv
          obtain ⟨r, h1, h2⟩ := k.look z
          rw [e] at h2
          obtain ⟨u, v, rfl, h3, h4⟩ := h2
          exact ⟨d, z, v, rfl, rfl, ⟨es, n, u, kd.at_, kd.lit, h1, h3⟩, PostV.same q s1 (h4 _ _)⟩
      · exact q.elim
    · exact q.elim⟩

/-! ### calls -/
structure ALen (fa : FA) (n : Nat) : Prop where
  h : ∀ {E S ds S'}, fa E S = .ok ds S' → ds.length = n
theorem al_nil : ALen fNilA 0 := ⟨fun h => by injection h with h _; rw [← h]; rfl⟩
theorem al_cons {f : FE} {r : FA} {n : Nat} (h : ALen r n) : ALen (fConsA f r) (n + 1) := ⟨fun {E S ds S'} q => by
  unfold fConsA at q
  cases h1 : f E S with
  | bad => rw [h1] at q; cases q
  | exc _ _ _ => rw [h1] at q; cases q
  | ok x S1 =>
    rw [h1] at q
    simp only [R.bind] at q
    cases h2 : r E S1 with
    | bad => rw [h2] at q; cases q
    | exc _ _ _ => rw [h2] at q; cases q
    | ok xs S2 =>
      rw [h2] at q
      simp only [R.bind] at q
      injection q with q _
      rw [← q, List.length_cons, h.h h2]⟩
/-- a def that can be called by its name -/
structure Cal (P : Program) (w : World) (K : PySem.W.Frag) (mg : Str → Option Value) (base : Heap) (k : Nat) (x : Str) (ps : List Str) (st : Stmt) (fn : FN) : Prop where
  ex : ∃ f fd, FnOk P w K mg base CX0 k f fd ps (spOf K ps.length fn) ∧ mg x = some (.ref f) ∧ PySem.W.keepIn K (.ref f) = true ∧ Binds K fd ps [] ∧ Fun K x x st f fd
theorem Cal.mono {P : Program} {w : World} {K : PySem.W.Frag} {mg : Str → Option Value} {base : Heap} {j k : Nat} {x : Str} {ps : List Str} {st : Stmt} {fn : FN} (C : Cal P w K mg base j x ps st fn) (h : j ≤ k) : Cal P w K mg base k x ps st fn := by
  obtain ⟨f, fd, h1, h2⟩ := C.ex
  exact ⟨f, fd, h1.mono h, h2⟩
theorem re_callC {k : Nat} {x : Str} {ps : List Str} {st : Stmt} {fn : FN} {f : FA} {p : Pos} (C : Cal X.prog X.w X.K X.mg X.base k x ps st fn) (hr : Room k X.A) (hg : Gl X x) (ha : RA X W (e :: es) f) (hl : ALen f ps.length) (hdb : (x == ("__debug__" : Str)) = false := by decide)
    (he : starEach (e :: es) X.env = (false, eval e X.env) :: starEach es X.env := by rfl) (hpl : (backTo pos (starEach es X.env)).any (·.1) = false := by rfl) : RE X W (.Call (.Name x p) (e :: es) [] pos) (fCall fn f) := by
  obtain ⟨g, fd, h1, h2, h3, h4, _⟩ := C.ex
  exact re_call h1 hr hg h2 h3 h4 ha hdb he hpl hl.h
theorem re_callC0 {k : Nat} {x : Str} {st : Stmt} {fn : FN} {p : Pos} (C : Cal X.prog X.w X.K X.mg X.base k x [] st fn) (hr : Room k X.A) (hg : Gl X x) (hdb : (x == ("__debug__" : Str)) = false := by decide) : RE X W (.Call (.Name x p) [] [] pos) (fCall fn fNilA) := by
  obtain ⟨g, fd, h1, h2, h3, h4, _⟩ := C.ex
  exact PE.wk (pe_call0 (E := fun _ _ _ => True) h1 hr hg h2 h3 h4 .nil (fun _ _ _ _ _ _ _ h => h.elim) hdb) fun σ H Q ⟨w, E, S, hE, hS, hP⟩ => by
    have q : Post X.K W H w ((fn [] S).at E) (fun d _ H' w' => ∀ v, Rep X.K H' w' v d → Q v H') := hP
    refine ⟨rfl, w, [], S, .nil, hS, ?_⟩
    cases hfn : fn [] S with
    | bad => rw [hfn] at q; exact q
    | exc _ _ _ => exact fun _ _ _ _ _ _ _ _ _ => True.intro
    | ok d S2 => rw [hfn] at q; exact q
/-! #### by keywords alone -/
def pick {α : Type} (is : List Nat) (l : List α) : List α := is.filterMap fun i => l[i]?
theorem Reps.pick {K : PySem.W.Frag} {H : Hp} {w : Vw} {vs : List V} {ds : List D} (r : Reps K H w vs ds) : ∀ is : List Nat, Reps K H w (pick is vs) (pick is ds)
  | [] => .nil
  | i :: is => by
    unfold SV.pick
    rw [List.filterMap_cons, List.filterMap_cons]
    cases e : ds[i]? with
    | none =>
      have : vs[i]? = none := by rw [List.getElem?_eq_none_iff, r.len]; exact List.getElem?_eq_none_iff.mp e
      rw [this]
      exact Reps.pick r is
    | some d =>
      obtain ⟨v, h1, h2⟩ := r.get e
      rw [h1]
      exact .cons h2 (Reps.pick r is)
theorem vals_pick {vs : List V} {us : List Value} (r : Vals vs us) : ∀ is : List Nat, Vals (pick is vs) (pick is us)
  | [] => .nil
  | i :: is => by
    unfold SV.pick
    rw [List.filterMap_cons, List.filterMap_cons]
    cases e : vs[i]? with
    | none => rw [r.none_of e]; exact vals_pick r is
    | some d =>
      obtain ⟨v, h1, h2⟩ := r.get e
      rw [h1]
      exact .cons h2 (vals_pick r is)
abbrev RK (X : Cx) (W : WX) (ks : List Keyword) (f : FA) : Prop := PK X ks (taOf X.K W f)
theorem PK.wk {ks : List Keyword} {t t' : TA} (h : PK X ks t) (i : ∀ σ H Q, t' σ H Q → t σ H Q) : PK X ks t' := ⟨fun pos pins s σ H Q I q => h.run pos pins s σ H Q I (i _ _ _ q)⟩
theorem rk_nil : RK X W [] fNilA := PK.wk pk_nil fun σ H Q ⟨w, E, S, hE, hS, hP⟩ => Post.same hP hS [] .nil
theorem rk_cons {f : FA} {kws : List Keyword} {nm : Option Str} {kpos : Pos} (ha : RE X W e fe) (hr : RK X W kws f) : RK X W (⟨nm, e, kpos⟩ :: kws) (fConsA fe f) :=
  PK.wk (pk_cons ha hr) fun σ H Q ⟨w, E, S, hE, hS, hP⟩ =>
    ⟨w, E, S, hE, hS, Post.imp (Post.bind hP) fun x S1 H1 w1 e1 s1 q v rv => ⟨w1, E, S1, hE.ext e1, s1, Post.imp (Post.bind q) fun y S2 H2 w2 e2 s2 q2 u ru => Post.same q2 s2 _ (.cons (rv.ext e2) ru)⟩⟩
def fCallK (perm : List Nat) (fn : FN) (a : FA) : FE := fun E S => (a E S).bind fun ds S1 => (fn (pick perm ds) S1).at E
theorem re_callK {k n : Nat} {x : Str} {ps ks : List Str} {perm : List Nat} {st : Stmt} {fn : FN} {f : FA} {p : Pos} {kws : List Keyword} (C : Cal X.prog X.w X.K X.mg X.base k x ps st fn) (hr : Room k X.A) (hg : Gl X x) (ha : RK X W kws f) (hl : ALen f ks.length) (hn : ∀ {l : List V}, l.length = ks.length → (pick perm l).length = ps.length)
    (hb : ∀ (kV doc pm : Value) (an : Option Addr) (cdv ct : Value) (ws : List Value), ws.length = ks.length → bindArgs (PySem.W.fnOf x x (defArgs st) (defBody st) (defScope st) .none kV doc pm an cdv ct) ⟨[], ks.zip ws⟩ = pure (ps.zip (pick perm ws)))
    (hall : (backToKw pos (keywordEach kws X.env)).all (·.1.isSome) = true := by rfl) (hks : (backToKw pos (keywordEach kws X.env)).filterMap (·.1) = ks := by rfl) (hdb : (x == ("__debug__" : Str)) = false := by decide)
    (hpl : ((backTo pos (starEach [] X.env)).any (·.1) || (backToKw pos (keywordEach kws X.env)).any (·.1.isNone)) = false := by rfl) : RE X W (.Call (.Name x p) [] kws pos) (fCallK perm fn f) := by
  obtain ⟨g, fd, h1, h2, h3, h4, F⟩ := C.ex
  obtain ⟨oc, od, kV, doc, pm, an, cdv, ct, osl, rfl, lk, hcd⟩ := F.ex
  have kb : KB0 X.K (PySem.W.fnOf x x (defArgs st) (defBody st) (defScope st) .none kV doc pm an cdv ct) ps ks (pick perm) (pick perm) := ⟨fun s ws hl => BindsTo.of_eq (hb _ _ _ _ _ _ ws hl), fun zs ws _ r => vals_pick r perm⟩
  exact PE.wk (pe_callK0 (E := fun _ _ _ => True) h1 hr hg h2 h3 kb (fun _ _ _ _ _ _ _ h => h.elim) ha hall hks hdb hpl) fun σ H Q ⟨w, E, S, hE, hS, hP⟩ => ⟨w, E, S, hE, hS, by
      have hq := Post.bind hP
      cases hfa : f E S with
      | bad => rw [hfa] at hq; exact hq
      | exc _ _ _ => rw [hfa] at hq; exact hq
      | ok ds S1 =>
        rw [hfa] at hq
        intro H1 w1 e1 s1 vs rv
        have q : Post X.K W H1 w1 ((fn (pick perm ds) S1).at E) (fun d _ H' w' => ∀ v, Rep X.K H' w' v d → Q v H') := hq H1 w1 e1 s1
        have lv : vs.length = ks.length := by rw [rv.len]; exact hl.h hfa
        refine ⟨lv, hn lv, w1, pick perm ds, S1, rv.pick perm, s1, ?_⟩
        cases hfn : fn (pick perm ds) S1 with
        | bad => rw [hfn] at q; exact q
        | exc _ _ _ => exact fun _ _ _ _ _ _ _ _ _ => True.intro
        | ok d S2 => rw [hfn] at q; exact q⟩
theorem fn_bad {P : Program} {W_ : World} {K : PySem.W.Frag} {mg : Str → Option Value} {base : Heap} {x qual : Str} {st : Stmt} {f : Addr} {fd : FuncData} {N ps : List Str} {k : Nat} (F : Fun K x qual st f fd) (SC : FnScope N ps (defScope st)) : FnOk P W_ K mg base CX0 (k + 1) f fd ps (spOf K ps.length fun _ _ => .bad) :=
  F.ok SC (fun vs H Q E h => h.1) fun cdv A outer s H vs Q E hr h => by
    obtain ⟨_, _, _, _, _, _, h⟩ := h
    exact h.elim
/-! #### name op= e, ints -/
def gIAdd := gI fun i j => .int (i + j)
theorem opk_iadd {K : PySem.W.Frag} : OpK K W (rI0 fun i j => .int (i + j)) gIAdd := opk_I fun _ _ _ _ => .int _
def gIMul := gIc okMul (· * ·)
theorem opk_imul {K : PySem.W.Frag} : OpK K W (rI CMul fun i j => .int (i * j)) gIMul := opk_Ic fun i j c => by unfold okMul at c; simpa [CMul] using c
/-! #### xs[::-1] -/
def gRev (fz : Bool) (x : D) (S1 : Sto) : R D := match viewT x with
  | some ds => .ok (mkT ds.reverse) S1
  | none => match viewL x S1 with
    | some ds => newL fz ds.reverse S1
    | none => .bad
def fRev (fz : Bool) (a : FE) : FE := fun E S => (a E S).bind (gRev fz)
theorem re_rev {k : Nat} {p1 p2 p3 : Pos} (fz : Bool) (ha : RE X W e fe) : RE X W (.Subscript e (.Slice none none (some (.UnaryOp .USub (.Constant (.int 1) k p1) p2)) p3) pos) (fRev fz fe) :=
  PE.wk (HV.pe_revA ha) fun σ H Q ⟨w, E, S, hE, hS, hP⟩ => ⟨w, E, S, hE, hS, Post.imp (Post.bind hP) fun x S1 H1 w1 e1 s1 q v rv => by
    unfold gRev at q
    split at q
    · rename_i ds ed
      obtain ⟨a, vs, rfl, h1, h2⟩ := viewT_ok rv ed
      exact ⟨a, vs, rfl, .inr ⟨h1, fun p hp => PostV.newT q s1 hp h2.rev⟩⟩
    · split at q
      · rename_i ds ed
        obtain ⟨a, vs, rfl, h1, h2⟩ := viewL_ok rv s1 ed
        exact ⟨a, vs, rfl, .inl ⟨SqL.of h1, fun p hp => PostV.newL q s1 hp h2.rev⟩⟩
      · exact q.elim⟩
/-! #### xs.extend(..) -/
def rExtA (K : PySem.W.Frag) : V → List V → Hp → VK → Prop := fun x vs H Q => rExtend x vs H Q ∨ ∃ l b xs zs, x = .ref l ∧ vs = [.ref b] ∧ H l = some (.lst xs) ∧ SqT K H b zs ∧ xs.length + zs.length ≤ sizeLine ∧ Q .non (upd H l (.lst (xs ++ zs)))
theorem mt_extendA : MtM X "list.extend" (rExtA X.K) := by
  intro pins s σ H x vs v us Q I rx rv h
  rcases h with h | h
  · exact mt_extend pins s σ H x vs v us Q I rx rv h
  · obtain ⟨l, b, xs, zs, rfl, rfl, hH, hB, hz, q⟩ := h
    cases rx
    obtain ⟨u, rfl, ru⟩ := rv.one
    cases ru
    obtain ⟨z, its, n, r, hl, e⟩ := I.lstM hH
    obtain ⟨its2, r2, ⟨⟨c2, dct, d2, slo⟩, e2, hc2, n2, hd2⟩, z2⟩ := I.tuple hB
    cases hc2
    cases hd2
    have hl2 := r2.length
    have big : its.toArray.size + its2.toArray.size ≤ sizeLine := by rw [List.size_toArray, List.size_toArray]; omega
    have nlong : ¬ (!its.toArray.isEmpty && Builtin.List.listTooLong (its.toArray.size + its2.toArray.size)) = true := by
      rw [notLongL big, Bool.and_false]
      exact Bool.false_ne_true
    refine call_meets F.slot_list_extend ⟨_, e, rfl⟩ F.entry_list_extend (F.args_list_extend_2 _ _)
      (PySem.NBx.ext_tup l its.toArray n b its2.toArray n2 dct slo nlong (by rw [List.size_toArray]; omega) (by omega)) ⟨e, e2, ?_⟩
    exact ⟨.non, _, I.lset (its' := its ++ its2) hH e (by simp) (r.append r2) (by rw [List.length_append]; omega), rfl, q⟩
theorem mtk_extend {K : PySem.W.Frag} : MtK K W (rExtA K) gExtend := by
  intro H w S x v ds vs Q s rx rv q
  unfold gExtend at q
  split at q
  · rename_i y r es e
    split at q
    · rename_i zs ez
      split at q
      · rename_i c
        obtain ⟨a, us, rfl, h1, h2, h3, h4⟩ := refL_ok e rx s
        have big : us.length + zs.length ≤ sizeLine := by rw [h3.len]; exact Nat.le_trans c (by rw [sizeLine_eq]; decide)
        cases rv with | cons r1 r2 =>
          cases r2
          unfold viewS at ez
          split at ez
          · cases ez
            rename_i e2
            obtain ⟨b, ws, rfl, k1, k2⟩ := viewT_ok r1 e2
            exact .inr ⟨a, b, us, ws, rfl, rfl, h2, k1, by rw [k2.len]; exact big, PostV.put q s h1 h2 (h3.append k2) (.p .non)⟩
          · obtain ⟨b, ws, rfl, k1, k2⟩ := viewL_ok r1 s ez
            exact .inl ⟨a, b, us, ws, rfl, rfl, h2, k1, by rw [k2.len]; exact big, PostV.put q s h1 h2 (h3.append k2) (.p .non)⟩
      · exact q.elim
    · exact q.elim
  · exact q.elim
end
end SV
set_option linter.all false
set_option maxRecDepth 100000
set_option maxHeartbeats  1000000
/-! zip over lists and tuples, in any mixture; its pairs taken or kept -/
namespace ZX
open PySem PySem.Spec PyProof.Rows L2 RZ
/-- a list (false) or a tuple (true) -/
def Sq (k : Bool) (h : Heap) (l : Addr) (xs : Array Value) : Prop := if k then h.IsTuple l xs else h.IsList l xs
def At (k : Bool) (h : Heap) (it l : Addr) (i : Nat) : Prop := if k then h.IsTupleIter it l i else h.IsListIter it l i
theorem Sq.ext {k : Bool} {h h' : Heap} {l b : Addr} {xs : Array Value} (q : Sq k h l xs) (e : Heap.ExtBut b h h') (n : l ≠ b) : Sq k h' l xs := by
  cases k with
  | true => exact Heap.IsTuple.extBut (show h.IsTuple l xs from q) e n
  | false => exact Heap.IsList.extBut (show h.IsList l xs from q) e n
theorem At.ext {k : Bool} {h h' : Heap} {it l b : Addr} {i : Nat} (q : At k h it l i) (e : Heap.ExtBut b h h') (n : it ≠ b) : At k h' it l i := by
  cases k with
  | true => exact Heap.IsTupleIter.extBut (show h.IsTupleIter it l i from q) e n
  | false => exact Heap.IsListIter.extBut (show h.IsListIter it l i from q) e n
theorem At.at {k : Bool} {h h' : Heap} {it l : Addr} {i : Nat} (q : At k h it l i) (e : ∀ o, h.get? it = some o → h'.get? it = some o) : At k h' it l i := by
  cases k with
  | true => exact Heap.IsTupleIter.at (show h.IsTupleIter it l i from q) e
  | false => exact Heap.IsListIter.at (show h.IsListIter it l i from q) e
theorem At.ob {k : Bool} {h : Heap} {it l : Addr} {i : Nat} (q : At k h it l i) : ∃ o, h.get? it = some o ∧ ∀ v, o.data ≠ .cell v := by
  cases k with
  | true => obtain ⟨o, e, _, d⟩ := (show h.IsTupleIter it l i from q); exact ⟨o, e, fun v z => by rw [d] at z; cases z⟩
  | false => obtain ⟨o, e, _, d⟩ := (show h.IsListIter it l i from q); exact ⟨o, e, fun v z => by rw [d] at z; cases z⟩
section
variable {prog : Program} {w : World} {A : Around} {E : Value → Shared → Prop} {s : Shared}
theorem next_some {k : Bool} {it l : Addr} {i : Nat} {xs : Array Value} {x : Value} {Q : Value → Shared → Prop} (hit : At k s.heap it l i) (hl : Sq k s.heap l xs) (hx : xs[i]? = some x)
    (hQ : ∀ h', At k h' it l (i + 1) → Heap.SameBut it s.heap h' → Q x { s with heap := h' }) : wpAny (model prog w) A (Builtin.SmallTypes.nextOf (.ref it)) Q E s := by
  cases k with
  | true => exact nextOf_tuple_item (show s.heap.IsTupleIter it l i from hit) (show s.heap.IsTuple l xs from hl) hx hQ
  | false => exact wpAny_nextOf_list_item (show s.heap.IsListIter it l i from hit) (show s.heap.IsList l xs from hl) hx hQ
theorem next_none {k : Bool} {it l : Addr} {i : Nat} {xs : Array Value} {Q : Value → Shared → Prop} (hh : A.handled = none) (hit : At k s.heap it l i) (hl : Sq k s.heap l xs) (hx : xs[i]? = none)
    (hE : ∀ h' e, Heap.ExtBut it s.heap h' → (∃ o, h'.get? e = some o ∧ o.cls = .type "StopIteration") → E (.ref e) { s with heap := h' }) : wpAny (model prog w) A (Builtin.SmallTypes.nextOf (.ref it)) Q E s := by
  cases k with
  | true => exact nextOf_tuple_end hh (show s.heap.IsTupleIter it l i from hit) (show s.heap.IsTuple l xs from hl) hx hE
  | false => exact wpAny_nextOf_list_end hh (show s.heap.IsListIter it l i from hit) (show s.heap.IsList l xs from hl) hx hE
variable {k k' : Bool} {z TI TO i1 i2 l1 l2 : Addr} {n1 n2 : Nat} {xs ys : Array Value} {x y a b : Value}
theorem zip_some {Q : Value → Shared → Prop} (D : ZipApart z TI TO i1 i2 l1 l2)
    (hz : IsZip s.heap z TI TO .none) (hTI : IsPair s.heap TI (.ref i1) (.ref i2)) (hTO : IsPair s.heap TO a b)
    (h1 : At k s.heap i1 l1 n1) (h2 : At k' s.heap i2 l2 n2) (hl1 : Sq k s.heap l1 xs) (hl2 : Sq k' s.heap l2 ys) (hx : xs[n1]? = some x) (hy : ys[n2]? = some y)
    (hQ : ∀ h', IsZip h' z TI TO (rawInt s.heap.objs.size) → IsPair h' TO x y → At k h' i1 l1 (n1 + 1) → At k' h' i2 l2 (n2 + 1) → IsPair h' s.heap.objs.size x y → h'.objs.size = s.heap.objs.size + 1 →
      (∀ c o, c ≠ z → c ≠ TO → c ≠ i1 → c ≠ i2 → s.heap.get? c = some o → h'.get? c = some o) → Q (.ref s.heap.objs.size) { s with heap := h' }) :
    wpAny (model prog w) A (Builtin.«zip.__next__» ⟨[.ref z], []⟩) (fun fin s' => ∃ v, fin = .done (.ret v) ∧ Q v s') E s := by
  show wpAny _ _ (field (.ref z) 2 >>= _) _ _ _
  refine wpAny_bind (wpAny_field hz rfl (x := .bool false) rfl ?_)
  show wpAny _ _ (field (.ref z) 3 >>= _) _ _ _
  refine wpAny_bind (wpAny_field hz rfl (x := .ref TI) rfl ?_)
  refine wpAny_bind (wpAny_seqItems hTI rfl ?_)
  show wpAny _ _ (Builtin.SmallTypes.ownedTupleIsFree (.ref z) >>= _) _ _ _
  refine wpAny_bind ?_
  unfold Builtin.SmallTypes.ownedTupleIsFree
  refine wpAny_bind (wpAny_field hz rfl (x := .none) rfl (wpAny_pure ?_))
  simp only [if_true]
  refine wpAny_bind (wpAny_rule ?_)
  refine wpAny_bind (wpAny_field hz rfl (x := .ref TO) rfl ?_)
  refine wpAny_bind (wpAny_setField_rec hz (by simp) fun g1 z1 s1 => ?_)
  replace z1 : IsZip g1 z TI TO .ellipsis := z1
  refine wpAny_bind ?_
  simp only [List.zipIdx_cons, List.zipIdx_nil, List.forIn_cons, List.forIn_nil]
  refine wpAny_bind (wpAny_bind (wpAny_onRaise ?_))
  show wpAny _ _ (Builtin.SmallTypes.nextOf (.ref i1) >>= _) _ _ _
  refine wpAny_bind (next_some (h1.ext s1.extBut D.i1z) (hl1.ext s1.extBut D.l1z) hx fun g2 a2 s2 => wpAny_pure ?_)
  have t2 : IsPair g2 TO a b := s2.extBut _ _ D.TOi1 (s1.extBut _ _ D.TOz hTO)
  refine wpAny_bind (wpAny_seqItems t2 rfl ?_)
  refine wpAny_bind (wpAny_updateSeq_pair t2 fun g3 t3 s3 => ?_)
  replace t3 : IsPair g3 TO x b := t3
  refine wpAny_bind (wpAny_letGo (wpAny_pure ?_))
  refine wpAny_bind (wpAny_bind (wpAny_onRaise ?_))
  show wpAny _ _ (Builtin.SmallTypes.nextOf (.ref i2) >>= _) _ _ _
  refine wpAny_bind (next_some (((h2.ext s1.extBut D.i2z).ext s2.extBut D.i12.symm).ext s3.extBut D.TOi2.symm)
    (((hl2.ext s1.extBut D.l2z).ext s2.extBut D.l2i1).ext s3.extBut D.l2TO) hy fun g4 a4 s4 => wpAny_pure ?_)
  have t4 : IsPair g4 TO x b := s4.extBut _ _ D.TOi2 t3
  refine wpAny_bind (wpAny_seqItems t4 rfl ?_)
  refine wpAny_bind (wpAny_updateSeq_pair t4 fun g5 t5 s5 => ?_)
  replace t5 : IsPair g5 TO x y := t5
  refine wpAny_bind (wpAny_letGo (wpAny_pure (wpAny_pure ?_)))
  refine wpAny_bind (wpAny_seqItems t5 rfl ?_)
  refine wpAny_bind (wpAny_newTuple ?_)
  have sz : g5.objs.size = s.heap.objs.size := by rw [s5.1, s4.1, s3.1, s2.1, s1.1]
  have z5 : IsZip g5 z TI TO .ellipsis := s5.extBut _ _ D.TOz.symm (s4.extBut _ _ D.i2z.symm (s3.extBut _ _ D.TOz.symm (s2.extBut _ _ D.i1z.symm z1)))
  have k5 : ∀ c o, c ≠ z → c ≠ TO → c ≠ i1 → c ≠ i2 → s.heap.get? c = some o → g5.get? c = some o := fun c o c1 c2 c3 c4 e =>
    s5.extBut _ _ c2 (s4.extBut _ _ c4 (s3.extBut _ _ c2 (s2.extBut _ _ c3 (s1.extBut _ _ c1 e))))
  have b1 : At k g5 i1 l1 (n1 + 1) := ((a2.ext s3.extBut D.TOi1.symm).ext s4.extBut D.i12).ext s5.extBut D.TOi1.symm
  have b2 : At k' g5 i2 l2 (n2 + 1) := a4.ext s5.extBut D.TOi2.symm
  have zlt : z < g5.objs.size := Heap.lt_size z5
  show wpAny _ _ (Builtin.SmallTypes.ownedTupleHandOut (.ref z) (.ref g5.objs.size) >>= _) _ _ _
  refine wpAny_bind ?_
  unfold Builtin.SmallTypes.ownedTupleHandOut
  have z6 : IsZip (g5.push { cls := .type "tuple", data := .seq #[x, y] }) z TI TO .ellipsis := Heap.get?_push_of_some _ z5
  refine wpAny_bind (wpAny_setField_rec z6 (by simp) fun g7 z7 s7 => ?_)
  replace z7 : IsZip g7 z TI TO (rawInt g5.objs.size) := z7
  refine wpAny_setField_rec z7 (by simp) fun g8 z8 s8 => ?_
  replace z8 : IsZip g8 z TI TO (rawInt g5.objs.size) := z8
  have up : ∀ c o, c ≠ z → g5.get? c = some o → g8.get? c = some o := fun c o c1 e => s8.extBut _ _ c1 (s7.extBut _ _ c1 (Heap.get?_push_of_some _ e))
  have t8 : IsPair g8 g5.objs.size x y := s8.extBut _ _ (Nat.ne_of_gt zlt) (s7.extBut _ _ (Nat.ne_of_gt zlt) (Heap.get?_push_size _ rfl))
  have sz8 : g8.objs.size = g5.objs.size + 1 := by rw [s8.1, s7.1, Heap.size_push]
  rw [sz] at z8 t8 sz8
  refine wpAny_pure ⟨_, rfl, ?_⟩
  show Q (.ref g5.objs.size) _
  rw [sz]
  exact hQ g8 z8 (up _ _ D.TOz t5) (b1.at fun o e => up _ o D.i1z e) (b2.at fun o e => up _ o D.i2z e) t8 sz8 fun c o c1 c2 c3 c4 e => up c o c1 (k5 c o c1 c2 c3 c4 e)
theorem zip_none {Q : Fin → Shared → Prop} (hh : A.handled = none) (D : ZipApart z TI TO i1 i2 l1 l2)
    (hz : IsZip s.heap z TI TO .none) (hTI : IsPair s.heap TI (.ref i1) (.ref i2)) (hTO : IsPair s.heap TO a b)
    (h1 : At k s.heap i1 l1 n1) (h2 : At k' s.heap i2 l2 n2) (hl1 : Sq k s.heap l1 xs) (hl2 : Sq k' s.heap l2 ys) (hend : xs[n1]? = none ∨ ys[n2]? = none)
    (hE : ∀ h' e, (∀ c o, c ≠ z → c ≠ TO → c ≠ i1 → c ≠ i2 → s.heap.get? c = some o → h'.get? c = some o) → (∃ o, h'.get? e = some o ∧ o.cls = .type "StopIteration") → E (.ref e) { s with heap := h' }) :
    wpAny (model prog w) A (Builtin.«zip.__next__» ⟨[.ref z], []⟩) Q E s := by
  show wpAny _ _ (field (.ref z) 2 >>= _) _ _ _
  refine wpAny_bind (wpAny_field hz rfl (x := .bool false) rfl ?_)
  show wpAny _ _ (field (.ref z) 3 >>= _) _ _ _
  refine wpAny_bind (wpAny_field hz rfl (x := .ref TI) rfl ?_)
  refine wpAny_bind (wpAny_seqItems hTI rfl ?_)
  show wpAny _ _ (Builtin.SmallTypes.ownedTupleIsFree (.ref z) >>= _) _ _ _
  refine wpAny_bind ?_
  unfold Builtin.SmallTypes.ownedTupleIsFree
  refine wpAny_bind (wpAny_field hz rfl (x := .none) rfl (wpAny_pure ?_))
  simp only [if_true]
  refine wpAny_bind (wpAny_rule ?_)
  refine wpAny_bind (wpAny_field hz rfl (x := .ref TO) rfl ?_)
  refine wpAny_bind (wpAny_setField_rec hz (by simp) fun g1 z1 s1 => ?_)
  replace z1 : IsZip g1 z TI TO .ellipsis := z1
  refine wpAny_bind ?_
  simp only [List.zipIdx_cons, List.zipIdx_nil, List.forIn_cons, List.forIn_nil]
  refine wpAny_bind (wpAny_bind (wpAny_onRaise ?_))
  show wpAny _ _ (Builtin.SmallTypes.nextOf (.ref i1) >>= _) _ _ _
  cases hx : xs[n1]? with
  | none =>
    refine wpAny_bind (next_none hh (h1.ext s1.extBut D.i1z) (hl1.ext s1.extBut D.l1z) hx fun g2 e s2 he => ?_)
    obtain ⟨oe, hoe, hce⟩ := he
    have z2 : IsZip g2 z TI TO .ellipsis := s2 _ _ D.i1z.symm z1
    have hez : e ≠ z := fun q => by subst q; rw [z2] at hoe; cases hoe; simp at hce
    refine wpAny_setField_rec z2 (by simp) fun g3 _ s3 => hE g3 e (fun c o c1 _ c3 _ q => s3.extBut _ _ c1 (s2 _ _ c3 (s1.extBut _ _ c1 q))) ⟨oe, s3.extBut _ _ hez hoe, hce⟩
  | some x =>
    have hy : ys[n2]? = none := by rcases hend with h | h; rw [hx] at h; cases h; exact h
    refine wpAny_bind (next_some (h1.ext s1.extBut D.i1z) (hl1.ext s1.extBut D.l1z) hx fun g2 a2 s2 => wpAny_pure ?_)
    have t2 : IsPair g2 TO a b := s2.extBut _ _ D.TOi1 (s1.extBut _ _ D.TOz hTO)
    refine wpAny_bind (wpAny_seqItems t2 rfl ?_)
    refine wpAny_bind (wpAny_updateSeq_pair t2 fun g3 t3 s3 => ?_)
    refine wpAny_bind (wpAny_letGo (wpAny_pure ?_))
    refine wpAny_bind (wpAny_bind (wpAny_onRaise ?_))
    show wpAny _ _ (Builtin.SmallTypes.nextOf (.ref i2) >>= _) _ _ _
    refine wpAny_bind (next_none hh (((h2.ext s1.extBut D.i2z).ext s2.extBut D.i12.symm).ext s3.extBut D.TOi2.symm)
      (((hl2.ext s1.extBut D.l2z).ext s2.extBut D.l2i1).ext s3.extBut D.l2TO) hy fun g4 e s4 he => ?_)
    obtain ⟨oe, hoe, hce⟩ := he
    have z4 : IsZip g4 z TI TO .ellipsis := s4 _ _ D.i2z.symm (s3.extBut _ _ D.TOz.symm (s2.extBut _ _ D.i1z.symm z1))
    have hez : e ≠ z := fun q => by subst q; rw [z4] at hoe; cases hoe; simp at hce
    refine wpAny_setField_rec z4 (by simp) fun g5 _ s5 => hE g5 e (fun c o c1 c2 c3 c4 q => s5.extBut _ _ c1 (s4 _ _ c4 (s3.extBut _ _ c2 (s2.extBut _ _ c3 (s1.extBut _ _ c1 q))))) ⟨oe, s5.extBut _ _ hez hoe, hce⟩
theorem py_some {Q : Option Value → Shared → Prop} (D : ZipApart z TI TO i1 i2 l1 l2)
    (hz : IsZip s.heap z TI TO .none) (hTI : IsPair s.heap TI (.ref i1) (.ref i2)) (hTO : IsPair s.heap TO a b)
    (h1 : At k s.heap i1 l1 n1) (h2 : At k' s.heap i2 l2 n2) (hl1 : Sq k s.heap l1 xs) (hl2 : Sq k' s.heap l2 ys) (hx : xs[n1]? = some x) (hy : ys[n2]? = some y)
    (hQ : ∀ h', IsZip h' z TI TO (rawInt s.heap.objs.size) → IsPair h' TO x y → At k h' i1 l1 (n1 + 1) → At k' h' i2 l2 (n2 + 1) → IsPair h' s.heap.objs.size x y → h'.objs.size = s.heap.objs.size + 1 →
      (∀ c o, c ≠ z → c ≠ TO → c ≠ i1 → c ≠ i2 → s.heap.get? c = some o → h'.get? c = some o) → Q (some (.ref s.heap.objs.size)) { s with heap := h' }) :
    wpAny (model prog w) A (pyNext (.ref z)) Q E s := by
  have hT : s.TypeIs (.ref z) "zip" := ⟨_, hz, rfl⟩
  unfold pyNext
  exact wpAny_bind (wpAny_attempt (wpAny_callSpecial?_slot (name := Str.ofString "__next__") hT F.slot_zip_next
    (wpAny_call_entry F.slot_zip_next hT F.entry_zip_next
      (zip_some D hz hTI hTO h1 h2 hl1 hl2 hx hy fun h' a1 a2 a3 a4 a5 a6 a7 => wpAny_pure (hQ h' a1 a2 a3 a4 a5 a6 a7)) (F.args_zip_next_1 _))))
theorem py_none {Q : Option Value → Shared → Prop} (hh : A.handled = none) (D : ZipApart z TI TO i1 i2 l1 l2)
    (hz : IsZip s.heap z TI TO .none) (hTI : IsPair s.heap TI (.ref i1) (.ref i2)) (hTO : IsPair s.heap TO a b)
    (h1 : At k s.heap i1 l1 n1) (h2 : At k' s.heap i2 l2 n2) (hl1 : Sq k s.heap l1 xs) (hl2 : Sq k' s.heap l2 ys) (hend : xs[n1]? = none ∨ ys[n2]? = none)
    (hQ : ∀ h', (∀ c o, c ≠ z → c ≠ TO → c ≠ i1 → c ≠ i2 → s.heap.get? c = some o → h'.get? c = some o) → Q none { s with heap := h' }) : wpAny (model prog w) A (pyNext (.ref z)) Q E s := by
  have hT : s.TypeIs (.ref z) "zip" := ⟨_, hz, rfl⟩
  unfold pyNext
  refine wpAny_bind (wpAny_attempt (wpAny_callSpecial?_slot (name := Str.ofString "__next__") hT F.slot_zip_next
    (wpAny_call_entry F.slot_zip_next hT F.entry_zip_next (zip_none hh D hz hTI hTO h1 h2 hl1 hl2 hend fun h' e hk he => ?_) (F.args_zip_next_1 _))))
  obtain ⟨o, ho, hc⟩ := he
  refine wpAny_bind (wpAny_isInstance (T := "StopIteration") (b := true) ⟨o, ho, hc⟩ isSubtype_stop ?_)
  exact wpAny_pure (hQ _ hk)
end
/-! the call of zip -/
def itNm (k : Bool) : String := if k then "tuple_iterator" else "list_iterator"
def itOb (k : Bool) (l : Addr) : Obj := { cls := .type (itNm k), data := .fields #[.ref l, .int 0 0] }
theorem itOb_at {k : Bool} {h : Heap} {it l : Addr} (e : h.get? it = some (itOb k l)) : At k h it l 0 := by
  cases k with
  | true => exact ⟨_, e, rfl, rfl⟩
  | false => exact ⟨_, e, rfl, rfl⟩
abbrev Z1 (k : Bool) (h : Heap) (l1 : Addr) : Heap := h.push (itOb k l1)
abbrev Z2 (k k' : Bool) (h : Heap) (l1 l2 : Addr) : Heap := (Z1 k h l1).push (itOb k' l2)
abbrev Z3 (k k' : Bool) (h : Heap) (l1 l2 : Addr) : Heap := (Z2 k k' h l1 l2).push { cls := .type "tuple", data := .seq #[.ref h.objs.size, .ref (Z1 k h l1).objs.size] }
abbrev Z4 (k k' : Bool) (h : Heap) (l1 l2 : Addr) : Heap := (Z3 k k' h l1 l2).push { cls := .type "tuple", data := .seq #[.none, .none] }
abbrev Z5 (k k' : Bool) (h : Heap) (l1 l2 : Addr) : Heap := (Z4 k k' h l1 l2).push { cls := .type "zip", data := .fields #[.none, .bool false, .bool false, .ref (Z2 k k' h l1 l2).objs.size, .ref (Z3 k k' h l1 l2).objs.size] }
theorem new_meets (k k' : Bool) (l1 l2 : Addr) (xs ys : Array Value) :
    Meets (Builtin.«zip.__new__» ⟨[.type "zip", .ref l1, .ref l2], []⟩) (fun _ R s => Sq k s.heap l1 xs ∧ Sq k' s.heap l2 ys ∧
      R (.ok (.ret (.ref (Z4 k k' s.heap l1 l2).objs.size))) { s with heap := Z5 k k' s.heap l1 l2 }) :=
  .of_wp fun prog w A R s h => by
    obtain ⟨hp, g, d, tk, os⟩ := s; obtain ⟨hl1, hl2, h⟩ := h
    have hsub := sub_zip
    cases k with
    | true =>
      have q1 : Heap.IsTuple (Shared.heap ⟨hp, g, d, tk, os⟩) l1 xs := hl1
      cases k' with
      | true =>
        have q2 : Heap.IsTuple (Shared.heap ⟨hp.push { cls := .type "tuple_iterator", data := .fields #[.ref l1, .int 0 0] }, g, d, tk, os⟩) l2 ys := Heap.IsTuple.push hl2 _
        wp_walk using wpAny_pyIter_tuple q1, wpAny_pyIter_tuple q2
        exact ⟨_, rfl, h⟩
      | false =>
        have q2 : Heap.IsList (Shared.heap ⟨hp.push { cls := .type "tuple_iterator", data := .fields #[.ref l1, .int 0 0] }, g, d, tk, os⟩) l2 ys := Heap.IsList.push hl2 _
        wp_walk using wpAny_pyIter_tuple q1, wpAny_pyIter_list q2
        exact ⟨_, rfl, h⟩
    | false =>
      have q1 : Heap.IsList (Shared.heap ⟨hp, g, d, tk, os⟩) l1 xs := hl1
      cases k' with
      | true =>
        have q2 : Heap.IsTuple (Shared.heap ⟨hp.push { cls := .type "list_iterator", data := .fields #[.ref l1, .int 0 0] }, g, d, tk, os⟩) l2 ys := Heap.IsTuple.push hl2 _
        wp_walk using wpAny_pyIter_list q1, wpAny_pyIter_tuple q2
        exact ⟨_, rfl, h⟩
      | false =>
        have q2 : Heap.IsList (Shared.heap ⟨hp.push { cls := .type "list_iterator", data := .fields #[.ref l1, .int 0 0] }, g, d, tk, os⟩) l2 ys := Heap.IsList.push hl2 _
        wp_walk using wpAny_pyIter_list q1, wpAny_pyIter_list q2
        exact ⟨_, rfl, h⟩
section
variable {prog : Program} {w : World} {A : Around} {E : Value → Shared → Prop} {s : Shared}
theorem call_zip {k k' : Bool} {l1 l2 : Addr} {xs ys : Array Value} {Q : Value → Shared → Prop} (hl1 : Sq k s.heap l1 xs) (hl2 : Sq k' s.heap l2 ys)
    (h : ∀ h', IsZip h' (s.heap.objs.size + 4) (s.heap.objs.size + 2) (s.heap.objs.size + 3) .none → IsPair h' (s.heap.objs.size + 2) (.ref s.heap.objs.size) (.ref (s.heap.objs.size + 1)) →
      IsPair h' (s.heap.objs.size + 3) .none .none → At k h' s.heap.objs.size l1 0 → At k' h' (s.heap.objs.size + 1) l2 0 → h'.objs.size = s.heap.objs.size + 5 →
      (∀ c o, s.heap.get? c = some o → h'.get? c = some o) → Q (.ref (s.heap.objs.size + 4)) { s with heap := h' }) :
    wpAny (model prog w) A (call (.type "zip") [.ref l1, .ref l2]) Q E s := by
  refine callType_new F.called_zip (by decide) (F.typeCall_zip_2 _ _) (F.newCall_zip_2 _ _) (fun obj => F.args_object_init_3 obj _ _) F.entry_zip_new
    (new_meets k k' l1 l2 xs ys) ⟨hl1, hl2, ?_⟩
  have z1 : (Z1 k s.heap l1).objs.size = s.heap.objs.size + 1 := Heap.size_push ..
  have z2 : (Z2 k k' s.heap l1 l2).objs.size = s.heap.objs.size + 2 := by rw [Heap.size_push, z1]
  have z3 : (Z3 k k' s.heap l1 l2).objs.size = s.heap.objs.size + 3 := by rw [Heap.size_push, z2]
  have z4 : (Z4 k k' s.heap l1 l2).objs.size = s.heap.objs.size + 4 := by rw [Heap.size_push, z3]
  have z5 : (Z5 k k' s.heap l1 l2).objs.size = s.heap.objs.size + 5 := by rw [Heap.size_push, z4]
  have g5 : (Z5 k k' s.heap l1 l2).get? (Z4 k k' s.heap l1 l2).objs.size = some _ := Heap.get?_push_size _ rfl
  have g4 : (Z5 k k' s.heap l1 l2).get? (Z3 k k' s.heap l1 l2).objs.size = some _ := Heap.get?_push_of_some _ (Heap.get?_push_size _ rfl)
  have g3 : (Z5 k k' s.heap l1 l2).get? (Z2 k k' s.heap l1 l2).objs.size = some _ := Heap.get?_push_of_some _ (Heap.get?_push_of_some _ (Heap.get?_push_size _ rfl))
  have g2 : (Z5 k k' s.heap l1 l2).get? (Z1 k s.heap l1).objs.size = some (itOb k' l2) := Heap.get?_push_of_some _ (Heap.get?_push_of_some _ (Heap.get?_push_of_some _ (Heap.get?_push_size _ rfl)))
  have g1 : (Z5 k k' s.heap l1 l2).get? s.heap.objs.size = some (itOb k l1) := Heap.get?_push_of_some _ (Heap.get?_push_of_some _ (Heap.get?_push_of_some _ (Heap.get?_push_of_some _ (Heap.get?_push_size _ rfl))))
  show _ ∧ _
  rw [z2, z3, z4] at g5
  rw [z1, z2] at g3
  rw [z3] at g4
  rw [z1] at g2
  rw [z4]
  exact ⟨⟨_, g5, rfl⟩, h _ g5 g3 g4 (itOb_at g1) (itOb_at g2) z5 fun c o x =>
    Heap.get?_push_of_some _ (Heap.get?_push_of_some _ (Heap.get?_push_of_some _ (Heap.get?_push_of_some _ (Heap.get?_push_of_some _ x))))⟩
end
/-! the walk over a zip -/
def SqV (k : Bool) (K : PySem.W.Frag) (H : Hp) (a : Addr) (xs : List V) : Prop := if k then SqT K H a xs else SqL K H a xs
theorem SqV.get {k : Bool} {X : Cx} {pins : List (Addr × Obj)} {σ : L2.St} {H : Hp} {s : Shared} (I : Inv X pins σ H s) {a : Addr} {xs : List V} (q : SqV k X.K H a xs) :
    ∃ its : List Value, Vals xs its ∧ Sq k s.heap a its.toArray ∧ a < s.heap.objs.size := by
  cases k with
  | true =>
    obtain ⟨its, rv, p, _⟩ := I.tuple (show SqT X.K H a xs from q)
    obtain ⟨o, e, _⟩ := id p
    exact ⟨its, rv, p, Heap.lt_size e⟩
  | false =>
    obtain ⟨its, rv, p, _⟩ := I.list (show SqL X.K H a xs from q)
    exact ⟨its, rv, p.isList, p.lt⟩
theorem SqV.inj {k : Bool} {X : Cx} {pins : List (Addr × Obj)} {σ : L2.St} {H : Hp} {s : Shared} (I : Inv X pins σ H s) {a : Addr} {xs ys : List V} (q : SqV k X.K H a xs) (r : SqV k X.K H a ys) : xs = ys := by
  cases k with
  | true => exact I.tuple_inj q r
  | false => exact I.list_inj q r
def ItZ (k k' : Bool) (K : PySem.W.Frag) (a b : Addr) : It :=
  ⟨fun i H => ∃ (xs ys : List V) (x y : V), SqV k K H a xs ∧ SqV k' K H b ys ∧ xs[i]? = some x ∧ ys[i]? = some y,
    fun i H v H' => ∃ T x y, v = .ref T ∧ H T = none ∧ H' = upd H T (.tup [x, y]) ∧ (∀ xs, SqV k K H a xs → xs[i]? = some x) ∧ ∀ ys, SqV k' K H b ys → ys[i]? = some y,
    fun i H => ∃ xs ys : List V, SqV k K H a xs ∧ SqV k' K H b ys ∧ (xs.length ≤ i ∨ ys.length ≤ i)⟩
theorem turn_zip {P : Program} {w : World} {K : PySem.W.Frag} {k k' : Bool} {elts : List Expr} {kk : Nat} {tpos : Pos} {a b z TI TO i1 i2 : Addr} (D : ZipApart z TI TO i1 i2 a b) :
    Turn P w K (.Tuple elts kk tpos) (ItZ k k' K a b) [z, TI, TO, i1, i2] z (fun i h => IsZip h z TI TO .none ∧ IsPair h TI (.ref i1) (.ref i2) ∧ (∃ x y, IsPair h TO x y) ∧ At k h i1 a i ∧ At k' h i2 b i) where
  mem := by simp
  obj := fun i h st c hc => by
    obtain ⟨hz, hTI, ⟨x, y, hTO⟩, h1, h2⟩ := st
    simp only [List.mem_cons, List.not_mem_nil, or_false] at hc
    rcases hc with q | q | q | q | q
    · rw [q]; exact ⟨_, hz, fun v q => nomatch q⟩
    · rw [q]; exact ⟨_, hTI, fun v q => nomatch q⟩
    · rw [q]; exact ⟨_, hTO, fun v q => nomatch q⟩
    · rw [q]; exact h1.ob
    · rw [q]; exact h2.ob
  keep := fun i h h' st kp => by
    obtain ⟨hz, hTI, ⟨x, y, hTO⟩, h1, h2⟩ := st
    exact ⟨kp z (by simp) _ hz, kp TI (by simp) _ hTI, ⟨x, y, kp TO (by simp) _ hTO⟩, h1.at fun o q => kp i1 (by simp) o q, h2.at fun o q => kp i2 (by simp) o q⟩
  item := by
    intro X hP hw hK hc i pins s σ H E I hf st hg
    subst hP hw hK
    obtain ⟨hz, hTI, ⟨x0, y0, hTO⟩, h1, h2⟩ := st
    obtain ⟨xs, ys, x, y, hqx, hqy, hx, hy⟩ := hg
    obtain ⟨its, rv, p, _⟩ := hqx.get I
    obtain ⟨its2, rv2, p2, _⟩ := hqy.get I
    obtain ⟨u, hu, ru⟩ := rv.get hx
    obtain ⟨u2, hu2, ru2⟩ := rv2.get hy
    have hzl : z < s.heap.objs.size := Heap.lt_size hz
    have lt : ∀ c, c ∈ [z, TI, TO, i1, i2] → c < s.heap.objs.size := fun c hcm => by
      simp only [List.mem_cons, List.not_mem_nil, or_false] at hcm
      rcases hcm with q | q | q | q | q
      · rw [q]; exact hzl
      · rw [q]; exact Heap.lt_size hTI
      · rw [q]; exact Heap.lt_size hTO
      · rw [q]; obtain ⟨_, e1, _⟩ := h1.ob; exact Heap.lt_size e1
      · rw [q]; obtain ⟨_, e2, _⟩ := h2.ob; exact Heap.lt_size e2
    refine py_some D hz hTI hTO h1 h2 p p2 (x := u) (y := u2) (by simpa using hu) (by simpa using hu2) fun h' z' TO' h1' h2' hT hsz hk => ?_
    refine ⟨_, rfl, wpAny_letOwnedTupleGo_zip (s := { s with heap := h' }) z' fun h'' z'' sb => ?_⟩
    have hT2 : h''.get? s.heap.objs.size = some { cls := .type "tuple", data := .seq #[u, u2] } := (sb.2 _ (Nat.ne_of_gt hzl)).trans hT
    have new : ObjOk X.prog X.w (upd H s.heap.objs.size (.tup [x, y])) h'' s.heap.objs.size (.tup [x, y]) :=
      ⟨by show 2 ≤ sizeLine; decide, [u, u2], .cons ru (.cons ru2 .nil), ⟨_, hT2, rfl, _, rfl⟩⟩
    have I1 : Inv X pins σ (upd H s.heap.objs.size (.tup [x, y])) { s with heap := h'' } :=
      I.turnedNew (t' := s.toks) (ch := [z, TI, TO, i1, i2]) (fun c o hb q => (sb.2 c (fun q' => hb (by simp [q']))).trans (hk c o (fun q' => hb (by simp [q'])) (fun q' => hb (by simp [q'])) (fun q' => hb (by simp [q'])) (fun q' => hb (by simp [q'])) q)) hf (Nat.le_refl _) new
    refine ⟨.ref s.heap.objs.size, _, I1, rfl, ⟨_, x, y, rfl, I.hok.fresh (Nat.le_refl _), rfl, fun l hl => by rw [hl.inj I hqx]; exact hx, fun l hl => by rw [hl.inj I hqy]; exact hy⟩, ⟨z'', ?_, ⟨u, u2, ?_⟩, ?_, ?_⟩, fun c hcm => ?_⟩
    · exact (sb.2 _ D.TIz).trans (hk _ _ D.TIz D.TITO D.TIi1 D.TIi2 hTI)
    · exact (sb.2 _ D.TOz).trans TO'
    · exact h1'.at fun o q => (sb.2 _ D.i1z).trans q
    · exact h2'.at fun o q => (sb.2 _ D.i2z).trans q
    · rw [upd_ne (Nat.ne_of_lt (lt c hcm))]
      exact (hf c hcm).1
  done := by
    intro X hP hw hK hc i pins s σ H E I hf st hg
    subst hP hw hK
    obtain ⟨hz, hTI, ⟨x0, y0, hTO⟩, h1, h2⟩ := st
    obtain ⟨xs, ys, hqx, hqy, hend⟩ := hg
    obtain ⟨its, rv, p, _⟩ := hqx.get I
    obtain ⟨its2, rv2, p2, _⟩ := hqy.get I
    have l1 := rv.length
    have l2 := rv2.length
    have he : its.toArray[i]? = none ∨ its2.toArray[i]? = none := by
      rcases hend with q | q
      · exact .inl (by simp; omega)
      · exact .inr (by simp; omega)
    exact py_none (I.ok.hd hc) D hz hTI hTO h1 h2 p p2 he fun h' hk => ⟨rfl, I.turnedL (t' := s.toks) (ch := [z, TI, TO, i1, i2]) (fun c o hb q =>
      hk c o (fun q' => hb (by simp [q'])) (fun q' => hb (by simp [q'])) (fun q' => hb (by simp [q'])) (fun q' => hb (by simp [q'])) q) hf⟩
  self := fun A i s Q E st h => wpAny_pyIter_zip st.1 h
def iZipV (K : PySem.W.Frag) (ta : TA) : TI := fun σ H R => ta σ H fun vs H1 => ∃ k k' a b xs ys, vs = [.ref a, .ref b] ∧ SqV k K H1 a xs ∧ SqV k' K H1 b ys ∧ R (ItZ k k' K a b) H1
theorem pi_zipV {X : Cx} {e e2 : Expr} {ta : TA} {p pos tpos : Pos} {elts : List Expr} {kk : Nat} (hg : Gl X "zip") (hm : X.mg "zip" = none) (ha : PA X [e, e2] ta)
    (hs : starEach [e, e2] X.env = (false, eval e X.env) :: starEach [e2] X.env := by rfl) (hpl : (backTo pos (starEach [e2] X.env)).any (·.1) = false := by rfl) :
    PI X (.Tuple elts kk tpos) (.Call (.Name "zip" p) [e, e2] [] pos) (iZipV X.K ta) := by
  constructor
  intro pins s σ H R I h
  refine Call_ (ld_blt I hg hm PyProof.Rows.boot_zip (PyProof.Rows.callWith_type1 (thn (ha.run pos pins s σ H _ I h) fun us s1 ⟨vs, H1, I1, r1, q1⟩ => ?_) hs hpl))
  obtain ⟨k, k', a, b, xs, ys, ex, hqx, hqy, q⟩ := q1
  subst ex
  cases r1 with | cons r rr => cases rr with | cons r' rr =>
    cases rr
    cases r
    cases r'
    have fresh : ∀ c, s1.heap.objs.size ≤ c → FpOk X pins H1 c := fun c le => I1.fpOk le (I1.hok.fresh le)
    obtain ⟨its, rv, p1, lt1⟩ := hqx.get I1
    obtain ⟨its2, rv2, p2, lt2⟩ := hqy.get I1
    refine call_zip p1 p2 fun h' hz hTI hTO h1 h2 hsz hk => wpAny_pyIter_zip hz ?_
    have I2 : Inv X pins σ H1 { s1 with heap := h' } := I1.kept (t' := s1.toks) hk
    refine ⟨s1.heap.objs.size + 4, [s1.heap.objs.size + 4, s1.heap.objs.size + 2, s1.heap.objs.size + 3, s1.heap.objs.size, s1.heap.objs.size + 1], _, _, H1, rfl, I2, turn_zip (PySem.W.ktu_apart s1.heap.objs.size a b lt1 lt2), ⟨hz, hTI, ⟨_, _, hTO⟩, h1, h2⟩, fun c hc => fresh c ?_, q⟩
    simp only [List.mem_cons, List.not_mem_nil, or_false] at hc
    rcases hc with q | q | q | q | q
    · rw [q]; exact Nat.le_add_right _ _
    · rw [q]; exact Nat.le_add_right _ _
    · rw [q]; exact Nat.le_add_right _ _
    · rw [q]; exact Nat.le_refl _
    · rw [q]; exact Nat.le_add_right _ _
end ZX
set_option linter.all false
set_option maxRecDepth 100000
set_option maxHeartbeats 1000000
namespace SV
open PySem PySem.Spec PyProof.Rows L2 NB RZ

section
variable {X : Cx} {W : WX} {a b c e tg : Expr} {es : List Expr} {fa fb fc fe : FE} {pos : Pos}
/-! ### a local name that holds one of several defs -/
structure Tbl (P : Program) (w : World) (K : PySem.W.Frag) (mg : Str → Option Value) (base : Heap) (k n : Nat) (tbl : List (Addr × FN)) : Prop where
  h : ∀ (f : Addr) (fn : FN), tbl.lookup f = some fn → Held P w K mg base k f (spOf K n fn)
def fCallL (i : Nat) (tbl : List (Addr × FN)) (a : FA) : FE := fun E S => match E[i]? with
  | some (some (.glb (.ref f))) => match tbl.lookup f with
    | some fn => (a E S).bind fun ds S1 => match fn ds S1 with
      | .ok d S2 => .ok d S2
      | _ => .bad
    | none => .bad
  | _ => .bad
theorem re_callL {i k n : Nat} {x : Str} {tbl : List (Addr × FN)} {f : FA} {p : Pos} (T : Tbl X.prog X.w X.K X.mg X.base k n tbl) (hr : Room k X.A) (hN : X.N[i]? = some x) (hv : Vis X.env.scope x) (ha : RA X W (e :: es) f) (hl : ALen f n)
    (hdb : (x == ("__debug__" : Str)) = false := by decide) (hcd : (x == ("__classdict__" : Str)) = false := by decide)
    (he : starEach (e :: es) X.env = (false, eval e X.env) :: starEach es X.env := by rfl) (hpl : (backTo pos (starEach es X.env)).any (·.1) = false := by rfl) : RE X W (.Call (.Name x p) (e :: es) [] pos) (fCallL i tbl f) :=
  PE.wk (pe_callA (S := fun f => (tbl.lookup f).map (spOf X.K n)) (fun f sp q => by
      obtain ⟨fn, e1, rfl⟩ := Option.map_eq_some_iff.mp q
      exact T.h f fn e1) hr hN hv ha hdb hcd he hpl) fun σ H Q ⟨w, E, S, hE, hS, hP⟩ => by
    unfold fCallL at hP
    split at hP
    · rename_i g eg
      split at hP
      · rename_i fn efn
        obtain ⟨v, h1, h2⟩ := hE.get eg
        cases h2
        refine ⟨g, _, h1, by show Option.map _ (List.lookup g tbl) = _; rw [efn]; rfl, w, E, S, hE, hS, ?_⟩
        cases hfa : f E S with
        | bad => rw [hfa] at hP; exact hP.elim
        | exc _ _ _ => rw [hfa] at hP; exact hP
        | ok ds S1 =>
          have hq := Post.bind hP
          rw [hfa] at hq
          intro H1 w1 e1 s1 vs rv
          have q := hq H1 w1 e1 s1
          refine ⟨by rw [rv.len]; exact hl.h hfa, w1, ds, S1, rv, s1, ?_⟩
          cases hfn : fn ds S1 with
          | bad => simp only [hfn] at q; exact q.elim
          | exc _ _ _ => simp only [hfn] at q; exact q.elim
          | ok d S2 => simp only [hfn] at q; exact q
      · exact hP.elim
    · exact hP.elim
/-! ### name = [..] on one line -/
theorem rs_setLc {i : Nat} {y : Str} {py : Pos} {elt tg iter : Expr} {ifs : List Expr} {scope : Scope} {own : List (Str × Nat)} {pos spos : Pos} {fz : Bool} {it : FI} {t : Tgt} {ts : FT} {te : FE} (hc : X.calm = true) (hN : X.N.Nodup) (hy : X.N[i]? = some y) (hyl : X.env.scope.names.lookup y = some .local)
    (hsw : swapsWith (.ListComp elt [⟨tg, iter, ifs, 0⟩] scope pos) (some (.Name y py)) spos.line X.env = pure true) (hi : RI X W tg iter it) (ok : BlkOk X.N X.env.scope scope own) (ht : ∀ i ∈ t.slots, i ∈ own.map (·.2))
    (hg : ∀ (s : Shared) (H : Hp) (C : Addr) (cl : List (Str × Addr)) (fp : List Addr), PG (X.blk s H scope (compEnvC scope cl C X.env) fp) tg (t.tg X.K)) (hts : ∀ (s : Shared) (H : Hp) (C : Addr) (cl : List (Str × Addr)) (fp : List Addr), RTs (X.blk s H scope (compEnvC scope cl C X.env) fp) noW ifs ts)
    (he : ∀ (s : Shared) (H : Hp) (C : Addr) (cl : List (Str × Addr)) (fp : List Addr), RE (X.blk s H scope (compEnvC scope cl C X.env) fp) noW elt te) (hs : ∀ x, foldedSetIterable iter X.env x = pure x := by intro _; rfl) :
    RS X W (.Assign [.Name y py] (.ListComp elt [⟨tg, iter, ifs, 0⟩] scope pos) spos) (fSet i (fLc fz it t (own.map (·.2)) ts te)) :=
  PS.wk (ps_setLc (te := teOf X.K noW te) (tt := ttOf X.K noW ts) (g := t.tg X.K) hc hN hy hyl hsw hi ok hg hts he hs) fun D_ σ H ⟨w, E, S, hE, hS, hP⟩ =>
    lc_sound (K := X.K) (W := W) ht ⟨w, E, S, hE, hS, Post.imp (Post.bind hP) fun d S1 H1 w1 e1 s1 q v rv => flq_same (D_ := D_) q s1 _ ((hE.ext e1).set rv i)⟩
/-! ### enumerate, zip -/
def wkPairs (f : Nat → D → D → D) : Nat → List D → List D → List D
  | i, x :: xs, y :: ys => f i x y :: wkPairs f (i + 1) xs ys
  | _, _, _ => []
def enumD (ds : List D) : List D := wkPairs (fun i x _ => mkT [.p (.int (i : Nat)), x]) 0 ds ds
def zipD (ds es : List D) : List D := wkPairs (fun _ x y => mkT [x, y]) 0 ds es
theorem wkPairs_get {f : Nat → D → D → D} : ∀ {xs ys : List D} {k i : Nat}, (wkPairs f k xs ys)[i]? = match xs[i]?, ys[i]? with
    | some x, some y => some (f (k + i) x y)
    | _, _ => none
  | [], _, _, i => by simp [wkPairs]
  | _ :: _, [], _, i => by simp only [wkPairs, List.getElem?_nil]; split <;> simp_all
  | x :: xs, y :: ys, k, 0 => by simp [wkPairs]
  | x :: xs, y :: ys, k, i + 1 => by
    simp only [wkPairs, List.getElem?_cons_succ]
    rw [wkPairs_get]
    rw [show k + 1 + i = k + (i + 1) by omega]
/-- a tuple or a list that stays -/
def stay (d : D) : Option (Bool × List D) := match d with
  | .p (.tuple xs) => some (true, xs.map .p)
  | .tup ds => some (true, ds)
  | .p (.list xs) => some (false, xs.map .p)
  | _ => none
def wkEnum (ds : List D) (S : Sto) : R Wk := match ds with
  | [x] => match stay x with
    | some (_, es) => .ok (.fix (enumD es)) S
    | none => .bad
  | _ => .bad
def wkZip (ds : List D) (S : Sto) : R Wk := match ds with
  | [x, y] => match stay x, stay y with
    | some (_, es), some (_, es') => .ok (.fix (zipD es es')) S
    | _, _ => .bad
  | _ => .bad
def fEnum (a : FA) : FI := fun E S => (a E S).bind wkEnum
def fZip (a : FA) : FI := fun E S => (a E S).bind wkZip
section
variable {K : PySem.W.Frag} {H H' : Hp} {w : Vw} {p : Addr} {v : V} {vs : List V} {d : D} {ds : List D} {S : Sto}
theorem stay_ok {k : Bool} (r : Rep K H w v d) (h : stay d = some (k, ds)) : ∃ a vs, v = .ref a ∧ Reps K H w vs ds ∧ ((k = true ∧ SqT K H a vs) ∨ (k = false ∧ Fz H w a vs)) := by
  unfold stay at h
  split at h
  · cases h; cases r with | p r => cases r with | tup f r => exact ⟨_, _, rfl, r.reps, .inl ⟨rfl, f⟩⟩
  · cases h; cases r with | tup f r => exact ⟨_, _, rfl, r, .inl ⟨rfl, f⟩⟩
  · cases h; cases r with | p r => cases r with | lst f r => exact ⟨_, _, rfl, r.reps, .inr ⟨rfl, f⟩⟩
  · cases h
theorem new_item {J2 : Hp} {T : Addr} {us : List V} {es : List D} (s : StR K H w S) (hT : H T = none) (e : J2 = upd H T (.tup us)) (r : Reps K H w us es) : Ext K H w J2 w ∧ StR K J2 w S ∧ Rep K J2 w (.ref T) (mkT es) := by
  subst e
  exact ⟨Ext.new hT, s.new hT, rep_tup (SqT.of upd_same) (r.ext (Ext.new hT))⟩
theorem enum_none {ds : List D} {i : Nat} (h : (enumD ds)[i]? = none) : ds[i]? = none := by
  unfold enumD at h
  rw [wkPairs_get] at h
  cases e : ds[i]? with
  | none => rfl
  | some x => rw [e] at h; cases h
theorem enum_some {ds : List D} {i : Nat} {d : D} (h : (enumD ds)[i]? = some d) : ∃ x, ds[i]? = some x ∧ d = mkT [.p (.int (i : Nat)), x] := by
  unfold enumD at h
  rw [wkPairs_get] at h
  cases e : ds[i]? with
  | none => rw [e] at h; cases h
  | some x => rw [e] at h; exact ⟨x, rfl, by rw [← Option.some.inj h, Nat.zero_add]⟩
theorem wkr_enumT {a : Addr} (h : SqT K H a vs) (r : Reps K H w vs ds) : WkR K H w (.fix (enumD ds)) (Iet K a) :=
  ⟨fun H' w' S' e s i q => ⟨vs, e.t _ _ h, r.none_of (enum_none (Option.some.inj q))⟩, fun H' w' S' e s i d q => by
    obtain ⟨x, hx, rfl⟩ := enum_some (Option.some.inj q)
    obtain ⟨v, h1, h2⟩ := r.get hx
    refine ⟨⟨vs, v, e.t _ _ h, h1⟩, fun v' H2 y => ?_⟩
    obtain ⟨T, x', rfl, hT, e2, y⟩ := y
    have := y vs (e.t _ _ h)
    rw [h1] at this
    obtain rfl := Option.some.inj this
    exact new_item s hT e2 (.cons (.p (.int _)) (.cons (h2.extW e) .nil))⟩
theorem wkr_enumL {a : Addr} (h : Fz H w a vs) (r : Reps K H w vs ds) : WkR K H w (.fix (enumD ds)) (Ite K a) :=
  ⟨fun H' w' S' e s i q => ⟨vs, (h.ext e).sq, r.none_of (enum_none (Option.some.inj q))⟩, fun H' w' S' e s i d q => by
    obtain ⟨x, hx, rfl⟩ := enum_some (Option.some.inj q)
    obtain ⟨v, h1, h2⟩ := r.get hx
    refine ⟨⟨vs, v, (h.ext e).sq, h1⟩, fun v' H2 y => ?_⟩
    obtain ⟨T, x', rfl, hT, e2, y⟩ := y
    have := y vs (h.ext e).sq
    rw [h1] at this
    obtain rfl := Option.some.inj this
    exact new_item s hT e2 (.cons (.p (.int _)) (.cons (h2.extW e) .nil))⟩
theorem zip_none {ds es : List D} {i : Nat} (h : (zipD ds es)[i]? = none) : ds[i]? = none ∨ es[i]? = none := by
  unfold zipD at h
  rw [wkPairs_get] at h
  cases e : ds[i]? with
  | none => exact .inl rfl
  | some x =>
    cases e' : es[i]? with
    | none => exact .inr rfl
    | some y => rw [e, e'] at h; cases h
theorem zip_some {ds es : List D} {i : Nat} {d : D} (h : (zipD ds es)[i]? = some d) : ∃ x y, ds[i]? = some x ∧ es[i]? = some y ∧ d = mkT [x, y] := by
  unfold zipD at h
  rw [wkPairs_get] at h
  cases e : ds[i]? with
  | none => rw [e] at h; cases h
  | some x =>
    cases e' : es[i]? with
    | none => rw [e, e'] at h; cases h
    | some y => rw [e, e'] at h; exact ⟨x, y, rfl, rfl, (Option.some.inj h).symm⟩
/-- a tuple, or a list that stays -/
def Stays (k : Bool) (K : PySem.W.Frag) (H : Hp) (w : Vw) (a : Addr) (vs : List V) : Prop := (k = true ∧ SqT K H a vs) ∨ (k = false ∧ Fz H w a vs)
theorem Stays.ve {k : Bool} {a : Addr} (h : Stays k K H w a vs) {H' : Hp} {w' : Vw} (e : ExtW K H w H' w') : ZX.SqV k K H' a vs := by
  rcases h with ⟨rfl, h⟩ | ⟨rfl, h⟩
  · exact e.t _ _ h
  · exact (h.ext e).sq
theorem Stays.vz {k : Bool} {a : Addr} (h : Stays k K H w a vs) : ZX.SqV k K H a vs := by
  rcases h with ⟨rfl, h⟩ | ⟨rfl, h⟩
  · exact h
  · exact h.sq
theorem wkr_zip {k k' : Bool} {a b : Addr} {us : List V} {es : List D} (h : Stays k K H w a vs) (h' : Stays k' K H w b us) (r : Reps K H w vs ds) (r' : Reps K H w us es) : WkR K H w (.fix (zipD ds es)) (ZX.ItZ k k' K a b) :=
  ⟨fun H' w' S' e s i q => ⟨vs, us, h.ve e, h'.ve e, (zip_none (Option.some.inj q)).imp r.none_of r'.none_of⟩, fun H' w' S' e s i d q => by
    obtain ⟨x, y, hx, hy, rfl⟩ := zip_some (Option.some.inj q)
    obtain ⟨v, h1, h2⟩ := r.get hx
    obtain ⟨v2, h3, h4⟩ := r'.get hy
    refine ⟨⟨vs, us, v, v2, h.ve e, h'.ve e, h1, h3⟩, fun v' H2 z => ?_⟩
    obtain ⟨T, x', y', rfl, hT, e2, z1, z2⟩ := z
    have t1 := z1 vs (h.ve e)
    rw [h1] at t1
    obtain rfl := Option.some.inj t1
    have t2 := z2 us (h'.ve e)
    rw [h3] at t2
    obtain rfl := Option.some.inj t2
    exact new_item s hT e2 (.cons (h2.extW e) (.cons (h4.extW e) .nil))⟩
end
def iEnumA (K : PySem.W.Frag) (ta : TA) : TI := fun σ H R => ta σ H fun vs H1 => ∃ a xs, vs = [.ref a] ∧ ((SqL K H1 a xs ∧ R (Ite K a) H1) ∨ (SqT K H1 a xs ∧ R (Iet K a) H1))
theorem pi_enumA {ta : TA} {p pos tpos : Pos} {elts : List Expr} {kk : Nat} (hg : Gl X "enumerate") (hm : X.mg "enumerate" = none) (ha : PA X [e] ta) (hs : starEach [e] X.env = [(false, eval e X.env)] := by rfl) :
    PI X (.Tuple elts kk tpos) (.Call (.Name "enumerate" p) [e] [] pos) (iEnumA X.K ta) := by
  refine ⟨fun pins s σ H R I h => ?_⟩
  refine Call_ (ld_blt I hg hm boot_enumerate (PyProof.Rows.callWith_type1 (thn (ha.run pos pins s σ H _ I h) fun us s1 hq => ?_) hs rfl))
  obtain ⟨vs, H1, I1, r1, a, xs, rfl, hq⟩ := hq
  obtain ⟨u, rfl, rx⟩ := vals1 r1
  obtain rfl : u = Value.ref a := rx
  rcases hq with ⟨hx, q⟩ | ⟨hx, q⟩
  · obtain ⟨its, rv, p', hz⟩ := I1.list hx
    refine call_enumerate_list p'.isList fun h' he hit hsz hk => wpAny_pyIter_enum he ?_
    have I2 : Inv X pins σ H1 { s1 with heap := h' } := I1.kept (t' := s1.toks) hk
    refine ⟨s1.heap.objs.size + 1, [s1.heap.objs.size + 1, s1.heap.objs.size], _, _, H1, rfl, I2, turn_enum a (s1.heap.objs.size + 1) s1.heap.objs.size, ⟨⟨.none, he⟩, hit, Nat.succ_ne_self _⟩, fun b hb => ?_, q⟩
    have le : s1.heap.objs.size ≤ b := by
      rcases List.mem_cons.mp hb with z | z
      · rw [z]; exact Nat.le_succ _
      · rw [List.mem_singleton.mp z]; exact Nat.le_refl _
    exact I1.fpOk le (I1.hok.fresh le)
  · obtain ⟨its, rv, p', hz⟩ := I1.tuple hx
    have pt : s1.heap.IsTuple a its.toArray := p'
    have la : a < s1.heap.objs.size := by obtain ⟨o, ho, _⟩ := pt; exact Heap.lt_size ho
    refine enum_callT pt fun h' he hit hk => wpAny_pyIter_enum he ?_
    have I2 : Inv X pins σ H1 { s1 with heap := h' } := I1.kept (t' := s1.toks) hk
    refine ⟨s1.heap.objs.size + 1, [s1.heap.objs.size + 1, s1.heap.objs.size], _, _, H1, rfl, I2, turn_iet a (s1.heap.objs.size + 1) s1.heap.objs.size, ⟨⟨.none, he⟩, hit, Nat.succ_ne_self _, Nat.ne_of_lt la, Nat.ne_of_gt (Nat.lt_succ_of_lt la)⟩, fun b hb => ?_, q⟩
    have le : s1.heap.objs.size ≤ b := by
      rcases List.mem_cons.mp hb with z | z
      · rw [z]; exact Nat.le_succ _
      · rw [List.mem_singleton.mp z]; exact Nat.le_refl _
    exact I1.fpOk le (I1.hok.fresh le)
theorem ri_enum {f : FA} {p pos tpos : Pos} {elts : List Expr} {kk : Nat} (hg : Gl X "enumerate") (hm : X.mg "enumerate" = none) (ha : RA X W [e] f) (hs : starEach [e] X.env = [(false, eval e X.env)] := by rfl) :
    RI X W (.Tuple elts kk tpos) (.Call (.Name "enumerate" p) [e] [] pos) (fEnum f) :=
  PI.wk (pi_enumA hg hm ha hs) fun σ H R ⟨w, E, S, hE, hS, hP⟩ => ⟨w, E, S, hE, hS, Post.imp (Post.bind hP) fun d S1 H1 w1 e1 s1 q v rv => by
    unfold wkEnum at q
    split at q
    · split at q
      · rename_i k es ek
        cases rv with | cons r1 r2 =>
          cases r2
          obtain ⟨a, vs, rfl, h1, h2⟩ := stay_ok r1 ek
          refine ⟨a, vs, rfl, ?_⟩
          rcases h2 with ⟨_, h2⟩ | ⟨_, h2⟩
          · exact .inr ⟨h2, Post.same (κ := fun its _ H' w' => ∀ J, WkR X.K H' w' its J → R J H') q s1 _ (wkr_enumT h2 h1)⟩
          · exact .inl ⟨h2.sq, Post.same (κ := fun its _ H' w' => ∀ J, WkR X.K H' w' its J → R J H') q s1 _ (wkr_enumL h2 h1)⟩
      · exact q.elim
    · exact q.elim⟩
theorem ri_zip {f : FA} {e2 : Expr} {p pos tpos : Pos} {elts : List Expr} {kk : Nat} (hg : Gl X "zip") (hm : X.mg "zip" = none) (ha : RA X W [e, e2] f) (hs : starEach [e, e2] X.env = (false, eval e X.env) :: starEach [e2] X.env := by rfl)
    (hpl : (backTo pos (starEach [e2] X.env)).any (·.1) = false := by rfl) : RI X W (.Tuple elts kk tpos) (.Call (.Name "zip" p) [e, e2] [] pos) (fZip f) :=
  PI.wk (ZX.pi_zipV hg hm ha hs hpl) fun σ H R ⟨w, E, S, hE, hS, hP⟩ => ⟨w, E, S, hE, hS, Post.imp (Post.bind hP) fun d S1 H1 w1 e1 s1 q v rv => by
    unfold wkZip at q
    split at q
    · split at q
      · rename_i k es k' es' ek ek'
        cases rv with | cons r1 r2 => cases r2 with | cons r2 r3 =>
          cases r3
          obtain ⟨a, vs, rfl, h1, h2⟩ := stay_ok r1 ek
          obtain ⟨b, us, rfl, h3, h4⟩ := stay_ok r2 ek'
          exact ⟨_, _, a, b, vs, us, rfl, Stays.vz h2, Stays.vz h4, Post.same (κ := fun its _ H' w' => ∀ J, WkR X.K H' w' its J → R J H') q s1 _ (wkr_zip h2 h4 h1 h3)⟩
      · exact q.elim
    · exact q.elim⟩
end

/-! ### repr -/
def shB (d : PyData) : Bool := d.showable && !d.hasDict && decide (d.depth ≤ 64) && decide (d.shown.length ≤ sizeLine)
theorem shB_ok {d : PyData} (h : shB d = true) : Sh d := by
  simp only [shB, Bool.and_eq_true, decide_eq_true_eq, Bool.not_eq_true'] at h
  exact ⟨h.1.1.1, h.1.1.2, h.1.2, h.2⟩
theorem shB_of {d : PyData} (h : Sh d) : shB d = true := by
  simp only [shB, Bool.and_eq_true, decide_eq_true_eq, Bool.not_eq_true']
  exact ⟨⟨⟨h.sh, h.nd⟩, h.dp⟩, h.sz⟩
def gRepr (ds : List D) (S : Sto) : R D := match ds with
  | [x] => match asP x S with
    | some d => if shB d then .ok (.p (.str d.shown)) S else .bad
    | none => .bad
  | _ => .bad
theorem callk_repr {K : PySem.W.Frag} {W : WX} : CallK K W (fun xs H Q => ∃ x d, xs = [x] ∧ Dp K H x d ∧ Sh d ∧ Q (.str d.shown) H) gRepr := by
  intro H w S ds vs Q s r q
  unfold gRepr at q
  split at q
  · split at q
    · rename_i d e
      split at q
      · rename_i c
        cases r with | cons r1 r2 => cases r2; exact ⟨_, d, rfl, asP_ok r1 s e, shB_ok c, PostV.same q s (.p (.str _))⟩
      · exact q.elim
    · exact q.elim
  · exact q.elim

/-! ### the law -/
theorem fn_svA {P : Program} {W_ : World} {K : PySem.W.Frag} {mg : Str → Option Value} {base : Heap} {A : Around} {x qual : Str} {st : Stmt} {f : Addr} {fd : FuncData} {N ps : List Str} {k : Nat} {fb : FS} (F : Fun K x qual st f fd) (SC : FnScope N ps (defScope st)) (hr : Room (k + 1) A)
    (hb : ∀ (cdv : Value) (outer : List Env) (s : Shared) (H : Hp) (E : XK), Room k (A.deeper (envOfC qual (defScope st) s.heap.objs.size f cdv)) →
      RSs (cxOf CX0 P W_ K mg base N qual (defScope st) f cdv A outer s H E).nox (wOf E) (defBody st) fb) :
    FnA A P W_ K mg base CX0 f fd ps (spOf K ps.length (defF N.length fb)) := by
  refine funA F SC hr (fun vs H Q E h => h.1) fun cdv outer s H vs Q E hr h => ?_
  obtain ⟨hl, w, ds, S, hR, hS, hP⟩ := h
  refine ⟨_, hb cdv outer s H E hr, w, _, S, enR_start hR, hS, ?_⟩
  have hP2 := Post.at hP (fun _ _ _ _ _ h => h) ⟨[], fun H' w' _ => ⟨rfl, fun i d q => by simp at q⟩⟩
  clear hP
  show Post K (wOf E) H w (fb (startE N.length ds) S) _
  cases hf : fb (startE N.length ds) S with
  | bad => rw [hf] at hP2; exact hP2.elim
  | exc e E' S1 => rw [hf] at hP2; exact hP2
  | ok fl S1 =>
    rw [hf] at hP2
    intro H' w' e1 s1
    cases fl with
    | nx E1 => exact fun σ' _ => leave_ok hS e1 s1 (.p .non) hP2
    | ret d => exact fun v rv => leave_ok hS e1 s1 rv hP2
    | brk _ => exact hP2.elim
    | ct _ => exact hP2.elim
theorem spLaw_of {K : PySem.W.Frag} {fn : FN} {H : Hp} {a : Addr} {ns : List Int} {S : Sto} (h : fn [.scr ns] [] = .ok (.p (.bool true)) S) (hS : SqL K H a (ns.map V.int)) : spOf K 1 fn [.ref a] H (fun v _ => v = .bl true) E0 := by
  refine ⟨rfl, ⟨[], []⟩, [.scr ns], [], .cons (.scr ?_) .nil, ⟨rfl, .nil, (fun _ h => absurd h (by simp)), (fun _ h => absurd h (by simp)), (fun r a o h => absurd h (by simp))⟩, ?_⟩
  · rcases sqL_split hS with h | h
    · exact .inl ⟨h, by simp, by simp⟩
    · exact .inr h
  · rw [h]
    intro H' w' _ _ v rv
    cases rv with | p rv => cases rv; rfl
end SV
set_option linter.all false
set_option maxRecDepth 100000
set_option maxHeartbeats 1000000
namespace SV
open PySem PySem.Spec PyProof.Rows L2 NB RZ

/-! ### reckoning with results -/
section
variable {α β : Type}
theorem bind_ok (x : α) (S : Sto) (f : α → Sto → R β) : (R.ok x S).bind f = f x S := rfl
theorem bind_bad (f : α → Sto → R β) : (R.bad : R α).bind f = .bad := rfl
theorem bind_exc (e : Exn) (E : En) (S : Sto) (f : α → Sto → R β) : (R.exc e E S : R α).bind f = .exc e E S := rfl
theorem bind_ite {c : Prop} [Decidable c] (a b : R α) (f : α → Sto → R β) : (if c then a else b).bind f = if c then a.bind f else b.bind f := by split <;> rfl
theorem at_ok (E : En) (x : α) (S : Sto) : (R.ok x S).at E = .ok x S := rfl
theorem at_ite {c : Prop} [Decidable c] (E : En) (a b : R α) : (if c then a else b).at E = if c then a.at E else b.at E := by split <;> rfl
theorem bind_bind {γ : Type} (r : R α) (f : α → Sto → R β) (g : β → Sto → R γ) : (r.bind f).bind g = r.bind fun x S => (f x S).bind g := by cases r <;> rfl
def finish (S : Sto) (fl : Fl) (S1 : Sto) : R D := match fl with
  | .nx _ => leave S (.p .none) S1
  | .ret d => leave S d S1
  | _ => .bad
theorem finish_ret (S S1 : Sto) (d : D) : finish S (.ret d) S1 = leave S d S1 := rfl
theorem finish_nx (S S1 : Sto) (E : En) : finish S (.nx E) S1 = leave S (.p .none) S1 := rfl
theorem defF_eq (n : Nat) (fb : FS) (ds : List D) (S : Sto) : defF n fb ds S = ((fb (startE n ds) S).bind (finish S)).at [] := by
  unfold defF
  cases fb (startE n ds) S with
  | ok fl S1 => cases fl <;> rfl
  | exc _ _ _ => rfl
  | bad => rfl
theorem leave_same (S : Sto) (d : D) : leave S d S = .ok d S := by unfold leave; rw [if_pos rfl]
theorem leave_len {S S1 : Sto} (d : D) (h : S1.length = S.length) : leave S d S1 = .ok d S1 := by unfold leave; rw [if_pos h]
theorem leave_drop {S L : Sto} {d d' : D} (hL : L ≠ []) (hf : fre (S ++ L) S.length 5 d = some d') : leave S d (S ++ L) = .ok d' S := by
  unfold leave
  rw [if_neg (by rw [List.length_append]; have := List.length_pos_iff.mpr hL; omega), if_pos (by rw [List.take_left']; exact (beqS_iff _ _).mpr rfl; rfl), hf]
theorem leave_dropC {S S' L : Sto} {d d' : D} (hL : L ≠ []) (hl : S'.length = S.length) (hc : closedS S.length S' = true) (hf : fre (S' ++ L) S.length 5 d = some d') : leave S d (S' ++ L) = .ok d' S' := by
  have ht : (S' ++ L).take S.length = S' := by rw [← hl, List.take_left']; rfl
  unfold leave
  rw [if_neg (by rw [List.length_append, hl]; have := List.length_pos_iff.mpr hL; omega), ht, hf]
  split
  · rename_i c; rw [(beqS_iff _ _).mp c]
  · rfl
theorem fre_p (S : Sto) (n k : Nat) (x : PyData) : fre S n (k + 1) (.p x) = some (.p x) := rfl
/-- r comes out well, so that P -/
def Ok (r : R α) (P : α → Sto → Prop) : Prop := match r with
  | .ok x S => P x S
  | _ => False
theorem ok_ok {x : α} {S : Sto} {P : α → Sto → Prop} : Ok (.ok x S) P = P x S := rfl
theorem ok_bind {r : R α} {f : α → Sto → R β} {P : β → Sto → Prop} : Ok (r.bind f) P = Ok r fun x S => Ok (f x S) P := by cases r <;> rfl
theorem ok_ite {c : Prop} [Decidable c] {a b : R α} {P : α → Sto → Prop} : Ok (if c then a else b) P = if c then Ok a P else Ok b P := by split <;> rfl
theorem ok_at {E : En} {r : R α} {P : α → Sto → Prop} : Ok (r.at E) P = Ok r P := by cases r <;> rfl
theorem Ok.imp {r : R α} {P P' : α → Sto → Prop} (h : Ok r P) (f : ∀ x S, P x S → P' x S) : Ok r P' := by
  cases r with
  | ok x S => exact f x S h
  | exc _ _ _ => exact h
  | bad => exact h
theorem Ok.eq {r : R α} {x : α} {S : Sto} (h : Ok r fun y S' => y = x ∧ S' = S) : r = .ok x S := by
  cases r with
  | ok y S' => obtain ⟨rfl, rfl⟩ := h; rfl
  | exc _ _ _ => exact h.elim
  | bad => exact h.elim
theorem Ok.of_eq {r : R α} {x : α} {S : Sto} {P : α → Sto → Prop} (e : r = .ok x S) (h : P x S) : Ok r P := by rw [e]; exact h
theorem Ok.ex {r : R α} {P : α → Sto → Prop} (h : Ok r P) : ∃ x S, r = .ok x S ∧ P x S := by
  cases r with
  | ok y S' => exact ⟨_, _, rfl, h⟩
  | exc _ _ _ => exact h.elim
  | bad => exact h.elim
end
/-- by reckoning -/
def isOk (r : R D) (d : D) (S : Sto) : Bool := match r with
  | .ok x S' => beqD x d && beqS S' S
  | _ => false
theorem of_isOk {r : R D} {d : D} {S : Sto} (h : isOk r d S = true) : r = .ok d S := by
  unfold isOk at h
  split at h
  · obtain ⟨h1, h2⟩ := Bool.and_eq_true_iff.mp h
    rw [(beqD_iff _ _).mp h1, (beqS_iff _ _).mp h2]
  · cases h

/-! ### loops -/
section
variable {g : FG} {b : FS} {ds : List D}
/-- for over items that stay; I by the turn; the turn may also return, or break off -/
theorem for_ok {I : Nat → En → Sto → Prop} {P : Fl → Sto → Prop} {E : En} {S : Sto} (h0 : I 0 E S)
    (step : ∀ i d E S, ds[i]? = some d → I i E S → Ok (g d E S) fun E1 S1 => Ok (b E1 S1) fun fl S2 => match fl with
      | .nx E2 => I (i + 1) E2 S2
      | .ct E2 => I (i + 1) E2 S2
      | .brk E2 => P (.nx E2) S2
      | .ret d => P (.ret d) S2)
    (done : ∀ E S, I ds.length E S → P (.nx E) S) : Ok (forN (.fix ds) g b (Wk.fix ds).fuel 0 E S) P := by
  have key : ∀ n i E S, n + i = ds.length → I i E S → Ok (forN (.fix ds) g b (n + 1) i E S) P := by
    intro n
    induction n with
    | zero =>
      intro i E S hi h
      unfold forN
      have hn : ds[i]? = none := List.getElem?_eq_none_iff.mpr (by omega)
      simp only [nxt, hn]
      have e : i = ds.length := by omega
      subst e
      exact done E S h
    | succ n ih =>
      intro i E S hi h
      unfold forN
      have hl : i < ds.length := by omega
      have hs : ds[i]? = some ds[i] := by simp [hl]
      simp only [nxt, hs]
      rw [ok_bind]
      refine (step i _ E S hs h).imp fun E1 S1 h1 => ?_
      rw [ok_bind]
      refine h1.imp fun fl S2 h2 => ?_
      cases fl with
      | nx E2 => exact ih (i + 1) E2 S2 (by omega) h2
      | ct E2 => exact ih (i + 1) E2 S2 (by omega) h2
      | brk E2 => exact h2
      | ret d => exact h2
  exact key ds.length 0 E S rfl h0
/-- a comprehension over items that stay -/
theorem lc_ok {t : Tgt} {ts : FT} {te : FE} {I : Nat → List D → Sto → Prop} {P : List D → Sto → Prop} {E : En} {S : Sto} (hl : ds.length ≤ 400000) (h0 : I 0 [] S)
    (step : ∀ i d acc S, ds[i]? = some d → I i acc S → ∃ E1, t.put d E = some E1 ∧ Ok (ts E1 S) fun c S1 => if c = true then Ok (te E1 S1) fun y S2 => I (i + 1) (acc ++ [y]) S2 else I (i + 1) acc S1)
    (done : ∀ acc S, I ds.length acc S → P acc S) : Ok (lcN (.fix ds) t ts te E (Wk.fix ds).fuel 0 [] S) P := by
  have key : ∀ n i acc S, n + i = ds.length → acc.length ≤ i → I i acc S → Ok (lcN (.fix ds) t ts te E (n + 1) i acc S) P := by
    intro n
    induction n with
    | zero =>
      intro i acc S hi _ h
      unfold lcN
      have hn : ds[i]? = none := List.getElem?_eq_none_iff.mpr (by omega)
      simp only [nxt, hn]
      have e : i = ds.length := by omega
      subst e
      exact done acc S h
    | succ n ih =>
      intro i acc S hi ha h
      unfold lcN
      have hl' : i < ds.length := by omega
      have hs : ds[i]? = some ds[i] := by simp [hl']
      obtain ⟨E1, e1, h1⟩ := step i _ acc S hs h
      simp only [nxt, hs, e1]
      obtain ⟨c, S1, e2, h2⟩ := h1.ex
      simp only [e2]
      cases c with
      | false =>
        rw [if_neg Bool.false_ne_true] at h2 ⊢
        exact ih (i + 1) acc S1 (by omega) (by omega) h2
      | true =>
        rw [if_pos rfl] at h2 ⊢
        obtain ⟨y, S2, e3, h3⟩ := h2.ex
        simp only [e3]
        rw [if_pos (by omega)]
        exact ih (i + 1) _ S2 (by omega) (by simp; omega) h3
  exact key ds.length 0 [] S rfl (Nat.le_refl _) h0
/-- each item apart, nothing changed -/
theorem lc_map {t : Tgt} {te : FE} {f : D → D} {E : En} {S : Sto} (hl : ds.length ≤ 400000) (h : ∀ d ∈ ds, ∃ E1, t.put d E = some E1 ∧ te E1 S = .ok (f d) S) :
    lcN (.fix ds) t fYes te E (Wk.fix ds).fuel 0 [] S = .ok (ds.map f) S := by
  refine Ok.eq (lc_ok (I := fun i acc S' => acc = (ds.take i).map f ∧ S' = S) hl ⟨by simp, rfl⟩ ?_ ?_)
  · rintro i d acc S' hi ⟨rfl, rfl⟩
    obtain ⟨E1, e1, e2⟩ := h d (List.mem_of_getElem? hi)
    refine ⟨E1, e1, ?_⟩
    show Ok (R.ok true S') _
    rw [ok_ok, if_pos rfl, e2, ok_ok]
    refine ⟨?_, rfl⟩
    rw [List.take_add_one, hi]
    simp
  · rintro acc S' ⟨rfl, rfl⟩
    exact ⟨by rw [List.take_length], rfl⟩
/-- while, by a measure -/
theorem while_ok {c : FT} {I : Nat → En → Sto → Prop} {P : Fl → Sto → Prop} {E : En} {S : Sto} {m : Nat} (hm : m < fuelOf) (h0 : I m E S)
    (step : ∀ m E S, I m E S → Ok (c E S) fun t S1 => if t = true then Ok (b E S1) fun fl S2 => match fl with
      | .nx E2 => ∃ m', m' < m ∧ I m' E2 S2
      | .ct E2 => ∃ m', m' < m ∧ I m' E2 S2
      | .brk E2 => P (.nx E2) S2
      | .ret d => P (.ret d) S2
      else P (.nx E) S1) : Ok (fWhile c b E S) P := by
  have key : ∀ n m E S, m < n → I m E S → Ok (whileN c b n E S) P := by
    intro n
    induction n with
    | zero => intro m E S h; omega
    | succ n ih =>
      intro m E S h hi
      unfold whileN
      rw [ok_bind]
      refine (step m E S hi).imp fun t S1 h1 => ?_
      cases t with
      | false => rw [if_neg Bool.false_ne_true] at h1 ⊢; exact h1
      | true =>
        rw [if_pos rfl] at h1 ⊢
        rw [ok_bind]
        refine h1.imp fun fl S2 h2 => ?_
        cases fl with
        | nx E2 => obtain ⟨m', l, h3⟩ := h2; exact ih m' E2 S2 (by omega) h3
        | ct E2 => obtain ⟨m', l, h3⟩ := h2; exact ih m' E2 S2 (by omega) h3
        | brk E2 => exact h2
        | ret d => exact h2
  exact key fuelOf m E S hm h0
/-- a statement, then the rest: what stands between -/
theorem seq_cut {a : FS} {Q : En → Sto → Prop} {P : Fl → Sto → Prop} {E : En} {S : Sto} (h : Ok (a E S) fun fl S1 => match fl with
    | .nx E1 => Q E1 S1
    | _ => False) (k : ∀ E1 S1, Q E1 S1 → Ok (b E1 S1) P) : Ok (fSeq a b E S) P := by
  unfold fSeq
  rw [ok_bind]
  refine h.imp fun fl S1 q => ?_
  cases fl with
  | nx E1 => exact k E1 S1 q
  | _ => exact q.elim
/-- .. that may return -/
theorem seq_cutR {a : FS} {Q : En → Sto → Prop} {P : Fl → Sto → Prop} {E : En} {S : Sto} (h : Ok (a E S) fun fl S1 => match fl with
    | .nx E1 => Q E1 S1
    | .ret d => P (.ret d) S1
    | _ => False) (k : ∀ E1 S1, Q E1 S1 → Ok (b E1 S1) P) : Ok (fSeq a b E S) P := by
  unfold fSeq
  rw [ok_bind]
  refine h.imp fun fl S1 q => ?_
  cases fl with
  | nx E1 => exact k E1 S1 q
  | ret d => exact q
  | _ => exact q.elim
theorem def_ok {n : Nat} {fb : FS} {ds : List D} {S : Sto} {P : D → Sto → Prop} (h : Ok (fb (startE n ds) S) fun fl S1 => Ok (finish S fl S1) P) : Ok (defF n fb ds S) P := by
  rw [defF_eq, ok_at, ok_bind]; exact h
end
/-- a def that keeps all that it made -/
def defK (n : Nat) (fb : FS) : FN := fun ds S => (match fb (startE n ds) S with
  | .ok (.nx _) S1 => .ok (.p .none) S1
  | .ok (.ret d) S1 => .ok d S1
  | .exc e E S1 => .exc e E S1
  | _ => .bad : R D).at []
theorem defK_ok {n : Nat} {fb : FS} {ds : List D} {S : Sto} {P : D → Sto → Prop} : Ok (defK n fb ds S) P = Ok (fb (startE n ds) S) fun fl S1 => match fl with
    | .nx _ => P (.p .none) S1
    | .ret d => P d S1
    | _ => False := by
  unfold defK
  rw [ok_at]
  cases fb (startE n ds) S with
  | ok fl S1 => cases fl <;> rfl
  | exc _ _ _ => rfl
  | bad => rfl
theorem fn_svK {P : Program} {W_ : World} {K : PySem.W.Frag} {mg : Str → Option Value} {base : Heap} {x qual : Str} {st : Stmt} {f : Addr} {fd : FuncData} {N ps : List Str} {k : Nat} {fb : FS} (F : Fun K x qual st f fd) (SC : FnScope N ps (defScope st))
    (hb : ∀ (cdv : Value) (A : Around) (outer : List Env) (s : Shared) (H : Hp) (E : XK), Room k (A.deeper (envOfC qual (defScope st) s.heap.objs.size f cdv)) →
      RSs (cxOf CX0 P W_ K mg base N qual (defScope st) f cdv A outer s H E).nox (wOf E) (defBody st) fb) :
    FnOk P W_ K mg base CX0 (k + 1) f fd ps (spOf K ps.length (defK N.length fb)) := by
  refine F.ok SC (fun vs H Q E h => h.1) fun cdv A outer s H vs Q E hr h => ?_
  obtain ⟨hl, w, ds, S, hR, hS, hP⟩ := h
  refine ⟨_, hb cdv A outer s H E hr, w, _, S, enR_start hR, hS, ?_⟩
  have hP2 := Post.at hP (fun _ _ _ _ _ h => h) ⟨[], fun H' w' _ => ⟨rfl, fun i d q => by simp at q⟩⟩
  clear hP
  show Post K (wOf E) H w (fb (startE N.length ds) S) _
  cases hf : fb (startE N.length ds) S with
  | bad => rw [hf] at hP2; exact hP2.elim
  | exc e E' S1 => rw [hf] at hP2; exact hP2
  | ok fl S1 =>
    rw [hf] at hP2
    intro H' w' e1 s1
    cases fl with
    | nx E1 => exact fun σ' _ => hP2 H' w' e1 s1 _ (.p .non)
    | ret d => exact fun v rv => hP2 H' w' e1 s1 v rv
    | brk _ => exact hP2.elim
    | ct _ => exact hP2.elim
end SV
set_option linter.all false
set_option maxRecDepth 100000
set_option maxHeartbeats 4000000
namespace SV
open PySem PySem.Spec PyProof.Rows L2 NB RZ
/-! ### defs that call repr: a promise where no container is being shown -/
section
variable {X : Cx} {CX : CXT} {f : Addr} {fd : FuncData} {ps : List Str} {sp : Sp} {dvs : List V} {ds : List Value} {E : XK} {x : Str} {p pos : Pos} {e : Expr} {es : List Expr} {t : TA}
theorem run_fnA {pins : List (Addr × Obj)} {σ : L2.St} {H : Hp} {s : Shared} {Q : VK} {us : List Value} {vs : List V} (F : FnA X.A X.prog X.w X.K X.mg X.base CX f fd ps sp) (hb : Binds X.K fd ps ds) (hd : Vals dvs ds) (hx : Passes CX X E)
    (I : Inv X pins σ H s) (r : Vals vs us) (h : sp (vs ++ dvs) H Q E) : wpAny (model X.prog X.w) X.A (call (.ref f) us) (EP X pins σ Q) X.xe s := by
  have r2 : Vals (vs ++ dvs) (us ++ ds) := r.append hd
  have hl : (us ++ ds).length = ps.length := by rw [← r2.length]; exact F.len _ _ _ _ h
  refine wpAny_call (codeAny_mono (F.run X.stack s H ⟨us, []⟩ (us ++ ds) (vs ++ dvs) Q E I.env0 (hb s us I.kIn hl) r2 h) fun r s' hq => ?_)
  cases r with
  | error e => exact hx pins σ H s e s' I hq
  | ok fl =>
    cases fl with
    | ret u => exact I.after hq
    | next => exact False.elim hq
    | brk => exact False.elim hq
    | cont => exact False.elim hq
theorem pe_callA1 (F : FnA X.A X.prog X.w X.K X.mg X.base CX f fd ps sp) (hg : Gl X x) (hm : X.mg x = some (.ref f)) (hk : PySem.W.keepIn X.K (.ref f) = true) (hb : Binds X.K fd ps ds) (hd : Vals dvs ds) (hx : Passes CX X E)
    (ha : PA X (e :: es) t) (hdb : (x == ("__debug__" : Str)) = false := by decide) (he : starEach (e :: es) X.env = (false, eval e X.env) :: starEach es X.env := by rfl) (hpl : (backTo pos (starEach es X.env)).any (·.1) = false := by rfl) :
    PE X (.Call (.Name x p) (e :: es) [] pos) (tCall sp dvs E t) := by
  refine ⟨fun pins s σ H Q I h => ?_⟩
  refine wpAny_Call_Name_kw (ld_glob I hg hm ?_ hdb)
  refine PySem.W.callWith_K (h₀ := X.base) I.ok.mod.kin hk (thn (ha.run pos pins s σ H _ I h) fun us s1 ⟨vs, H1, I1, r, q⟩ => ⟨I1.kIn, ?_⟩) he hpl
  exact run_fnA F hb hd hx I1 r q
theorem pe_callK1 {ks : List Str} {kws : List Keyword} {tk : TA} {g : List Value → List Value} {gV : List V → List V}
    (F : FnA X.A X.prog X.w X.K X.mg X.base CX f fd ps sp) (hg : Gl X x) (hm : X.mg x = some (.ref f)) (hk : PySem.W.keepIn X.K (.ref f) = true) (hb : KB0 X.K fd ps ks g gV) (hx : Passes CX X E) (hkw : PK X kws tk)
    (hall : (backToKw pos (keywordEach kws X.env)).all (·.1.isSome) = true := by rfl) (hks : (backToKw pos (keywordEach kws X.env)).filterMap (·.1) = ks := by rfl) (hdb : (x == ("__debug__" : Str)) = false := by decide)
    (hpl : ((backTo pos (starEach [] X.env)).any (·.1) || (backToKw pos (keywordEach kws X.env)).any (·.1.isNone)) = false := by rfl) :
    PE X (.Call (.Name x p) [] kws pos) (tCallK0 ks.length sp gV E tk) := by
  refine ⟨fun pins s σ H Q I h => wpAny_Call_Name_kw (ld_glob I hg hm ?_ hdb)⟩
  refine PySem.W.callWith_KW0 (h₀ := X.base) I.ok.mod.kin hk hall (thn (hkw.run pos pins s σ H _ I h) fun ws s2 hq => ?_) hpl
  obtain ⟨zs, H2, I2, rz, hl, q⟩ := hq
  refine ⟨I2.kIn, ?_⟩
  rw [hks]
  have lw : ws.length = ks.length := by rw [← rz.length]; exact hl
  refine wpAny_call (codeAny_mono (F.run X.stack s2 H2 ⟨[], ks.zip ws⟩ (g ws) (gV zs) Q E I2.env0 (hb.to s2 ws lw) (hb.rel zs ws hl rz) q) fun r s' hq => ?_)
  match r, hq with
  | .error e, hq => exact hx pins σ H2 s2 e s' I2 hq
  | .ok (.ret u), hq => exact I2.after hq
end
structure CalG (P : Program) (w : World) (K : PySem.W.Frag) (mg : Str → Option Value) (base : Heap) (k : Nat) (x : Str) (ps : List Str) (st : Stmt) (fn : FN) : Prop where
  ex : ∃ f fd, (∀ A, Room k A → A.guards = some [] → FnA A P w K mg base CX0 f fd ps (spOf K ps.length fn)) ∧ mg x = some (.ref f) ∧ PySem.W.keepIn K (.ref f) = true ∧ Binds K fd ps [] ∧ Fun K x x st f fd
section
variable {X : Cx} {W : WX} {e : Expr} {es : List Expr} {f : FA} {p pos : Pos} {k : Nat} {x : Str} {ps : List Str} {st : Stmt} {fn : FN}
theorem re_callG (C : CalG X.prog X.w X.K X.mg X.base k x ps st fn) (hr : Room k X.A) (gd : X.A.guards = some []) (hg : Gl X x) (ha : RA X W (e :: es) f) (hl : ALen f ps.length) (hdb : (x == ("__debug__" : Str)) = false := by decide)
    (he : starEach (e :: es) X.env = (false, eval e X.env) :: starEach es X.env := by rfl) (hpl : (backTo pos (starEach es X.env)).any (·.1) = false := by rfl) : RE X W (.Call (.Name x p) (e :: es) [] pos) (fCall fn f) := by
  obtain ⟨g, fd, h1, h2, h3, h4, _⟩ := C.ex
  exact PE.wk (pe_callA1 (E := fun _ _ _ => True) (h1 X.A hr gd) hg h2 h3 h4 .nil (fun _ _ _ _ _ _ _ h => h.elim) ha hdb he hpl) fun σ H Q ⟨w, E, S, hE, hS, hP⟩ =>
    ⟨w, E, S, hE, hS, by
      have hq := Post.bind hP
      cases hfa : f E S with
      | bad => rw [hfa] at hq; exact hq
      | exc _ _ _ => rw [hfa] at hq; exact hq
      | ok ds S1 =>
        rw [hfa] at hq
        intro H1 w1 e1 s1 vs rv
        have q : Post X.K W H1 w1 ((fn ds S1).at E) (fun d _ H' w' => ∀ v, Rep X.K H' w' v d → Q v H') := hq H1 w1 e1 s1
        refine ⟨by rw [List.append_nil, rv.len]; exact hl.h hfa, w1, ds, S1, by rw [List.append_nil]; exact rv, s1, ?_⟩
        cases hfn : fn ds S1 with
        | bad => rw [hfn] at q; exact q
        | exc _ _ _ => exact fun _ _ _ _ _ _ _ _ _ => True.intro
        | ok d S2 => rw [hfn] at q; exact q⟩
theorem re_callGK {n : Nat} {ks : List Str} {perm : List Nat} {kws : List Keyword} (C : CalG X.prog X.w X.K X.mg X.base k x ps st fn) (hr : Room k X.A) (gd : X.A.guards = some []) (hg : Gl X x) (ha : RK X W kws f) (hl : ALen f ks.length) (hn : ∀ {l : List V}, l.length = ks.length → (pick perm l).length = ps.length)
    (hb : ∀ (kV doc pm : Value) (an : Option Addr) (cdv ct : Value) (ws : List Value), ws.length = ks.length → bindArgs (PySem.W.fnOf x x (defArgs st) (defBody st) (defScope st) .none kV doc pm an cdv ct) ⟨[], ks.zip ws⟩ = pure (ps.zip (pick perm ws)))
    (hall : (backToKw pos (keywordEach kws X.env)).all (·.1.isSome) = true := by rfl) (hks : (backToKw pos (keywordEach kws X.env)).filterMap (·.1) = ks := by rfl) (hdb : (x == ("__debug__" : Str)) = false := by decide)
    (hpl : ((backTo pos (starEach [] X.env)).any (·.1) || (backToKw pos (keywordEach kws X.env)).any (·.1.isNone)) = false := by rfl) : RE X W (.Call (.Name x p) [] kws pos) (fCallK perm fn f) := by
  obtain ⟨g, fd, h1, h2, h3, h4, F⟩ := C.ex
  obtain ⟨oc, od, kV, doc, pm, an, cdv, ct, osl, rfl, lk, hcd⟩ := F.ex
  have kb : KB0 X.K (PySem.W.fnOf x x (defArgs st) (defBody st) (defScope st) .none kV doc pm an cdv ct) ps ks (pick perm) (pick perm) := ⟨fun s ws hl => BindsTo.of_eq (hb _ _ _ _ _ _ ws hl), fun zs ws _ r => vals_pick r perm⟩
  exact PE.wk (pe_callK1 (E := fun _ _ _ => True) (h1 X.A hr gd) hg h2 h3 kb (fun _ _ _ _ _ _ _ h => h.elim) ha hall hks hdb hpl) fun σ H Q ⟨w, E, S, hE, hS, hP⟩ => ⟨w, E, S, hE, hS, by
      have hq := Post.bind hP
      cases hfa : f E S with
      | bad => rw [hfa] at hq; exact hq
      | exc _ _ _ => rw [hfa] at hq; exact hq
      | ok ds S1 =>
        rw [hfa] at hq
        intro H1 w1 e1 s1 vs rv
        have q : Post X.K W H1 w1 ((fn (pick perm ds) S1).at E) (fun d _ H' w' => ∀ v, Rep X.K H' w' v d → Q v H') := hq H1 w1 e1 s1
        have lv : vs.length = ks.length := by rw [rv.len]; exact hl.h hfa
        refine ⟨lv, hn lv, w1, pick perm ds, S1, rv.pick perm, s1, ?_⟩
        cases hfn : fn (pick perm ds) S1 with
        | bad => rw [hfn] at q; exact q
        | exc _ _ _ => exact fun _ _ _ _ _ _ _ _ _ => True.intro
        | ok d S2 => rw [hfn] at q; exact q⟩
end
end SV
set_option linter.all false
set_option maxRecDepth 100000
set_option maxHeartbeats 2000000
/-! any and all of a generator expression: any walk, any target, elements that call -/
namespace GX
open PySem PySem.Spec PyProof.Rows L2 GenW

section
variable {X : Cx} {pins : List (Addr × Obj)} {σ : L2.St} {H : Hp} {s : Shared}
theorem inv_gens {g' : Array GenState} {t' : Nat} {d' : Drawn} (I : Inv X pins σ H s) (hb : AllBare g') : Inv X pins σ H { s with gens := g', drawn := d', toks := t' } :=
  ⟨I.ok, I.os, hb, I.base, I.loc, I.cell, I.free, I.freeC, I.pin, I.hok, I.len⟩
theorem inv_like {s' : Shared} (I : Inv X pins σ H s) (h1 : s'.heap = s.heap) (h2 : s'.os = s.os) (h3 : AllBare s'.gens) : Inv X pins σ H s' :=
  ⟨I.ok, h2.trans I.os, h3, by rw [h1]; exact I.base, by rw [h1]; exact I.loc, fun x c e => by rw [h1]; exact I.cell x c e, I.free, I.freeC, fun p hp => by rw [h1]; exact I.pin p hp, by rw [h1]; exact I.hok, I.len⟩
theorem bare_set {G : Array GenState} {g : Nat} {y : GenState} (h : AllBare G) (hy : y.bare = true) : AllBare (G.setIfInBounds g y) := fun z hz => by
  obtain ⟨i, hi, rfl⟩ := Array.mem_iff_getElem.mp hz
  rw [Array.getElem_setIfInBounds (by simpa using hi)]
  split
  · exact hy
  · exact h _ (Array.getElem_mem _)

/-- the generator's frame: entered at s, its namespace C, its iterator's objects fp, its own object pinned -/
abbrev Cx.gx (X : Cx) (s : Shared) (H : Hp) (cenv : Env) (B : Around) (fp : List Addr) (pn : List (Addr × Obj)) : Cx :=
  { X with A := B, s_0 := s, H_0 := H, env := cenv, outer := X.stack, stack := cenv :: X.stack, ex := fp, fn := fun _ => false, pn := pn, calm := true, xe := fun _ _ => False }
/-- the scope of a generator expression -/
structure GOk (N : List Str) (sc scope : Scope) (own : List (Str × Nat)) : Prop where
  blk : BlkOk N sc scope own
  co : scope.isCoroutine = false
  cell : ∀ y ∈ scope.names, y.2 ≠ .cell
  dot : scope.names.lookup (".0" : Str) = some NameKind.local
theorem gx_start {scope : Scope} {own : List (Str × Nat)} {fp : List Addr} {code : Value} {B : Around} {h' : Heap} {m : Str → Option Value} {a : Addr} {oa : Obj} {g' : Array GenState} {t' : Nat} (I : Inv X pins σ H s) (ok : GOk X.N X.env.scope scope own) (hN : X.N.Nodup)
    (hfp : ∀ b ∈ fp, FpOk X pins H b ∧ b < s.heap.objs.size) (hB : B.handled = none) (hF : B.frames = some (genEnv scope (cloFrom X.env.cells scope.names []) s.heap.objs.size code builtinsNs X.env :: X.stack)) (hn : h'.Ns s.heap.objs.size m) (kp : ∀ b o, s.heap.get? b = some o → h'.get? b = some o)
    (ha : h'.get? a = some oa) (hlt : s.heap.objs.size < a) (hcl : ∀ v, oa.data ≠ .cell v) (hg : AllBare g') :
    Inv (Cx.gx X s H (genEnv scope (cloFrom X.env.cells scope.names []) s.heap.objs.size code builtinsNs X.env) B fp [(a, oa)]) [] (wipe σ (own.map (·.2))) H { s with gens := g', toks := t', heap := h' } := by
  have fr : ∀ y ∈ scope.names, y.2 = .free → ∃ c, X.env.cells.lookup y.1 = some c := fun y hy e => (ok.blk.free y hy e).elim (fun k => I.ok.has _ (.inl k)) fun k => I.ok.has _ (.inr k)
  generalize hce : genEnv scope (cloFrom X.env.cells scope.names []) s.heap.objs.size code builtinsNs X.env = ce at hF ⊢
  have eL : ce.locals = s.heap.objs.size := by rw [← hce]; rfl
  have eC : ce.cells = cloFrom X.env.cells scope.names [] := by rw [← hce]; rfl
  have eS : ce.scope = scope := by rw [← hce]; rfl
  have old : ∀ {y c}, ce.cells.lookup y = some c → X.env.cells.lookup y = some c ∧ c < s.heap.objs.size := fun {y c} e => by
    rw [eC] at e
    rcases cloFrom_mem (PySem.mem_of_lookup e) with z | ⟨h1, rfl⟩
    · cases z
    · obtain ⟨d, hd⟩ := fr _ h1 rfl
      rw [hd]
      obtain ⟨w, z⟩ := I.cell _ _ hd
      exact ⟨rfl, z.lt⟩
  have got : ∀ {y}, scope.names.lookup y = some .free → ∃ c, ce.cells.lookup y = some c ∧ X.env.cells.lookup y = some c := fun {y} e => by
    obtain ⟨c, hc⟩ := mem_lookup (cloFrom_has (cells := X.env.cells) (acc := []) (PySem.mem_of_lookup e))
    rw [← eC] at hc
    exact ⟨c, hc, (old hc).1⟩
  have okG : (Cx.gx X s H ce B fp [(a, oa)]).Ok := by
    constructor
    case mod => exact I.ok.mod
    case kind => show ce.scope.kind = _; rw [eS]; exact ok.blk.kind
    case glob => show ce.globals = _; rw [← hce]; exact I.ok.glob
    case blt => show ce.builtins = _; rw [← hce]; rfl
    case above => show s.heap.objs.size ≤ ce.locals; rw [eL]; exact Nat.le_refl _
    case inj => exact fun x y c h1 h2 => I.ok.inj x y c (old h1).1 (old h2).1
    case has =>
      intro x hx
      have hx : scope.names.lookup x = some .cell ∨ scope.names.lookup x = some .free := by
        have q : ce.scope.names.lookup x = some .cell ∨ ce.scope.names.lookup x = some .free := hx
        rw [eS] at q; exact q
      rcases hx with q | q
      · exact absurd rfl (ok.cell _ (PySem.mem_of_lookup q))
      · exact ⟨_, (got q).choose_spec.1⟩
    case cab => exact fun x c h => by cases h
    case hd => exact fun _ => hB
    case frames => exact hF
    case stk => exact .inr ⟨rfl, by show ce.frame = some ce.locals; rw [← hce]; rfl⟩
    case exf => exact fun b hb => ⟨by show b ≠ ce.locals; rw [eL]; exact Nat.ne_of_lt (hfp b hb).2, fun x c e => (hfp b hb).1.2.2.2.2.1 x c (old e).1⟩
    case bs => exact I.bs
    case bsz => exact Nat.le_trans I.ok.bsz I.sz
    case noex => exact fun b o e hb => ((hfp b hb).1.2.2.2.1).elim (fun z => I.ok.noex b o e z) fun z => absurd (Nat.lt_of_lt_of_le (Heap.lt_size e) (Nat.le_trans I.ok.bsz z)) (Nat.lt_irrefl _)
    case exfs =>
      exact fun b hb z => (List.mem_cons.mp (I.stkSub b z)).elim (hfp b hb).1.2.1 (hfp b hb).1.2.2.1
    case funs => exact I.stack
    case frf => exact I.stkFree
  have nfs : a ∉ frs X.stack := fun z => (List.mem_cons.mp (I.stkSub a z)).elim (fun e => absurd (I.lt) (by rw [← e]; exact Nat.not_lt.mpr (Nat.le_of_lt hlt))) (I.nofs (Nat.le_of_lt hlt))
  constructor
  case ok => exact okG
  case os => rfl
  case bare => exact hg
  case base => exact Un.kept kp
  case loc =>
    refine ⟨m, by show h'.Ns ce.locals m; rw [eL]; exact hn, fun i x v e1 e2 e3 => ?_⟩
    obtain ⟨e2, hne⟩ := wipe_some e2
    have e3 : Vis scope x := by
      have q : Vis ce.scope x := e3
      rw [eS] at q; exact q
    have no : ∀ k, scope.names.lookup x = some k → (k = .local ∨ k = .cell) → False := fun k hk h => by
      rcases ok.blk.own _ (PySem.mem_of_lookup hk) h with z | z
      · obtain ⟨p, hp, hpx⟩ := List.mem_map.mp z
        have e4 := ok.blk.ix p hp
        rw [show p.1 = x from hpx] at e4
        exact hne (List.mem_map.mpr ⟨p, hp, nodup_ix hN e4 e1⟩)
      · exact z (List.mem_of_getElem? e1)
    have hf : scope.names.lookup x = some .free := e3.elim (fun k => (no _ k (.inl rfl)).elim) fun z => z.elim (fun k => (no _ k (.inr rfl)).elim) id
    obtain ⟨m0, _, hl⟩ := I.loc
    have vis : Vis X.env.scope x := (ok.blk.free _ (PySem.mem_of_lookup hf) rfl).elim (fun k => .inr (.inl k)) fun k => .inr (.inr k)
    obtain ⟨u, ru, q⟩ := hl i x v e1 e2 vis
    obtain ⟨c, h1, h2⟩ := got hf
    refine ⟨u, ru, .inr ⟨.inr (by show ce.scope.names.lookup x = _; rw [eS]; exact hf), c, h1, ?_⟩⟩
    rcases q with ⟨k, _⟩ | ⟨_, c', e', z⟩
    · rcases ok.blk.free _ (PySem.mem_of_lookup hf) rfl with k' | k' <;> rw [show X.env.scope.names.lookup x = some .local from k] at k' <;> cases k'
    · rw [h2] at e'; cases e'
      exact z.keeps kp
  case cell =>
    intro x c e
    obtain ⟨w, z⟩ := I.cell x c (old e).1
    exact ⟨w, z.keeps kp⟩
  case free => show H ce.locals = none; rw [eL]; exact I.hok.fresh (Nat.le_refl _)
  case freeC => exact fun x c e => I.freeC x c (old e).1
  case pin =>
    intro p hp
    have e : p = (a, oa) := by simpa using hp
    subst e
    exact ⟨ha, I.hok.fresh (Nat.le_of_lt hlt), by show a ≠ ce.locals; rw [eL]; exact Nat.ne_of_gt hlt, nfs, hcl⟩
  case hok => exact I.hok.kept kp
  case len => rw [wipe_length]; exact I.len
end

/-! ### the generator runs -/
abbrev gEx (elt tg iter : Expr) (scope : Scope) (pos : Pos) : Expr := .GeneratorExp elt [⟨tg, iter, [], 0⟩] scope pos
/-- the turns as they are wished for: bs: where the consumer stops; QT behind the last one, QF where it stops -/
def TurnsOk (J : It) (g : TG) (te : TE) (vs : List Nat) (σ : L2.St) (bs : Bool) (W : Nat → Nat → Hp → Prop) (QT QF : Hp → Prop) : Prop := ∀ i m H, W i m H →
  (J.stop i H ∧ QT H) ∨ (J.go i H ∧ ∃ Nx : Hp → Prop, (∀ H', Nx H' → ∃ m', m' < m ∧ W (i + 1) m' H') ∧
    ∀ x H', J.yld i H x H' → g x (wipe σ vs) H' fun σ2 H2 => wipe σ2 vs = wipe σ vs ∧ te σ2 H2 fun y H3 => ∃ b, y = .bl b ∧ if b = bs then QF H3 else Nx H3)
section
variable {Y : Cx} {gi : Nat} {bs : Bool} {QT QF : Hp → Prop}
/-- what is so when it hands out a truth value -/
def GXY (Y : Cx) (gi : Nat) (bs : Bool) (QF : Hp → Prop) : Protocol := fun _ _ v s kap =>
  ∃ b σ H, v = .bool b ∧ Inv Y [] σ H s ∧ gi < s.gens.size ∧ (b = bs → QF H) ∧
    (b ≠ bs → ∀ s'', s''.heap = s.heap → s''.os = s.os → AllBare s''.gens → gi < s''.gens.size → kap (.send .none) s'')
def GXP (Y : Cx) (gi : Nat) (QT : Hp → Prop) : Nat → Shared → Shared → Prop := fun _ _ s => ∃ σ H, Inv Y [] σ H s ∧ gi < s.gens.size ∧ QT H
theorem seg_turns {A : Around} {elt tg iter : Expr} {scope : Scope} {pos : Pos} {it : Addr} {fp : List Addr} {tn : Nat → Heap → Prop} {J : It} {g : TG} {te : TE} {vs : List Nat} {σ0 : L2.St} {W : Nat → Nat → Hp → Prop}
    (hA : A.over (.compLoop (gEx elt tg iter scope pos) 0 (.ref it) .none Y.env) [] = Y.A) (hx : Y.xe = fun _ _ => False) (hco : Y.env.scope.isCoroutine = false) (hc : Y.calm = true) (hfp : Y.ex = fp) (hpn : ∀ b ∈ fp, ∀ p ∈ Y.pn, p.1 ≠ b)
    (T : Turn Y.prog Y.w Y.K tg J fp it tn) (hg : PG Y tg g) (he : PE Y elt te) (turn : TurnsOk J g te vs σ0 bs W QT QF) :
    ∀ (m n i : Nat) (s₀ s : Shared) (H : Hp), m < n → W i m H → Inv Y [] (wipe σ0 vs) H s → tn i s.heap → (∀ b ∈ fp, H b = none) → gi < s.gens.size →
      Seg (model Y.prog Y.w) A (fun n s₀ r s₁ => r = .ok .next ∧ GXP Y gi QT n s₀ s₁) (GXY Y gi bs QF) n s₀ (.compLoop (gEx elt tg iter scope pos) 0 (.ref it) .none Y.env)
        ((model Y.prog Y.w).den (.compLoop (gEx elt tg iter scope pos) 0 (.ref it) .none Y.env)) [] s := by
  have stat : ∀ {σ' : L2.St} {H' : Hp} {s' : Shared}, Inv Y [] σ' H' s' → (∀ b ∈ fp, H' b = none) → ∀ b ∈ fp, FpOk Y [] H' b := fun {σ' H' s'} I n b hb => by
    have hb' : b ∈ Y.ex := by rw [hfp]; exact hb
    exact ⟨n b hb, (I.ok.exf b hb').1, I.ok.exfs b hb', .inl hb', (I.ok.exf b hb').2, fun p hp => by rw [List.append_nil] at hp; exact hpn b hb p hp⟩
  intro m
  induction m using Nat.strongRecOn with
  | ind m ih =>
    intro n i s₀ s H hmn w I st nf hgi
    show Seg _ A _ _ _ s₀ _ ((compTurn (gEx elt tg iter scope pos) 0 (.ref it) .none Y.env).onRaise (leaving Y.env)) [] s
    rw [compTurn_gen, Sem.onRaise_eq_wrap]
    refine seg_bind_wrap (wpAny_standAt ?_)
    rcases turn i m H w with ⟨stop, qq⟩ | ⟨go, Nx, hNx, step⟩
    · refine seg_bind_wrap ?_
      rw [hA]
      refine wpAny_gsz (Nat.succ_le_of_lt hgi) (wpAny_mono (T.done Y rfl rfl rfl hc i [] s _ H (fun _ _ => False) I (stat I nf) st stop) (fun r s1 ⟨hr, I1⟩ hz => ?_) fun _ _ z => z.elim)
      subst hr
      exact seg_end (.ok .next) ⟨rfl, _, _, I1, hz, qq⟩
    · refine seg_bind_wrap ?_
      rw [hA]
      refine wpAny_gsz (Nat.succ_le_of_lt hgi) (wpAny_mono (T.item Y rfl rfl rfl hc i [] s _ H (fun _ _ => False) I (stat I nf) st go) (fun r s1 ⟨u, hr, h1⟩ hz1 => ?_) fun _ _ z => z.elim)
      subst hr
      refine seg_bind_wrap ?_
      rw [hA]
      refine wpAny_gsz hz1 (wpAny_mono h1 (fun _ s2 ⟨x, H2, I2, r2, y2, st2, n2⟩ hz2 => ?_) fun _ _ z => z.elim)
      have I2p := I2.pinned (stat I2 n2) (T.obj _ _ st2)
      refine seg_bind_wrap ?_
      rw [hA]
      refine wpAny_gsz hz2 (wpAny_mono (hg.run _ s2 _ H2 x u _ I2p r2 (step x H2 y2)) (fun _ s3 ⟨σ3, H3, I3, hw3, q3⟩ hz3 => ?_) fun _ _ z => by rw [hx] at z; exact z.elim)
      simp only [List.forIn_nil]
      refine seg_bind_wrap (wpAny_pure ?_)
      simp only [if_true]
      have hy : ∀ v, yieldOut Y.env v = yieldValue v := fun v => by simp only [yieldOut, hco, Bool.false_eq_true, if_false]
      simp only [hy]
      rw [Sem.bind_eq_wrap', Sem.bind_eq_wrap', Sem.wrap_wrap, Sem.wrap_wrap]
      refine seg_wrap ?_
      rw [hA]
      refine wpAny_gsz hz3 (wpAny_mono (he.run _ s3 σ3 H3 _ I3 q3) (fun y s4 ⟨yv, H4, I4, r4, q4⟩ hz4 => ?_) fun _ _ z => by rw [hx] at z; exact z.elim)
      obtain ⟨b, rfl, q4⟩ := q4
      have r4 : y = .bool b := r4
      subst r4
      have pin4 : ∀ b ∈ fp, ∀ o, s2.heap.get? b = some o → s4.heap.get? b = some o ∧ H4 b = none := fun b hb o e =>
        let z := I4.pin (b, o) (List.mem_append_right _ (List.mem_append_right _ (mem_pinsAt hb e)))
        ⟨z.1, z.2.1⟩
      have hl : (wipe σ0 vs).length = σ3.length := by rw [← hw3, wipe_length]
      have I5 : Inv Y [] (wipe σ0 vs) H4 s4 := (I4.unpinned (pins := [])).weak hl fun j v e => by
        rw [← hw3] at e
        exact (wipe_some e).1
      have st5 : tn (i + 1) s4.heap := T.keep _ _ _ st2 fun b hb o e => (pin4 b hb o e).1
      have n5 : ∀ b ∈ fp, H4 b = none := fun b hb => by
        obtain ⟨o, e, _⟩ := T.obj _ _ st2 b hb
        exact (pin4 b hb o e).2
      obtain ⟨n, rfl⟩ : ∃ k, n = k + 1 := ⟨n - 1, by omega⟩
      · refine seg_at (seg_yield rfl rfl rfl ⟨b, _, H4, rfl, I5, hz4, fun e => by rw [if_pos e] at q4; exact q4, fun e s'' e1 e2 e3 e4 => ?_⟩)
        rw [if_neg e] at q4
        obtain ⟨m', hm', w'⟩ := hNx H4 q4
        refine seg_again rfl (ih m' hm' n (i + 1) s'' s'' H4 (by omega) w' (inv_like I5 e1 e2 e3) (by rw [e1]; exact st5) n5 e4)
end

section
variable {Y : Cx} {gi : Nat} {bs : Bool} {QT QF : Hp → Prop}
theorem seg_first {A : Around} {elt tg iter : Expr} {scope : Scope} {pos : Pos} {it : Addr} {tn : Nat → Heap → Prop} {R : GenEnd} {Z : Protocol} {n i : Nat} {s₀ s : Shared} {fp : List Addr} {J : It}
    (T : Turn Y.prog Y.w Y.K tg J fp it tn) (st : tn i s.heap)
    (h : Seg (model Y.prog Y.w) A R Z n s₀ (.compLoop (gEx elt tg iter scope pos) 0 (.ref it) .none Y.env) ((model Y.prog Y.w).den (.compLoop (gEx elt tg iter scope pos) 0 (.ref it) .none Y.env)) [] s) :
    Seg (model Y.prog Y.w) A R Z n s₀ (.compStart (gEx elt tg iter scope pos) 0 (.ref it) .none Y.env) ((model Y.prog Y.w).den (.compStart (gEx elt tg iter scope pos) 0 (.ref it) .none Y.env)) [] s := by
  show Seg _ A _ _ _ s₀ _ ((compStart (gEx elt tg iter scope pos) 0 (.ref it) .none Y.env).onRaise (leaving Y.env)) [] s
  unfold compStart
  rw [Sem.onRaise_eq_wrap]
  show Seg _ A _ _ _ s₀ _ ((ask >>= _).wrap _ _ _ _) [] s
  refine seg_bind_wrap (wpAny_askSetting ?_)
  split
  · exact seg_again rfl h
  · first
      | exact seg_bind_wrap (wpAny_rule (seg_bind_wrap (wpAny_standAt (seg_bind_wrap (T.self _ i s _ _ st (seg_again rfl h))))))
      | (refine seg_bind_wrap (wpAny_rule ?_)
         show Seg _ A _ _ _ s₀ _ ((standAt iter.pos >>= _).wrap _ _ _ _) [] s
         exact seg_bind_wrap (wpAny_standAt (seg_bind_wrap (T.self _ i s _ _ st (seg_again rfl h)))))

/-- the generator's object at a with the number gi, asleep: woken it goes on -/
structure Asleep (Y : Cx) (A : Around) (gi : Nat) (bs : Bool) (QT QF : Hp → Prop) (a : Addr) (n : Nat) (s : Shared) : Prop where
  obj : s.heap.IsGen a gi
  lim : s.heap.NoLimit
  bare : AllBare s.gens
  go : ∃ gs, s.gens[gi]? = some gs ∧ gs.Goes (model Y.prog Y.w) A (fun n s₀ r s₁ => r = .ok .next ∧ GXP Y gi QT n s₀ s₁) (GXY Y gi bs QF) n (.send .none) (s.setGen gi .running)
theorem setGen_heap (s : Shared) (g : Nat) (x : GenState) : (s.setGen g x).heap = s.heap := rfl
theorem setGen_at {s : Shared} {g : Nat} {x : GenState} (h : g < s.gens.size) : (s.setGen g x).gens[g]? = some x := by simp [Shared.setGen, h]
theorem setGen_bare {s : Shared} {g : Nat} {x : GenState} (h : AllBare s.gens) (hx : x.bare = true) : AllBare (s.setGen g x).gens := bare_set h hx
/-- next(g) -/
theorem next_gen {A : Around} {a : Addr} {oa : Obj} {n : Nat} {s : Shared} {Q : Option Value → Shared → Prop} {E : Value → Shared → Prop} (hh : A.handled = none) (hroom : A.depth < recursionLimit) (ho : ∀ h : Heap, h.get? a = some oa → h.IsGen a gi) (hp : ∀ p, p = (a, oa) → p ∈ Y.pn)
    (z : Asleep Y A.in1 gi bs QT QF a n s)
    (hend : ∀ s' σ H, Inv Y [] σ H s' → QT H → Q none s')
    (hstop : ∀ s' σ H, Inv Y [] σ H s' → QF H → Q (some (.bool bs)) s')
    (hgo : ∀ s' b m, n = m + 1 → b ≠ bs → Asleep Y A.in1 gi bs QT QF a m s' → Q (some (.bool b)) s') : wpAny (model Y.prog Y.w) A (pyNext (.ref a)) Q E s := by
  obtain ⟨gs, e1, e2⟩ := z.go
  refine wpAny_pyNext_genexpQ (P := GXP Y gi QT) hh z.lim hroom z.obj e1 e2 (fun v s1 gs' hb hv => ?_) (fun s1 hv h' kp => ?_)
  · obtain ⟨b, σ, H, rfl, I, hz, f1, f2⟩ := hv
    by_cases c : b = bs
    · subst c
      exact hstop _ σ H (inv_like I rfl rfl (setGen_bare I.bare hb)) (f1 rfl)
    · have k := f2 c ((s1.setGen gi gs').setGen gi .running) rfl rfl (setGen_bare (setGen_bare I.bare hb) rfl) (by rw [setGen_size, setGen_size]; exact hz)
      cases n with
      | zero => exact k.elim
      | succ m => exact hgo _ b m rfl c ⟨ho _ (I.pin (a, oa) (List.mem_append_left _ (hp _ rfl))).1, I.nolimit, setGen_bare I.bare hb, gs', setGen_at hz, k⟩
  · obtain ⟨σ, H, I, hz, q⟩ := hv
    exact hend _ σ H ((inv_like I rfl rfl (setGen_bare I.bare rfl) : Inv Y [] σ H (s1.setGen gi .finished)).kept (t' := (s1.setGen gi .finished).toks) kp) q

/-! ### any and all draw -/
theorem all_draws {A : Around} {a : Addr} {oa : Obj} {R : Result → Shared → Prop} (hh : A.handled = none) (hroom : A.depth < recursionLimit) (ho : ∀ h : Heap, h.get? a = some oa → h.IsGen a gi) (hp : ∀ p, p = (a, oa) → p ∈ Y.pn)
    (hT : ∀ s' σ H, Inv Y [] σ H s' → QT H → R (.ok (.ret (.bool true))) s') (hF : ∀ s' σ H, Inv Y [] σ H s' → QF H → R (.ok (.ret (.bool false))) s') :
    ∀ (n : Nat) (s : Shared), Asleep Y A.in1.in1 gi false QT QF a n s → codeAny (model Y.prog Y.w) A (.builtin "all.loop" ⟨[.ref a], []⟩) R s := by
  intro n
  induction n with
  | zero =>
    intro s z
    refine codeAny_builtin F.entry_all_loop ?_
    rw [Around.under_plainId F.plain_all_loop _]
    show wpAny _ A.in1 (pyNext (.ref a) >>= _) _ _ s
    refine wpAny_bind (next_gen (A := A.in1) hh hroom ho hp z (fun s' σ H I q => ?_) (fun s' σ H I q => ?_) fun s' b m e _ _ => absurd e (by omega))
    · exact wpAny_bind (wpAny_rule (wpAny_pure (hT s' σ H I q)))
    · refine wpAny_bind (wpAny_holding (wpAny_truthy_bool ?_))
      refine wpAny_bind (wpAny_letGo ?_)
      simp only [Bool.false_eq_true, if_false]
      exact wpAny_bind (wpAny_rule (wpAny_pure (hF s' σ H I q)))
  | succ n ih =>
    intro s z
    refine codeAny_builtin F.entry_all_loop ?_
    rw [Around.under_plainId F.plain_all_loop _]
    show wpAny _ A.in1 (pyNext (.ref a) >>= _) _ _ s
    refine wpAny_bind (next_gen (A := A.in1) hh hroom ho hp z (fun s' σ H I q => ?_) (fun s' σ H I q => ?_) fun s' b m e c z' => ?_)
    · exact wpAny_bind (wpAny_rule (wpAny_pure (hT s' σ H I q)))
    · refine wpAny_bind (wpAny_holding (wpAny_truthy_bool ?_))
      refine wpAny_bind (wpAny_letGo ?_)
      simp only [Bool.false_eq_true, if_false]
      exact wpAny_bind (wpAny_rule (wpAny_pure (hF s' σ H I q)))
    · obtain rfl : m = n := by omega
      obtain rfl : b = true := by cases b <;> simp at c ⊢
      refine wpAny_bind (wpAny_holding (wpAny_truthy_bool ?_))
      refine wpAny_bind (wpAny_letGo ?_)
      simp only [if_true]
      exact wpAny_pure ⟨plainId_quiet F.plain_all_loop _, ih _ z'⟩
theorem any_draws {A : Around} {a : Addr} {oa : Obj} {R : Result → Shared → Prop} (hh : A.handled = none) (hroom : A.depth < recursionLimit) (ho : ∀ h : Heap, h.get? a = some oa → h.IsGen a gi) (hp : ∀ p, p = (a, oa) → p ∈ Y.pn)
    (hT : ∀ s' σ H, Inv Y [] σ H s' → QT H → R (.ok (.ret (.bool false))) s') (hF : ∀ s' σ H, Inv Y [] σ H s' → QF H → R (.ok (.ret (.bool true))) s') :
    ∀ (n : Nat) (s : Shared), Asleep Y A.in1.in1 gi true QT QF a n s → codeAny (model Y.prog Y.w) A (.builtin "any.loop" ⟨[.ref a], []⟩) R s := by
  intro n
  induction n with
  | zero =>
    intro s z
    refine codeAny_builtin F.entry_any_loop ?_
    rw [Around.under_plainId F.plain_any_loop _]
    show wpAny _ A.in1 (pyNext (.ref a) >>= _) _ _ s
    refine wpAny_bind (next_gen (A := A.in1) hh hroom ho hp z (fun s' σ H I q => ?_) (fun s' σ H I q => ?_) fun s' b m e _ _ => absurd e (by omega))
    · exact wpAny_bind (wpAny_rule (wpAny_pure (hT s' σ H I q)))
    · refine wpAny_bind (wpAny_holding (wpAny_truthy_bool ?_))
      refine wpAny_bind (wpAny_letGo ?_)
      simp only [if_true]
      exact wpAny_bind (wpAny_rule (wpAny_pure (hF s' σ H I q)))
  | succ n ih =>
    intro s z
    refine codeAny_builtin F.entry_any_loop ?_
    rw [Around.under_plainId F.plain_any_loop _]
    show wpAny _ A.in1 (pyNext (.ref a) >>= _) _ _ s
    refine wpAny_bind (next_gen (A := A.in1) hh hroom ho hp z (fun s' σ H I q => ?_) (fun s' σ H I q => ?_) fun s' b m e c z' => ?_)
    · exact wpAny_bind (wpAny_rule (wpAny_pure (hT s' σ H I q)))
    · refine wpAny_bind (wpAny_holding (wpAny_truthy_bool ?_))
      refine wpAny_bind (wpAny_letGo ?_)
      simp only [if_true]
      exact wpAny_bind (wpAny_rule (wpAny_pure (hF s' σ H I q)))
    · obtain rfl : m = n := by omega
      obtain rfl : b = false := by cases b <;> simp at c ⊢
      refine wpAny_bind (wpAny_holding (wpAny_truthy_bool ?_))
      refine wpAny_bind (wpAny_letGo ?_)
      simp only [Bool.false_eq_true, if_false]
      exact wpAny_pure ⟨plainId_quiet F.plain_any_loop _, ih _ z'⟩
end

/-! ### the expression is evaluated -/
open GxR in
/-- what the consumer gets -/
structure Made (X : Cx) (pins : List (Addr × Obj)) (σ : L2.St) (bs : Bool) (QT QF : Hp → Prop) (a : Addr) (s : Shared) : Prop where
  ex : ∃ (Y : Cx) (gi n : Nat) (oa : Obj), Y.prog = X.prog ∧ Y.w = X.w ∧ (∀ h : Heap, h.get? a = some oa → h.IsGen a gi) ∧ (a, oa) ∈ Y.pn ∧ Asleep Y X.A.in1.in1 gi bs QT QF a n s ∧ ∀ σ' H' s', Inv Y [] σ' H' s' → Inv X pins σ H' s'
section
open GxR
variable {X : Cx} {pins : List (Addr × Obj)} {σ : L2.St} {H : Hp} {s : Shared}
theorem room_gx {k : Nat} {A : Around} {elt tg iter : Expr} {scope : Scope} {pos : Pos} {it : Value} {env : Env} (r : Room (k + 1) A) : Room k (A.in1.in1.over (.compLoop (gEx elt tg iter scope pos) 0 it .none env) []) :=
  ⟨r.hd, by have := r.dp; show A.depth + 0 + 1 + 3 * k + 5 < _; omega, by have := r.un; show A.units + 1 + 1 + 0 + 3 + 16 * k + 200 < _; omega⟩
theorem gen_made {c P : Addr} {elt tg iter : Expr} {gpos : Pos} {scope : Scope} {own : List (Str × Nat)} {wi : TI} {g : TG} {te : TE} {k : Nat} {bs : Bool} {QT QF : Hp → Prop} {Q' : Value → Shared → Prop}
    (hr : Room (k + 1) X.A) (TB : TabB X.base X.mg c P) (hcode : X.env.code = .ref c) (ok : GOk X.N X.env.scope scope own) (hN : X.N.Nodup) (hi : PI X tg iter wi)
    (hg : ∀ (s : Shared) (H : Hp) (C : Addr) (cl : List (Str × Addr)) (code : Value) (B : Around) (fp : List Addr) (pn : List (Addr × Obj)), Room k B → PG (Cx.gx X s H (genEnv scope cl C code builtinsNs X.env) B fp pn) tg g)
    (he : ∀ (s : Shared) (H : Hp) (C : Addr) (cl : List (Str × Addr)) (code : Value) (B : Around) (fp : List Addr) (pn : List (Addr × Obj)), Room k B → PE (Cx.gx X s H (genEnv scope cl C code builtinsNs X.env) B fp pn) elt te)
    (hs : ∀ v, genFold iter X.env v = pure v) (I : Inv X pins σ H s)
    (h : wi σ H fun J H1 => TabG H1 P ∧ ∀ H2, Tabbed P H1 H2 → ∃ W m, W 0 m H2 ∧ TurnsOk J g te (own.map (·.2)) σ bs W QT QF)
    (hQ : ∀ a s', Made X pins σ bs QT QF a s' → Q' (.ref a) s') :
    wpAny (model X.prog X.w) X.A (eval (gEx elt tg iter scope gpos) X.env) Q' X.xe s := by
  have fr : ∀ y ∈ scope.names, y.2 = .free → ∃ c, X.env.cells.lookup y.1 = some c := fun y hy e => (ok.blk.free y hy e).elim (fun k => I.ok.has _ (.inl k)) fun k => I.ok.has _ (.inr k)
  refine wpAny_GeneratorExp_make ok.co (closure_ok fr) ok.cell ok.dot ok.blk.kind (by have := hr.dp; omega) ?_ hs
  refine thn (hi.run pins s σ H _ I h) fun xv s1 hx => thn hx fun itv s2 h2 => ?_
  obtain ⟨it, fp, tn, J, H2, rfl, I2, T, st2, f2, ⟨ps, hP, ht⟩, q2⟩ := h2
  refine ⟨I2.nolimit, ?_⟩
  have hPs : s2.heap.get? P = some { cls := .none, data := .fields ps } := I2.hok P _ hP
  have cd : PySem.W.CodeHd s2.heap c P := TB.code.keeps fun b u e => I2.bk b u e
  have go : ∀ (code : Value) (h3 : Heap) (tk : Nat) (more : Array Value), Heap.ExtBut P s2.heap h3 → h3.get? P = some { cls := .none, data := .fields (ps ++ more) } → TriplesOk (ps ++ more).toList →
      wpAny (model X.prog X.w) X.A (builtinsFor X.env.globals X.env.builtins) (fun bi s₄ => ∀ h', h'.Ns s₄.heap.objs.size (fun y => if y = ".0" then some (.ref it) else none) → Heap.SameBut s₄.heap.objs.size (s₄.heap.push { cls := .type "frame", data := .dict #[] }) h' →
          Q' (.ref h'.objs.size) { s₄ with
            gens := s₄.gens.push (.fresh (.compStart (gEx elt tg iter scope gpos) 0 (.ref it) .none (genEnv scope (cloFrom X.env.cells scope.names []) s₄.heap.objs.size code bi X.env))),
            toks := s₄.toks + 1 + 1 + 1,
            heap := h'.push { cls := .type "generator", data := .fields #[.int s₄.gens.size 0, .str "<genexpr>" (s₄.toks + 1), .str (X.env.qual ++ "<genexpr>") (s₄.toks + 1 + 1)] } }) X.xe { s2 with heap := h3, toks := tk } := by
    intro code h3 tk more hx3 hP3 ht3
    obtain ⟨bm, ob, e1, e2, e3, e4, e5, e6, e7, e8⟩ := TB.bm
    have I3 : Inv X pins σ (upd H2 P (.tbl (ps ++ more))) { s2 with heap := h3, toks := tk } := inv_tab (more := more) (h' := h3) (g' := s2.gens) (d' := s2.drawn) (t' := tk) I2 hP (fun b o hb e => hx3 b o hb e) hP3 I2.bare
    refine wpAny_builtinsFor (m := X.mg) (by rw [I2.ok.glob]; exact (I2.mod.glob.keeps I2.bk).extBut hx3 TB.gP) e1 e2 (hx3 _ _ e4 (I2.bk _ _ e5)) e6 e7 e8 ?_
    intro h' hn' hs'
    obtain ⟨W, m0, w0, turn⟩ := q2 (upd H2 P (.tbl (ps ++ more))) ⟨⟨ps ++ more, upd_same, ht3⟩, fun b hb => upd_ne hb⟩
    generalize hs3 : ({ s2 with heap := h3, toks := tk } : Shared) = s3 at I3 hn' hs' ⊢
    have e3h : s3.heap = h3 := by rw [← hs3]
    have sz' : h'.objs.size = s3.heap.objs.size + 1 := by rw [hs'.1, Heap.size_push]
    have kp0 : ∀ b o, s3.heap.get? b = some o → h'.get? b = some o := fun b o e => hs'.extBut b o (Nat.ne_of_lt (Heap.lt_size e)) (Heap.get?_push_of_some _ e)
    generalize hoa : ({ cls := .type "generator", data := .fields #[.int s3.gens.size 0, .str "<genexpr>" (s3.toks + 1), .str (X.env.qual ++ "<genexpr>") (s3.toks + 1 + 1)] } : Obj) = oa
    have isg : ∀ h : Heap, h.get? h'.objs.size = some oa → h.IsGen h'.objs.size s3.gens.size := fun h e => by
      rw [← hoa] at e
      exact ⟨_, _, _, e, rfl, rfl, rfl⟩
    have kp : ∀ b o, s3.heap.get? b = some o → (h'.push oa).get? b = some o := fun b o e => Heap.get?_push_of_some _ (kp0 b o e)
    have hot : (h'.push oa).get? h'.objs.size = some oa := Heap.get?_push_size _ (by rw [← hoa]; rfl)
    have nP : ∀ b ∈ fp, b ≠ P := fun b hb e => by
      have z := (f2 b hb).1
      rw [e, hP] at z
      cases z
    have f3 : ∀ b ∈ fp, FpOk X pins (upd H2 P (.tbl (ps ++ more))) b ∧ b < s3.heap.objs.size := fun b hb => by
      obtain ⟨o, e, _⟩ := T.obj _ _ st2 b hb
      exact ⟨⟨by rw [upd_ne (nP b hb)]; exact (f2 b hb).1, (f2 b hb).2⟩, by rw [e3h]; exact Heap.lt_size (hx3 b o (nP b hb) e)⟩
    let B := X.A.in1.in1.over (.compLoop (gEx elt tg iter scope gpos) 0 (.ref it) .none (genEnv scope (cloFrom X.env.cells scope.names []) s3.heap.objs.size code builtinsNs X.env)) []
    have rB : Room k B := room_gx hr
    have I5 := gx_start (B := B) (code := code) (t' := s3.toks + 1 + 1 + 1) (oa := oa) (a := h'.objs.size) (h' := h'.push oa) I3 ok hN f3 rB.hd (by show pushEnvs [_] (pushEnvs [] X.A.frames) = _; rw [I2.ok.frames]; rfl) (hn'.push _) kp hot (by omega) (by rw [← hoa]; intro v z; cases z) (I3.bare.push (g := .fresh (.compStart (gEx elt tg iter scope gpos) 0 (.ref it) .none (genEnv scope (cloFrom X.env.cells scope.names []) s3.heap.objs.size code builtinsNs X.env))) rfl)
    refine hQ _ _ ⟨Cx.gx X s3 (upd H2 P (.tbl (ps ++ more))) (genEnv scope (cloFrom X.env.cells scope.names []) s3.heap.objs.size code builtinsNs X.env) B fp [(h'.objs.size, oa)], s3.gens.size, m0 + 1, oa, rfl, rfl, isg, List.mem_singleton.mpr rfl, ⟨isg _ hot, I5.nolimit, I5.bare, _, Array.getElem?_push_size .., ⟨rfl, ?_⟩⟩, ?_⟩
    · have st5 : tn 0 (h'.push oa) := T.keep _ _ _ st2 fun b hb o e => kp b o (by rw [e3h]; exact hx3 b o (nP b hb) e)
      refine seg_first (Y := Cx.gx X s3 (upd H2 P (.tbl (ps ++ more))) (genEnv scope (cloFrom X.env.cells scope.names []) s3.heap.objs.size code builtinsNs X.env) B fp [(h'.objs.size, oa)]) T st5 ?_
      refine seg_turns (Y := Cx.gx X s3 (upd H2 P (.tbl (ps ++ more))) (genEnv scope (cloFrom X.env.cells scope.names []) s3.heap.objs.size code builtinsNs X.env) B fp [(h'.objs.size, oa)]) (fp := fp) rfl rfl ok.co rfl rfl (fun b hb p hp => ?_) T (hg _ _ _ _ _ _ _ _ rB) (he _ _ _ _ _ _ _ _ rB) turn m0 (m0 + 1) 0 _ _ _ (Nat.lt_succ_self _) w0
        (inv_like I5 rfl rfl (setGen_bare I5.bare rfl)) st5 (fun b hb => (f3 b hb).1.1) (by rw [setGen_size]; show s3.gens.size < (s3.gens.push _).size; rw [Array.size_push]; exact Nat.lt_succ_self _)
      rw [List.mem_singleton.mp hp]
      exact Nat.ne_of_gt (Nat.lt_of_lt_of_le (f3 b hb).2 (by omega))
    · intro σ' H' s' J
      exact I3.call' (ch := fp) J.os J.base J.hok J.bare fun b hb => ⟨(f3 b hb).1.2.2.2.1, (f3 b hb).1.2.1, (f3 b hb).1.2.2.2.2.1, (f3 b hb).1.2.2.2.2.2⟩
  cases hf : codeAmong gpos ps.toList with
  | none =>
    refine wpAny_genexprCodeX hcode (cd.code hPs ht) (cd.tab hPs) hf fun c' h' tk hx hge hlt hco' _ htab' _ => ?_
    obtain ⟨o1, vs, f1, tf, fl, tg, inF, tx, tt, op, _, _, _, _, _, _, _, _, _, htr, _⟩ := hco'
    exact go _ h' tk _ hx htab'.2 htr
  | some cv =>
    refine wpAny_genexprCode_hit hcode (cd.code hPs ht) hf ?_
    exact go cv s2.heap s2.toks #[] (Heap.ExtBut.refl _ _) (by rw [hPs]; simp) (by simpa using ht)

/-- all(..), any(..): behind it the def's table may have grown -/
def tQuant (bs : Bool) (P : Addr) (wi : TI) (g : TG) (te : TE) (vs : List Nat) : TE := fun σ H Q => wi σ H fun J H1 => TabG H1 P ∧ ∀ H2, Tabbed P H1 H2 → ∃ W m, W 0 m H2 ∧ TurnsOk J g te vs σ bs W (Q (.bl (!bs))) (Q (.bl bs))
theorem pe_allG {c P : Addr} {elt tg iter : Expr} {p pos gpos : Pos} {scope : Scope} {own : List (Str × Nat)} {wi : TI} {g : TG} {te : TE} {k : Nat}
    (hr : Room (k + 1) X.A) (gl : Gl X "all") (hm : X.mg "all" = none) (hb : bootBuiltins "all" = some (.builtin "all")) (TB : TabB X.base X.mg c P) (hcode : X.env.code = .ref c) (ok : GOk X.N X.env.scope scope own) (hN : X.N.Nodup) (hi : PI X tg iter wi)
    (hg : ∀ (s : Shared) (H : Hp) (C : Addr) (cl : List (Str × Addr)) (code : Value) (B : Around) (fp : List Addr) (pn : List (Addr × Obj)), Room k B → PG (Cx.gx X s H (genEnv scope cl C code builtinsNs X.env) B fp pn) tg g)
    (he : ∀ (s : Shared) (H : Hp) (C : Addr) (cl : List (Str × Addr)) (code : Value) (B : Around) (fp : List Addr) (pn : List (Addr × Obj)), Room k B → PE (Cx.gx X s H (genEnv scope cl C code builtinsNs X.env) B fp pn) elt te)
    (hs : ∀ v, genFold iter X.env v = pure v := by intro _; rfl)
    (h1 : starEach [gEx elt tg iter scope gpos] X.env = (false, eval (gEx elt tg iter scope gpos) X.env) :: starEach [] X.env := by rfl) :
    PE X (.Call (.Name "all" p) [gEx elt tg iter scope gpos] [] pos) (tQuant false P wi g te (own.map (·.2))) := by
  refine ⟨fun pins s σ H Q I h => ?_⟩
  refine wpAny_Call_Name_kw (ld_blt I gl hm hb ?_)
  refine PyProof.Rows.callWith_builtin1 ?_ h1 (by rfl)
  rw [h1]
  show wpAny _ _ (spliced ((false, eval (gEx elt tg iter scope gpos) X.env) :: backTo pos (starEach [] X.env))) _ _ s
  refine Calls.spliced_cons (gen_made hr TB hcode ok hN hi hg he hs I h fun a s' ⟨Y, gi, n, oa, e1, e2, ho, hp, z, back⟩ => ?_)
  refine Calls.spliced_nil ?_
  refine call_function_tree F.kind_all F.plain_all F.entry_all (F.args_all1 _) ?_
  unfold Builtin.«all»
  refine wpAny_bind (m := oneArg "all" _) (wpAny_pure ?_)
  refine wpAny_bind (wpAny_pyIter_gen z.obj ?_)
  refine wpAny_pure ⟨plainId_quiet F.plain_all_loop _, ?_⟩
  rw [← e1, ← e2]
  exact all_draws (A := X.A) hr.hd hr.depth ho (fun p e => by rw [e]; exact hp) (fun s' σ' H' J q => ⟨.bl true, H', back σ' H' s' J, rfl, q⟩) (fun s' σ' H' J q => ⟨.bl false, H', back σ' H' s' J, rfl, q⟩) n s' z
theorem pe_anyG {c P : Addr} {elt tg iter : Expr} {p pos gpos : Pos} {scope : Scope} {own : List (Str × Nat)} {wi : TI} {g : TG} {te : TE} {k : Nat}
    (hr : Room (k + 1) X.A) (gl : Gl X "any") (hm : X.mg "any" = none) (hb : bootBuiltins "any" = some (.builtin "any")) (TB : TabB X.base X.mg c P) (hcode : X.env.code = .ref c) (ok : GOk X.N X.env.scope scope own) (hN : X.N.Nodup) (hi : PI X tg iter wi)
    (hg : ∀ (s : Shared) (H : Hp) (C : Addr) (cl : List (Str × Addr)) (code : Value) (B : Around) (fp : List Addr) (pn : List (Addr × Obj)), Room k B → PG (Cx.gx X s H (genEnv scope cl C code builtinsNs X.env) B fp pn) tg g)
    (he : ∀ (s : Shared) (H : Hp) (C : Addr) (cl : List (Str × Addr)) (code : Value) (B : Around) (fp : List Addr) (pn : List (Addr × Obj)), Room k B → PE (Cx.gx X s H (genEnv scope cl C code builtinsNs X.env) B fp pn) elt te)
    (hs : ∀ v, genFold iter X.env v = pure v := by intro _; rfl)
    (h1 : starEach [gEx elt tg iter scope gpos] X.env = (false, eval (gEx elt tg iter scope gpos) X.env) :: starEach [] X.env := by rfl) :
    PE X (.Call (.Name "any" p) [gEx elt tg iter scope gpos] [] pos) (tQuant true P wi g te (own.map (·.2))) := by
  refine ⟨fun pins s σ H Q I h => ?_⟩
  refine wpAny_Call_Name_kw (ld_blt I gl hm hb ?_)
  refine PyProof.Rows.callWith_builtin1 ?_ h1 (by rfl)
  rw [h1]
  show wpAny _ _ (spliced ((false, eval (gEx elt tg iter scope gpos) X.env) :: backTo pos (starEach [] X.env))) _ _ s
  refine Calls.spliced_cons (gen_made hr TB hcode ok hN hi hg he hs I h fun a s' ⟨Y, gi, n, oa, e1, e2, ho, hp, z, back⟩ => ?_)
  refine Calls.spliced_nil ?_
  refine call_function_tree F.kind_any F.plain_any F.entry_any (F.args_any1 _) ?_
  unfold Builtin.«any»
  refine wpAny_bind (m := oneArg "any" _) (wpAny_pure ?_)
  refine wpAny_bind (wpAny_pyIter_gen z.obj ?_)
  refine wpAny_pure ⟨plainId_quiet F.plain_any_loop _, ?_⟩
  rw [← e1, ← e2]
  exact any_draws (A := X.A) hr.hd hr.depth ho (fun p e => by rw [e]; exact hp) (fun s' σ' H' J q => ⟨.bl false, H', back σ' H' s' J, rfl, q⟩) (fun s' σ' H' J q => ⟨.bl true, H', back σ' H' s' J, rfl, q⟩) n s' z
end
end GX
set_option linter.all false
set_option maxRecDepth 100000
set_option maxHeartbeats 1000000
namespace SV
open PySem PySem.Spec PyProof.Rows L2 NB RZ

/-! ### any and all -/
def quN (bs : Bool) (its : Wk) (t : Tgt) (te : FE) (E : En) : Nat → Nat → Sto → R Bool
  | 0, _, _ => .bad
  | n + 1, i, S => match nxt its i S with
    | none => .bad
    | some none => .ok (!bs) S
    | some (some d) => match t.put d E with
      | none => .bad
      | some E1 => match te E1 S with
        | .ok (.p (.bool b)) S1 => if b = bs then .ok bs S1 else quN bs its t te E n (i + 1) S1
        | _ => .bad
/-- the tables of code objects that may grow stand at the store's first place -/
def hasTab (S : Sto) (P : Addr) : Bool := match (S[(0 : Nat)]? : Option Ob) with
  | some (.tabs Ps) => decide (P ∈ Ps)
  | _ => false
def fQu (bs : Bool) (P : Addr) (it : FI) (t : Tgt) (vs : List Nat) (te : FE) : FE := fun E S => (it E S).bind fun its S1 =>
  if hasTab S1 P then (quN bs its t te (wipeE E vs) its.fuel 0 S1).bind fun b S2 => .ok (dBl b) S2 else .bad
theorem hasTab_ok {K : PySem.W.Frag} {H : Hp} {w : Vw} {S : Sto} {P : Addr} (s : StR K H w S) (h : hasTab S P = true) : GxR.TabG H P := by
  unfold hasTab at h
  split at h
  · rename_i Ps e
    obtain ⟨a, ho, _, _, q⟩ := s.get e
    have hP : P ∈ Ps := by simpa using h
    cases ho with
    | tbl ps => exact q P hP
    | _ => exact q.elim
  · cases h
theorem qu_sound {bs : Bool} {P : Addr} {it : FI} {t : Tgt} {te : FE} {K : PySem.W.Frag} {W : WX} {vs : List Nat} (ht : ∀ i ∈ t.slots, i ∈ vs) {σ : L2.St} {H : Hp} {Q : VK} (h : teOf K W (fQu bs P it t vs te) σ H Q) :
    GX.tQuant bs P (tiOf K W it) (t.tg K) (teOf K noW te) vs σ H Q := by
  obtain ⟨w, E, S, hE, hS, hP⟩ := h
  refine ⟨w, E, S, hE, hS, Post.imp (Post.bind hP) fun its S1 H1 w1 e1 s1 q J hJ => ?_⟩
  have hE1 := hE.ext e1
  split at q
  · rename_i hT
    have hG := hasTab_ok s1 hT
    refine ⟨hG, fun H2 g2 => ?_⟩
    have e2 : Ext K H1 w1 H2 w1 := Ext.grow hG g2
    have s2 := s1.grow hG g2
    refine ⟨fun i m H => ∃ w' S', Ext K H2 w1 H w' ∧ StR K H w' S' ∧ Post K W H w' (quN bs its t te (wipeE E vs) m i S') (fun b S3 H3 w3 => PostV K W H3 w3 (.ok (dBl b) S3) Q), its.fuel, ⟨w1, S1, Ext.refl, s2, (Post.bind q).ext e2⟩, ?_⟩
    rintro i m H3 ⟨w', S', e3, s3, hq⟩
    have fin : ∀ {b : Bool} {S4 : Sto} {H4 : Hp} {w4 : Vw}, StR K H4 w4 S4 → PostV K W H4 w4 (.ok (dBl b) S4) Q → Q (.bl b) H4 := fun s z => PostV.same z s (.p (.bl _))
    cases m with
    | zero => exact hq.elim
    | succ n =>
      unfold quN at hq
      split at hq
      · exact hq.elim
      · rename_i e
        exact .inl ⟨hJ.stop H3 w' S' (e2.trans e3).wk s3 i e, fin s3 (Post.same (κ := fun b S3 H3 w3 => PostV K W H3 w3 (.ok (dBl b) S3) Q) hq s3)⟩
      · rename_i d e
        obtain ⟨j1, j2⟩ := hJ.go H3 w' S' (e2.trans e3).wk s3 i d e
        refine .inr ⟨j1, _, fun H' z => ⟨n, Nat.lt_succ_self n, z⟩, fun v H4 y => ?_⟩
        obtain ⟨k1, k2, k3⟩ := j2 v H4 y
        split at hq
        · exact hq.elim
        · rename_i E1 eE
          have hq4 := hq.ext k1
          refine tgt_putG t eE ((hE1.ext (e2.trans (e3.trans k1))).wipe) k3 ht (wipe_twice _ _) fun σ2 hE2 hw => ⟨hw, w', E1, S', hE2, k2, ?_⟩
          cases hte : te E1 S' with
          | exc _ _ _ => rw [hte] at hq4; exact hq4.elim
          | bad => rw [hte] at hq4; exact hq4.elim
          | ok y S5 =>
            rw [hte] at hq4
            refine fun H5 w5 e5 s5 yv ry => ?_
            split at hq4
            · rename_i b S6 e6
              injection e6 with e6 e7
              subst e6; subst e7
              cases ry with
              | p ry =>
                cases ry
                refine ⟨b, rfl, ?_⟩
                split at hq4
                · rename_i c
                  rw [if_pos c]
                  exact fin s5 (Post.same (κ := fun b S3 H3 w3 => PostV K W H3 w3 (.ok (dBl b) S3) Q) (hq4.ext e5) s5)
                · rename_i c
                  rw [if_neg c]
                  exact ⟨w5, _, e3.trans (k1.trans e5), s5, hq4.ext e5⟩
            · exact hq4.elim
  · exact q.elim
section
variable {X : Cx} {W : WX} {elt tg iter : Expr} {scope : Scope} {own : List (Str × Nat)} {p pos gpos : Pos} {k : Nat} {c P : Addr}
theorem re_all {it : FI} {t : Tgt} {te : FE} (hr : Room (k + 1) X.A) (gl : Gl X "all") (hm : X.mg "all" = none) (hb : bootBuiltins "all" = some (.builtin "all")) (TB : GxR.TabB X.base X.mg c P) (hcode : X.env.code = .ref c) (ok : GX.GOk X.N X.env.scope scope own) (hN : X.N.Nodup) (hi : RI X W tg iter it)
    (ht : ∀ i ∈ t.slots, i ∈ own.map (·.2))
    (hg : ∀ (s : Shared) (H : Hp) (C : Addr) (cl : List (Str × Addr)) (code : Value) (B : Around) (fp : List Addr) (pn : List (Addr × Obj)), Room k B → PG (GX.Cx.gx X s H (genEnv scope cl C code builtinsNs X.env) B fp pn) tg (t.tg X.K))
    (he : ∀ (s : Shared) (H : Hp) (C : Addr) (cl : List (Str × Addr)) (code : Value) (B : Around) (fp : List Addr) (pn : List (Addr × Obj)), Room k B → RE (GX.Cx.gx X s H (genEnv scope cl C code builtinsNs X.env) B fp pn) noW elt te)
    (hs : ∀ v, genFold iter X.env v = pure v := by intro _; rfl)
    (h1 : starEach [GX.gEx elt tg iter scope gpos] X.env = (false, eval (GX.gEx elt tg iter scope gpos) X.env) :: starEach [] X.env := by rfl) :
    RE X W (.Call (.Name "all" p) [GX.gEx elt tg iter scope gpos] [] pos) (fQu false P it t (own.map (·.2)) te) :=
  PE.wk (GX.pe_allG (te := teOf X.K noW te) (g := t.tg X.K) hr gl hm hb TB hcode ok hN hi hg he hs h1) fun σ H Q h => qu_sound ht h
theorem re_any {it : FI} {t : Tgt} {te : FE} (hr : Room (k + 1) X.A) (gl : Gl X "any") (hm : X.mg "any" = none) (hb : bootBuiltins "any" = some (.builtin "any")) (TB : GxR.TabB X.base X.mg c P) (hcode : X.env.code = .ref c) (ok : GX.GOk X.N X.env.scope scope own) (hN : X.N.Nodup) (hi : RI X W tg iter it)
    (ht : ∀ i ∈ t.slots, i ∈ own.map (·.2))
    (hg : ∀ (s : Shared) (H : Hp) (C : Addr) (cl : List (Str × Addr)) (code : Value) (B : Around) (fp : List Addr) (pn : List (Addr × Obj)), Room k B → PG (GX.Cx.gx X s H (genEnv scope cl C code builtinsNs X.env) B fp pn) tg (t.tg X.K))
    (he : ∀ (s : Shared) (H : Hp) (C : Addr) (cl : List (Str × Addr)) (code : Value) (B : Around) (fp : List Addr) (pn : List (Addr × Obj)), Room k B → RE (GX.Cx.gx X s H (genEnv scope cl C code builtinsNs X.env) B fp pn) noW elt te)
    (hs : ∀ v, genFold iter X.env v = pure v := by intro _; rfl)
    (h1 : starEach [GX.gEx elt tg iter scope gpos] X.env = (false, eval (GX.gEx elt tg iter scope gpos) X.env) :: starEach [] X.env := by rfl) :
    RE X W (.Call (.Name "any" p) [GX.gEx elt tg iter scope gpos] [] pos) (fQu true P it t (own.map (·.2)) te) :=
  PE.wk (GX.pe_anyG (te := teOf X.K noW te) (g := t.tg X.K) hr gl hm hb TB hcode ok hN hi hg he hs h1) fun σ H Q h => qu_sound ht h
end
end SV
set_option linter.all false
set_option maxRecDepth 100000
set_option maxHeartbeats 1000000
namespace SV
open PySem PySem.Spec PyProof.Rows L2 NB RZ

/-! ### defs whose code object is known -/
section
variable {P : Program} {W_ : World} {K : PySem.W.Frag} {mg : Str → Option Value} {base : Heap}
theorem fn_svC {x qual : Str} {st : Stmt} {f c : Addr} {fd : FuncData} {N ps : List Str} {k : Nat} {fb : FS} (F : Fun K x qual st f fd) (hc : fd.code = .ref c) (SC : FnScope N ps (defScope st))
    (hb : ∀ (A : Around) (outer : List Env) (s : Shared) (H : Hp) (E : XK), Room k (A.deeper (envOfC qual (defScope st) s.heap.objs.size f (.ref c))) →
      RSs (cxOf CX0 P W_ K mg base N qual (defScope st) f (.ref c) A outer s H E).nox (wOf E) (defBody st) fb) :
    FnOk P W_ K mg base CX0 (k + 1) f fd ps (spOf K ps.length (defF N.length fb)) := by
  obtain ⟨oc, od, kV, doc, pm, an, cdv, ct, osl, rfl, lk, hcd⟩ := F.ex
  obtain rfl : cdv = .ref c := hc
  refine fn_of lk hcd SC (fun vs H Q E h => h.1) fun A outer s H vs Q E hr h => ?_
  obtain ⟨hl, w, ds, S, hR, hS, hP⟩ := h
  refine ⟨_, (hb A outer s H E hr).nox, w, _, S, enR_start hR, hS, ?_⟩
  have hP2 := Post.at hP (fun _ _ _ _ _ h => h) ⟨[], fun H' w' _ => ⟨rfl, fun i d q => by simp at q⟩⟩
  clear hP
  show Post K (wOf E) H w (fb (startE N.length ds) S) _
  cases hf : fb (startE N.length ds) S with
  | bad => rw [hf] at hP2; exact hP2.elim
  | exc e E' S1 => rw [hf] at hP2; exact hP2
  | ok fl S1 =>
    rw [hf] at hP2
    intro H' w' e1 s1
    cases fl with
    | nx E1 => exact fun σ' _ => leave_ok hS e1 s1 (.p .non) hP2
    | ret d => exact fun v rv => leave_ok hS e1 s1 rv hP2
    | brk _ => exact hP2.elim
    | ct _ => exact hP2.elim
end
theorem gok_by {N : List Str} {sc scope : Scope} {own : List (Str × Nat)} (b : BlkOk N sc scope own) (h1 : scope.isCoroutine = false) (h2 : (scope.names.all fun y => !(y.2 == .cell)) = true) (h3 : scope.names.lookup (".0" : Str) = some NameKind.local) : GX.GOk N sc scope own :=
  ⟨b, h1, (fun y hy e => by
    have := List.all_eq_true.mp h2 y hy
    rw [e] at this
    cases this), h3⟩

/-! ### the law's call, its own def known at the caller's place alone, tables standing -/
theorem callT {P : Program} {w : World} {K : PySem.W.Frag} {mg mb : Str → Option Value} {fa a : Addr} {cs : List (Addr × Addr)} {fd : FuncData} {x : Str} {sp : Sp} {s1 : Shared} {vs : List Value} {ns : List Int}
    (KX : K.In s1.heap) (hns : s1.heap.Ns mainGlobals mg) (hb : s1.heap.Ns builtinsNs mb) (hbb : ∀ x : Str, x ≠ "__name__" → mb x = bootBuiltins x) (hlim : s1.heap.NoLimit) (hg : s1.gens = #[])
    (hT : ∀ p ∈ cs, s1.heap.get? p.2 = some { cls := .none, data := .fields #[] }) (nT : ∀ p ∈ cs, K.lookup p.2 = none) (C : ∀ p ∈ cs, PySem.W.CodeHd s1.heap p.1 p.2)
    (hbm : ∃ (bm : Addr) (ob : Obj), mg "__builtins__" = some (.ref bm) ∧ bm ≠ builtinsNs ∧ s1.heap.get? bm = some ob ∧ ob.cls = .type "module" ∧ ob.dict = some builtinsNs ∧ ob.data = .plain)
    (ha : s1.heap.get? a = some { cls := .type "list", data := .seq vs.toArray }) (hi : IntsAre vs ns) (hl : ns.length ≤ sizeLine)
    (F : ∀ base : Heap, K.In base → base.Ns mainGlobals mg → (∀ p ∈ cs, GxR.TabB base mg p.1 p.2) → FnA callerA P w K mg base CX0 fa fd [x] sp) (hbind : ∀ (s : Shared) (u : Value), BindsTo s fd ⟨[u], []⟩ [(x, u)])
    (hsp : ∀ H : Hp, (∀ p ∈ cs, H p.2 = some (.tbl #[])) → (∀ p ∈ cs, p.2 ≠ a) → SqL K H a (ns.map V.int) → sp [.ref a] H (fun v _ => v = .bl true) E0) :
    codeAny (model P w) callerA (.call (.ref fa) ⟨[.ref a], []⟩) (fun r s' => r = .ok (.ret (.bool true)) ∧ OldK s1.heap s'.heap ∧ s'.os = s1.os ∧ AllBare s'.gens) s1 := by
  have rv := vals_ints hi
  let ob : Obj := { cls := .type "list", data := .seq vs.toArray }
  have hob : s1.heap.get? a = some ob := ha
  have isT : ∀ b, b ∈ cs.map (·.2) → s1.heap.get? b = some { cls := .none, data := .fields #[] } := fun b hb => by
    obtain ⟨p, hp, rfl⟩ := List.mem_map.mp hb
    exact hT p hp
  have aT : a ∉ cs.map (·.2) := fun z => by
    have q := isT a z
    rw [hob] at q
    have z' : Data.seq vs.toArray _ = Data.fields #[] := congrArg Obj.data (Option.some.inj q)
    cases z'
  have memT : ∀ p ∈ cs, p.2 ∈ cs.map (·.2) := fun p hp => List.mem_map.mpr ⟨p, hp, rfl⟩
  let H : Hp := fun b => if b = a ∧ K.lookup a = none then some (.frz ob (.lst (ns.map V.int))) else if b ∈ cs.map (·.2) then some (.tbl #[]) else none
  have Hn : ∀ b, H b = none ∨ (b = a ∧ K.lookup a = none ∧ H b = some (.frz ob (.lst (ns.map V.int)))) ∨ (b ∈ cs.map (·.2) ∧ H b = some (.tbl #[])) := fun b => by
    by_cases c : b = a ∧ K.lookup a = none
    · exact .inr (.inl ⟨c.1, c.2, if_pos c⟩)
    · by_cases d : b ∈ cs.map (·.2)
      · exact .inr (.inr ⟨d, (if_neg c).trans (if_pos d)⟩)
      · exact .inl ((if_neg c).trans (if_neg d))
  have nf : ∀ b o, s1.heap.get? b = some o → (∀ vs n, o.data ≠ .seq vs n) → o.data ≠ .fields #[] → H b = none := fun b o e h1 h2 => by
    rcases Hn b with z | ⟨rfl, _, _⟩ | ⟨d, _⟩
    · exact z
    · rw [hob] at e; cases e; exact (h1 _ _ rfl).elim
    · rw [isT b d] at e; cases e; exact (h2 rfl).elim
  have free : ∀ b o, s1.heap.get? b = some o → (∀ es ep, o.data = .dict es ep → H b = none) := fun b o e es ep hd => nf b o e (fun _ _ z => by rw [hd] at z; cases z) fun z => by rw [hd] at z; cases z
  have nsK : ∀ {b : Addr} {m : Str → Option Value}, s1.heap.Ns b m → (hidT s1.heap H).Ns b m := fun {b m} z => by
    obtain ⟨o, es, ep, e, hd, rest⟩ := z
    exact ⟨o, es, ep, hidT_get e (free b o e es ep hd), hd, rest⟩
  have KB : K.In (hidT s1.heap H) := fun b o e => hidT_get (KX b o e) (by
    rcases Hn b with z | ⟨rfl, hk, _⟩ | ⟨d, _⟩
    · exact z
    · rw [hk] at e; cases e
    · obtain ⟨p, hp, ep⟩ := List.mem_map.mp d
      rw [← ep, nT p hp] at e
      cases e)
  have tbs : ∀ p ∈ cs, GxR.TabB (hidT s1.heap H) mg p.1 p.2 := fun p hp => by
    have hPt := hT p hp
    obtain ⟨o, vs2, file, tf, fl, tg, inF, tx, tt, c1, c2, c3, c4, c5, c6, c7, c8, c9, c10⟩ := C p hp
    obtain ⟨mc, hbs, e1, e2, e3, e4, e5, e6⟩ := hbm
    refine ⟨⟨o, vs2, file, tf, fl, tg, inF, tx, tt, hidT_get c1 (nf _ _ c1 (fun _ _ z => by rw [c3] at z; cases z) fun z => ?_), c2, c3, c4, c5, c6, c7, c8, c9, c10⟩, ?_, ?_⟩
    · rw [c3] at z
      injection z with z
      rw [z] at c4
      simp at c4
    · have nbs : H mc = none := nf _ _ e3 (fun _ _ z => by rw [e6] at z; cases z) fun z => by rw [e6] at z; cases z
      have nP : builtinsNs ≠ p.2 := fun z => by
        obtain ⟨o', es, ep, h1, h2, _⟩ := hb
        rw [z, hPt] at h1
        cases h1
        cases h2
      have nM : mc ≠ p.2 := fun z => by
        rw [z, hPt] at e3
        cases e3
        cases e6
      have nG : mc ≠ mainGlobals := fun z => by
        obtain ⟨o', es, ep, h1, h2, _⟩ := hns
        rw [z, h1] at e3
        cases e3
        rw [h2] at e6
        cases e6
      exact ⟨mc, hbs, e1, e2, nG, nM, hidT_get e3 nbs, e4, e5, e6⟩
    · intro z
      obtain ⟨o', es, ep, h1, h2, _⟩ := hns
      rw [z, hPt] at h1
      cases h1
      cases h2
  have ok : HOk P w H s1.heap := fun b o e => by
    rcases Hn b with z | ⟨rfl, hk, z⟩ | ⟨d, z⟩
    · rw [z] at e; cases e
    · rw [z] at e
      cases e
      exact ⟨ha, by rw [List.length_map]; exact hl, vs, _, rv, ha⟩
    · rw [z] at e
      cases e
      exact isT b d
  have hS : SqL K H a (ns.map V.int) := by
    cases hk : K.lookup a with
    | none => exact .inl (.inr ⟨ob, if_pos ⟨rfl, hk⟩⟩)
    | some o =>
      have e := (KX a o hk).symm.trans ha
      obtain rfl := Option.some.inj e
      exact .inr ⟨_, vs.toArray, _, hk, rfl, rfl, rfl, by rw [List.size_toArray, hi.length]; exact hl, by simpa using rv⟩
  have M : Mod K mg (hidT s1.heap H) := ⟨KB, nsK hns, ⟨mb, nsK hb, hbb⟩, by obtain ⟨mc, h1, h2⟩ := hlim; exact ⟨mc, nsK h1, h2⟩⟩
  have e0 : Env0 P w K mg (hidT s1.heap H) callerA [] s1 H :=
    ⟨rfl, M, fun b o e => of_hidT e, Nat.le_of_eq (hidT_size _ _), trivial, fun b hb => (by cases hb), ok, .of_eq hg⟩
  have hH : ∀ p ∈ cs, H p.2 = some (.tbl #[]) := fun p hp => by
    rcases Hn p.2 with z | ⟨e, _, _⟩ | ⟨_, z⟩
    · exact absurd z (by
        have c : ¬(p.2 = a ∧ K.lookup a = none) := fun c => aT (by rw [← c.1]; exact memT p hp)
        show (if _ then _ else if _ then _ else _) ≠ none
        rw [if_neg c, if_pos (memT p hp)]
        simp)
    · exact absurd (memT p hp) (by rw [e]; exact aT)
    · exact z
  refine codeAny_mono ((F _ KB (nsK hns) tbs).run [] s1 H ⟨[.ref a], []⟩ [.ref a] [.ref a] _ _ e0 (hbind s1 (.ref a)) (.cons rfl .nil) (hsp H hH (fun p hp e => aT (by rw [← e]; exact memT p hp)) hS)) fun r s' h => ?_
  match r, h with
  | .ok (.ret u), h =>
    obtain ⟨v, H', os, bare, un, hok', r', rfl⟩ := h
    obtain rfl : u = Value.bool true := r'
    have key : ∀ b o, b ∉ cs.map (·.2) → s1.heap.get? b = some o → s'.heap.get? b = some o := fun b o nb e => by
      rcases Hn b with z | ⟨rfl, hk, z⟩ | ⟨d, _⟩
      · exact un.keep b o e z (by intro q; cases q) (by intro q; cases q)
      · have z2 := un.frzs b ob _ z
        have e2 := (hok' b _ z2).1
        have e1 := (ok b _ z).1
        rw [← e, e1, e2]
      · exact absurd d nb
    have grown : ∀ p ∈ cs, ∃ more : Array Value, s'.heap.get? p.2 = some { cls := .none, data := .fields more } := fun p hp => by
      obtain ⟨more, z⟩ := un.tbls p.2 #[] (hH p hp)
      exact ⟨_, hok' p.2 _ z⟩
    refine ⟨rfl, ⟨fun b o e => ?_, fun b o e => ?_⟩, os, bare⟩
    · by_cases c : b ∈ cs.map (·.2)
      · obtain ⟨p, hp, rfl⟩ := List.mem_map.mp c
        obtain ⟨more, hm⟩ := grown p hp
        rw [hT p hp] at e
        cases e
        exact .inr (.inl ⟨((C p hp).tab (hT p hp)).isCodeTable, rfl, #[], more, rfl, (congrArg _ (congrArg some (by rw [Array.empty_append]))).mpr hm⟩)
      · exact .inl (key b o c e)
    · by_cases c : b ∈ cs.map (·.2)
      · obtain ⟨p, hp, rfl⟩ := List.mem_map.mp c
        obtain ⟨more, hm⟩ := grown p hp
        exact ⟨_, hm⟩
      · exact ⟨o, key b o c e⟩
/-- the tables of the defs of the text, as the head leaves them -/
def TabsAt (q : Program) (K : PySem.W.Frag) (mg : Str → Option Value) (h : Heap) : Prop := ∀ (x : Str) (f c P : Addr) (o : Obj) (fd : FuncData) (e : Value) (dd : Option Addr) (vs : Array Value) (sl : Array (Option Value)),
  ((recsOf q).any fun r => r.name == x) = true → mg x = some (.ref f) → K.lookup f = some o → o.data = .func fd → fd.code = .ref c → K.lookup c = some ⟨e, dd, .fields vs, sl⟩ → vs[11]? = some (.ref P) →
    h.get? P = some { cls := .none, data := .fields #[] } ∧ PySem.W.CodeHd h c P
theorem walkT {l : PySem.W.OpenLaw} {n : Nat} {q : Program} {loose : List Str} {XP : (Str → Option Value) → Heap → Prop} {YP : World → Heap → Prop} {d : DefRec} {K : Params → PySem.W.Frag} {sp : World → List (Addr × Addr) → Sp} {x : Str}
    (hn : l.most = some n) (hn2 : n ≤ sizeLine) (hdf : d.params.defaults = []) (hY : ∀ (w : World) (h : Heap), YP w h → (K w.params).In h)
    (F : ∀ (w : World) (mg : Str → Option Value) (fa : Addr) (h : Heap), (K w.params).In h → h.Ns mainGlobals mg → mg d.name = some (.ref fa) → TabsAt q (K w.params) mg h →
      ∃ (fd : FuncData) (cs : List (Addr × Addr)), (∀ p ∈ cs, h.get? p.2 = some { cls := .none, data := .fields #[] } ∧ (K w.params).lookup p.2 = none ∧ PySem.W.CodeHd h p.1 p.2) ∧ (∀ (s : Shared) (u : Value), BindsTo s fd ⟨[u], []⟩ [(x, u)]) ∧
        ∀ base : Heap, (K w.params).In base → base.Ns mainGlobals mg → (∀ p ∈ cs, GxR.TabB base mg p.1 p.2) → FnA callerA l.prog w (K w.params) mg base CX0 fa fd [x] (sp w cs))
    (hsp : ∀ (w : World) (cs : List (Addr × Addr)) (H : Hp) (a : Addr) (ns : List Int), ns.length ≤ n → (∀ z ∈ ns, Builtin.Int.intBits z ≤ 1048576) → (∀ p ∈ cs, H p.2 = some (.tbl #[])) → (∀ p ∈ cs, p.2 ≠ a) → SqL (K w.params) H a (ns.map V.int) → sp w cs [.ref a] H (fun v _ => v = .bl true) E0) :
    PySem.W.WalkO q loose XP YP l.row.toRowW d [] (fun f vs => PySem.call f vs) := by
  refine Att.attach_callB hn hdf fun w s0 s1 mg mb fa o pm cd doc a vs ns G Y ho hd hcd hmg hobj hints hlen hbits hg => ?_
  have KX := hY w _ Y
  have tabs : TabsAt q (K w.params) mg s1.heap := fun x f c P o1 fd1 e dd vs1 sl hr k0 k1 k2 k3 k4 k5 => by
    obtain ⟨dL, hm, hx⟩ := List.any_eq_true.mp hr
    have hx : dL.name = x := beq_iff_eq.mp hx
    obtain ⟨a', o', fd', c', P', h1, h2, h3, h4, h5, h6⟩ := G.T.tab dL hm
    rw [hx, k0] at h1
    cases h1
    rw [KX _ _ k1] at h2
    cases h2
    rw [k2] at h3
    cases h3
    rw [k3] at h4
    cases h4
    have h7 := h6
    obtain ⟨⟨oc, vc, e1, _, e3, e4⟩, hP⟩ := h7
    rw [KX _ _ k4] at e1
    cases e1
    cases e3
    rw [k5] at e4
    cases e4
    exact ⟨hP, PySem.W.CodeHd.of h5 h6⟩
  obtain ⟨fd, cs, hcs, hb, hF⟩ := F w mg fa _ KX G.T.g hmg tabs
  exact callT KX G.T.g G.T.b G.T.builtins G.T.nolimit hg (fun p hp => (hcs p hp).1) (fun p hp => (hcs p hp).2.1) (fun p hp => (hcs p hp).2.2) G.T.bmain hobj hints (Nat.le_trans hlen hn2) hF hb fun H hH ha hS => hsp w cs H a ns hlen hbits hH ha hS
/-- the law's promise -/
def spLawT (K : PySem.W.Frag) (cs : List (Addr × Addr)) : Sp := fun vs H Q _ => ∃ (a : Addr) (ns : List Int), vs = [.ref a] ∧ SqL K H a (ns.map V.int) ∧ (∀ p ∈ cs, H p.2 = some (.tbl #[])) ∧ (∀ p ∈ cs, p.2 ≠ a) ∧ ∀ H', Q (.bl true) H'
theorem law_endT {A : Around} {P : Program} {w : World} {K : PySem.W.Frag} {mg : Str → Option Value} {base : Heap} {f : Addr} {fd : FuncData} {ps : List Str} {fn : FN} {cs : List (Addr × Addr)} {c0 P0 : Addr} {r : List (Addr × Addr)} (hcs : cs = (c0, P0) :: r)
    (h : FnA A P w K mg base CX0 f fd ps (spOf K 1 fn)) (hf : ∀ ns, ∃ S, fn [.scr ns] [.tabs (cs.map (·.2))] = .ok (.p (.bool true)) S) : FnA A P w K mg base CX0 f fd ps (spLawT K cs) := by
  have key : ∀ vs H Q E, spLawT K cs vs H Q E → spOf K 1 fn vs H Q E := by
    rintro vs H Q E ⟨a, ns, rfl, hS, hT, ha, q⟩
    obtain ⟨S, hs⟩ := hf ns
    have m0 : (c0, P0) ∈ cs := by rw [hcs]; exact List.mem_cons_self
    have hP0 : H P0 = some (.tbl #[]) := hT _ m0
    have na : a ∉ [P0] := fun z => ha _ m0 (List.mem_singleton.mp z).symm
    refine ⟨rfl, ⟨[P0], []⟩, [.scr ns], [.tabs (cs.map (·.2))], .cons (.scr ?_) .nil, ⟨rfl, by simp, (fun _ _ h => by cases h), (fun _ h => by cases h), (fun r a o h h2 => ?_)⟩, ?_⟩
    · rcases sqL_split hS with h | h
      · exact .inl ⟨h, na, by simp⟩
      · exact .inr h
    · cases r with
      | zero =>
        obtain rfl : P0 = a := by simpa using h
        obtain rfl : Ob.tabs (cs.map (·.2)) = o := by simpa using h2
        refine ⟨_, hP0, fun P hP => ?_⟩
        obtain ⟨p, hp, rfl⟩ := List.mem_map.mp hP
        exact ⟨#[], hT p hp, trivial⟩
      | succ r => simp at h
    · rw [hs]
      intro H' w' _ _ v rv
      cases rv with | p rv => cases rv; exact q H'
  exact ⟨fun vs H Q E e => h.len vs H Q E (key _ _ _ _ e), fun outer s H args us vs Q E e0 hb r e => h.run outer s H args us vs Q E e0 hb r (key _ _ _ _ e)⟩
end SV
set_option linter.all false
set_option maxRecDepth 100000
set_option maxHeartbeats 1000000
namespace SV
open PySem PySem.Spec PyProof.Rows L2 NB RZ
/-! ### step by step: what follows is kept as a term -/
theorem fC_ok {d : D} {E : En} {S : Sto} {P : D → Sto → Prop} : Ok (fC d E S) P = (P d S) := rfl
def kOp2 (g : D → D → Sto → R D) (x : D) (P : D → Sto → Prop) (y : D) (S : Sto) : Prop := Ok (g x y S) P
theorem kOp2_ (g : D → D → Sto → R D) (x : D) (P : D → Sto → Prop) (y : D) (S : Sto) : kOp2 g x P y S = (Ok (g x y S) P) := rfl
def kOp1 (g : D → D → Sto → R D) (b : FE) (E : En) (P : D → Sto → Prop) (x : D) (S : Sto) : Prop := Ok (b E S) (kOp2 g x P)
theorem kOp1_ (g : D → D → Sto → R D) (b : FE) (E : En) (P : D → Sto → Prop) (x : D) (S : Sto) : kOp1 g b E P x S = (Ok (b E S) (kOp2 g x P)) := rfl
theorem fOp_ok {g : D → D → Sto → R D} {a b : FE} {E : En} {S : Sto} {P : D → Sto → Prop} : Ok (fOp g a b E S) P = (Ok (a E S) (kOp1 g b E P)) := by
  unfold fOp kOp1 kOp2
  simp only [ok_bind, ok_ok, ok_at, ok_ite]
  try rfl
def kUn (g : D → Sto → R D) (P : D → Sto → Prop) (x : D) (S : Sto) : Prop := Ok (g x S) P
theorem kUn_ (g : D → Sto → R D) (P : D → Sto → Prop) (x : D) (S : Sto) : kUn g P x S = (Ok (g x S) P) := rfl
theorem fUn_ok {g : D → Sto → R D} {a : FE} {E : En} {S : Sto} {P : D → Sto → Prop} : Ok (fUn g a E S) P = (Ok (a E S) (kUn g P)) := by
  unfold fUn kUn
  simp only [ok_bind, ok_ok, ok_at, ok_ite]
  try rfl
theorem fNilA_ok {E : En} {S : Sto} {P : List D → Sto → Prop} : Ok (fNilA E S) P = (P [] S) := rfl
def kCons2 (x : D) (P : List D → Sto → Prop) (xs : List D) (S : Sto) : Prop := P (x :: xs) S
theorem kCons2_ (x : D) (P : List D → Sto → Prop) (xs : List D) (S : Sto) : kCons2 x P xs S = (P (x :: xs) S) := rfl
def kCons1 (r : FA) (E : En) (P : List D → Sto → Prop) (x : D) (S : Sto) : Prop := Ok (r E S) (kCons2 x P)
theorem kCons1_ (r : FA) (E : En) (P : List D → Sto → Prop) (x : D) (S : Sto) : kCons1 r E P x S = (Ok (r E S) (kCons2 x P)) := rfl
theorem fConsA_ok {a : FE} {r : FA} {E : En} {S : Sto} {P : List D → Sto → Prop} : Ok (fConsA a r E S) P = (Ok (a E S) (kCons1 r E P)) := by
  unfold fConsA kCons1 kCons2
  simp only [ok_bind, ok_ok, ok_at, ok_ite]
  try rfl
def kTup (P : D → Sto → Prop) (xs : List D) (S : Sto) : Prop := if xs.length ≤ sizeLine then P (mkT xs) S else False
theorem kTup_ (P : D → Sto → Prop) (xs : List D) (S : Sto) : kTup P xs S = (if xs.length ≤ sizeLine then P (mkT xs) S else False) := rfl
theorem fTup_ok {a : FA} {E : En} {S : Sto} {P : D → Sto → Prop} : Ok (fTup a E S) P = (Ok (a E S) (kTup P)) := by
  unfold fTup kTup
  simp only [ok_bind, ok_ok, ok_ite]
  try rfl
def kLst (fz : Bool) (P : D → Sto → Prop) (xs : List D) (S : Sto) : Prop := if xs.length ≤ sizeLine then Ok (newL fz xs S) P else False
theorem kLst_ (fz : Bool) (P : D → Sto → Prop) (xs : List D) (S : Sto) : kLst fz P xs S = (if xs.length ≤ sizeLine then Ok (newL fz xs S) P else False) := rfl
theorem fLst_ok {fz : Bool} {a : FA} {E : En} {S : Sto} {P : D → Sto → Prop} : Ok (fLst fz a E S) P = (Ok (a E S) (kLst fz P)) := by
  unfold fLst kLst
  simp only [ok_bind, ok_ok, ok_ite]
  try rfl
def kTru (P : Bool → Sto → Prop) (x : D) (S : Sto) : Prop := Ok (gTru x S) P
theorem kTru_ (P : Bool → Sto → Prop) (x : D) (S : Sto) : kTru P x S = (Ok (gTru x S) P) := rfl
theorem fTru_ok {a : FE} {E : En} {S : Sto} {P : Bool → Sto → Prop} : Ok (fTru a E S) P = (Ok (a E S) (kTru P)) := by
  unfold fTru kTru
  simp only [ok_bind, ok_ok, ok_at, ok_ite]
  try rfl
def kB (P : Bool → Sto → Prop) (x : D) (S : Sto) : Prop := Ok (gBool x S) P
theorem kB_ (P : Bool → Sto → Prop) (x : D) (S : Sto) : kB P x S = (Ok (gBool x S) P) := rfl
theorem fB_ok {a : FE} {E : En} {S : Sto} {P : Bool → Sto → Prop} : Ok (fB a E S) P = (Ok (a E S) (kB P)) := by
  unfold fB kB
  simp only [ok_bind, ok_ok, ok_at, ok_ite]
  try rfl
def kNotT (P : Bool → Sto → Prop) (b : Bool) (S : Sto) : Prop := P (!b) S
theorem kNotT_ (P : Bool → Sto → Prop) (b : Bool) (S : Sto) : kNotT P b S = (P (!b) S) := rfl
theorem fNotT_ok {a : FT} {E : En} {S : Sto} {P : Bool → Sto → Prop} : Ok (fNotT a E S) P = (Ok (a E S) (kNotT P)) := by
  unfold fNotT kNotT
  simp only [ok_bind, ok_ok, ok_at, ok_ite]
  try rfl
def kAndT (b : FT) (E : En) (P : Bool → Sto → Prop) (x : Bool) (S : Sto) : Prop := if x = true then Ok (b E S) P else P false S
theorem kAndT_ (b : FT) (E : En) (P : Bool → Sto → Prop) (x : Bool) (S : Sto) : kAndT b E P x S = (if x = true then Ok (b E S) P else P false S) := rfl
theorem fAndT_ok {a b : FT} {E : En} {S : Sto} {P : Bool → Sto → Prop} : Ok (fAndT a b E S) P = (Ok (a E S) (kAndT b E P)) := by
  unfold fAndT kAndT
  simp only [ok_bind, ok_ok, ok_at, ok_ite]
  try rfl
def kOrT (b : FT) (E : En) (P : Bool → Sto → Prop) (x : Bool) (S : Sto) : Prop := if x = true then P true S else Ok (b E S) P
theorem kOrT_ (b : FT) (E : En) (P : Bool → Sto → Prop) (x : Bool) (S : Sto) : kOrT b E P x S = (if x = true then P true S else Ok (b E S) P) := rfl
theorem fOrT_ok {a b : FT} {E : En} {S : Sto} {P : Bool → Sto → Prop} : Ok (fOrT a b E S) P = (Ok (a E S) (kOrT b E P)) := by
  unfold fOrT kOrT
  simp only [ok_bind, ok_ok, ok_at, ok_ite]
  try rfl
def kIf (a b : FE) (E : En) (P : D → Sto → Prop) (x : Bool) (S : Sto) : Prop := if x = true then Ok (a E S) P else Ok (b E S) P
theorem kIf_ (a b : FE) (E : En) (P : D → Sto → Prop) (x : Bool) (S : Sto) : kIf a b E P x S = (if x = true then Ok (a E S) P else Ok (b E S) P) := rfl
theorem fIf_ok {c : FT} {a b : FE} {E : En} {S : Sto} {P : D → Sto → Prop} : Ok (fIf c a b E S) P = (Ok (c E S) (kIf a b E P)) := by
  unfold fIf kIf
  simp only [ok_bind, ok_ok, ok_at, ok_ite]
  try rfl
def kAndV (b : FE) (E : En) (P : D → Sto → Prop) (x : D) (S : Sto) : Prop := Ok (gBool x S) fun c S => if c = true then Ok (b E S) P else P (dBl false) S
theorem kAndV_ (b : FE) (E : En) (P : D → Sto → Prop) (x : D) (S : Sto) : kAndV b E P x S = (Ok (gBool x S) fun c S => if c = true then Ok (b E S) P else P (dBl false) S) := rfl
def kOrV (b : FE) (E : En) (P : D → Sto → Prop) (x : D) (S : Sto) : Prop := Ok (gBool x S) fun c S => if c = true then P (dBl true) S else Ok (b E S) P
theorem kOrV_ (b : FE) (E : En) (P : D → Sto → Prop) (x : D) (S : Sto) : kOrV b E P x S = (Ok (gBool x S) fun c S => if c = true then P (dBl true) S else Ok (b E S) P) := rfl
theorem fAndV_ok {a b : FE} {E : En} {S : Sto} {P : D → Sto → Prop} : Ok (fAndV a b E S) P = (Ok (a E S) (kAndV b E P)) := by
  unfold fAndV
  rw [ok_bind]
  congr 1
  funext x S1
  unfold kAndV gBool
  cases x with
  | p y => cases y with
    | bool c => cases c <;> rfl
    | _ => rfl
  | _ => rfl
theorem fOrV_ok {a b : FE} {E : En} {S : Sto} {P : D → Sto → Prop} : Ok (fOrV a b E S) P = (Ok (a E S) (kOrV b E P)) := by
  unfold fOrV
  rw [ok_bind]
  congr 1
  funext x S1
  unfold kOrV gBool
  cases x with
  | p y => cases y with
    | bool c => cases c <;> rfl
    | _ => rfl
  | _ => rfl
def kCallB (g : List D → Sto → R D) (P : D → Sto → Prop) (ds : List D) (S : Sto) : Prop := Ok (g ds S) P
theorem kCallB_ (g : List D → Sto → R D) (P : D → Sto → Prop) (ds : List D) (S : Sto) : kCallB g P ds S = (Ok (g ds S) P) := rfl
theorem fCallB_ok {g : List D → Sto → R D} {a : FA} {E : En} {S : Sto} {P : D → Sto → Prop} : Ok (fCallB g a E S) P = (Ok (a E S) (kCallB g P)) := by
  unfold fCallB kCallB
  simp only [ok_bind, ok_ok, ok_at, ok_ite]
  try rfl
def kCall (fn : FN) (P : D → Sto → Prop) (ds : List D) (S : Sto) : Prop := Ok (fn ds S) P
theorem kCall_ (fn : FN) (P : D → Sto → Prop) (ds : List D) (S : Sto) : kCall fn P ds S = (Ok (fn ds S) P) := rfl
theorem fCall_ok {fn : FN} {a : FA} {E : En} {S : Sto} {P : D → Sto → Prop} : Ok (fCall fn a E S) P = (Ok (a E S) (kCall fn P)) := by
  unfold fCall kCall
  simp only [ok_bind, ok_ok, ok_at, ok_ite]
  try rfl
def kCallK (pm : List Nat) (fn : FN) (P : D → Sto → Prop) (ds : List D) (S : Sto) : Prop := Ok (fn (pick pm ds) S) P
theorem kCallK_ (pm : List Nat) (fn : FN) (P : D → Sto → Prop) (ds : List D) (S : Sto) : kCallK pm fn P ds S = (Ok (fn (pick pm ds) S) P) := rfl
theorem fCallK_ok {pm : List Nat} {fn : FN} {a : FA} {E : En} {S : Sto} {P : D → Sto → Prop} : Ok (fCallK pm fn a E S) P = (Ok (a E S) (kCallK pm fn P)) := by
  unfold fCallK kCallK
  simp only [ok_bind, ok_ok, ok_at, ok_ite]
  try rfl
def kRev (fz : Bool) (P : D → Sto → Prop) (x : D) (S : Sto) : Prop := Ok (gRev fz x S) P
theorem kRev_ (fz : Bool) (P : D → Sto → Prop) (x : D) (S : Sto) : kRev fz P x S = (Ok (gRev fz x S) P) := rfl
theorem fRev_ok {fz : Bool} {a : FE} {E : En} {S : Sto} {P : D → Sto → Prop} : Ok (fRev fz a E S) P = (Ok (a E S) (kRev fz P)) := by
  unfold fRev kRev
  simp only [ok_bind, ok_ok, ok_at, ok_ite]
  try rfl
theorem fNoO_ok {E : En} {S : Sto} {P : Option Int → Sto → Prop} : Ok (fNoO E S) P = (P none S) := rfl
def kSomeO (P : Option Int → Sto → Prop) (x : D) (S : Sto) : Prop := match x with | .p (.int i) => P (some i) S | _ => False
theorem kSomeO_ (P : Option Int → Sto → Prop) (x : D) (S : Sto) : kSomeO P x S = (match x with | .p (.int i) => P (some i) S | _ => False) := rfl
theorem fSomeO_ok {a : FE} {E : En} {S : Sto} {P : Option Int → Sto → Prop} : Ok (fSomeO a E S) P = (Ok (a E S) (kSomeO P)) := by
  unfold fSomeO
  rw [ok_bind]
  congr 1
  funext x S1
  unfold kSomeO
  cases x with
  | p y => cases y <;> rfl
  | _ => rfl
def kSl3 (fz : Bool) (x : D) (lo : Option Int) (P : D → Sto → Prop) (hi : Option Int) (S : Sto) : Prop := Ok (gSl fz x lo hi S) P
theorem kSl3_ (fz : Bool) (x : D) (lo : Option Int) (P : D → Sto → Prop) (hi : Option Int) (S : Sto) : kSl3 fz x lo P hi S = (Ok (gSl fz x lo hi S) P) := rfl
def kSl2 (fz : Bool) (x : D) (h : FO) (E : En) (P : D → Sto → Prop) (lo : Option Int) (S : Sto) : Prop := Ok (h E S) (kSl3 fz x lo P)
theorem kSl2_ (fz : Bool) (x : D) (h : FO) (E : En) (P : D → Sto → Prop) (lo : Option Int) (S : Sto) : kSl2 fz x h E P lo S = (Ok (h E S) (kSl3 fz x lo P)) := rfl
def kSl1 (fz : Bool) (l h : FO) (E : En) (P : D → Sto → Prop) (x : D) (S : Sto) : Prop := Ok (l E S) (kSl2 fz x h E P)
theorem kSl1_ (fz : Bool) (l h : FO) (E : En) (P : D → Sto → Prop) (x : D) (S : Sto) : kSl1 fz l h E P x S = (Ok (l E S) (kSl2 fz x h E P)) := rfl
theorem fSl_ok {fz : Bool} {a : FE} {l h : FO} {E : En} {S : Sto} {P : D → Sto → Prop} : Ok (fSl fz a l h E S) P = (Ok (a E S) (kSl1 fz l h E P)) := by
  unfold fSl kSl1 kSl2 kSl3
  simp only [ok_bind, ok_ok, ok_at, ok_ite]
  try rfl
def kCh3 (g : D → D → Sto → R D) (y : D) (P : D → Sto → Prop) (t : D) (S : Sto) : Prop := Ok (g y t S) P
theorem kCh3_ (g : D → D → Sto → R D) (y : D) (P : D → Sto → Prop) (t : D) (S : Sto) : kCh3 g y P t S = (Ok (g y t S) P) := rfl
def kCh2 (g' : D → D → Sto → R D) (c : FE) (y : D) (E : En) (P : D → Sto → Prop) (z : D) (S : Sto) : Prop := Ok (gBool z S) fun k S => if k = true then Ok (c E S) (kCh3 g' y P) else P (dBl false) S
theorem kCh2_ (g' : D → D → Sto → R D) (c : FE) (y : D) (E : En) (P : D → Sto → Prop) (z : D) (S : Sto) : kCh2 g' c y E P z S = (Ok (gBool z S) fun k S => if k = true then Ok (c E S) (kCh3 g' y P) else P (dBl false) S) := rfl
def kCh1 (g g' : D → D → Sto → R D) (c : FE) (x : D) (E : En) (P : D → Sto → Prop) (y : D) (S : Sto) : Prop := Ok (g x y S) (kCh2 g' c y E P)
theorem kCh1_ (g g' : D → D → Sto → R D) (c : FE) (x : D) (E : En) (P : D → Sto → Prop) (y : D) (S : Sto) : kCh1 g g' c x E P y S = (Ok (g x y S) (kCh2 g' c y E P)) := rfl
def kCh0 (g g' : D → D → Sto → R D) (b c : FE) (E : En) (P : D → Sto → Prop) (x : D) (S : Sto) : Prop := Ok (b E S) (kCh1 g g' c x E P)
theorem kCh0_ (g g' : D → D → Sto → R D) (b c : FE) (E : En) (P : D → Sto → Prop) (x : D) (S : Sto) : kCh0 g g' b c E P x S = (Ok (b E S) (kCh1 g g' c x E P)) := rfl
theorem fChain_ok {g g' : D → D → Sto → R D} {a b c : FE} {E : En} {S : Sto} {P : D → Sto → Prop} : Ok (fChain g g' a b c E S) P = (Ok (a E S) (kCh0 g g' b c E P)) := by
  unfold fChain kCh0 kCh1
  simp only [ok_bind]
  congr 1
  funext x S1
  congr 1
  funext y S2
  congr 1
  funext z S3
  unfold kCh2 kCh3 gBool
  cases z with
  | p y => cases y with
    | bool c => cases c <;> simp only [ok_bind, ok_ok, Bool.false_eq_true, if_false, if_true]
    | _ => rfl
  | _ => rfl
def kMt2 (g : D → List D → Sto → R D) (x : D) (P : D → Sto → Prop) (ds : List D) (S : Sto) : Prop := Ok (g x ds S) P
theorem kMt2_ (g : D → List D → Sto → R D) (x : D) (P : D → Sto → Prop) (ds : List D) (S : Sto) : kMt2 g x P ds S = (Ok (g x ds S) P) := rfl
def kMt1 (g : D → List D → Sto → R D) (a : FA) (E : En) (P : D → Sto → Prop) (x : D) (S : Sto) : Prop := if isLst x S = true then Ok (a E S) (kMt2 g x P) else False
theorem kMt1_ (g : D → List D → Sto → R D) (a : FA) (E : En) (P : D → Sto → Prop) (x : D) (S : Sto) : kMt1 g a E P x S = (if isLst x S = true then Ok (a E S) (kMt2 g x P) else False) := rfl
theorem fMt_ok {g : D → List D → Sto → R D} {o : FE} {a : FA} {E : En} {S : Sto} {P : D → Sto → Prop} : Ok (fMt g o a E S) P = (Ok (o E S) (kMt1 g a E P)) := by
  unfold fMt
  rw [ok_bind]
  congr 1
  funext x S1
  unfold kMt1 kMt2
  split
  · rw [ok_bind]
  · rfl
theorem fSkip_ok {E : En} {S : Sto} {P : Fl → Sto → Prop} : Ok (fSkip E S) P = (P (.nx E) S) := rfl
def kSeq (b : FS) (P : Fl → Sto → Prop) (fl : Fl) (S : Sto) : Prop := match fl with | .nx E1 => Ok (b E1 S) P | fl => P fl S
theorem kSeq_ (b : FS) (P : Fl → Sto → Prop) (fl : Fl) (S : Sto) : kSeq b P fl S = (match fl with | .nx E1 => Ok (b E1 S) P | fl => P fl S) := rfl
theorem fSeq_ok {a b : FS} {E : En} {S : Sto} {P : Fl → Sto → Prop} : Ok (fSeq a b E S) P = (Ok (a E S) (kSeq b P)) := by
  unfold fSeq
  rw [ok_bind]
  congr 1
  funext fl S1
  unfold kSeq
  cases fl <;> rfl
def kSet (i : Nat) (E : En) (P : Fl → Sto → Prop) (d : D) (S : Sto) : Prop := P (.nx (E.set i (some d))) S
theorem kSet_ (i : Nat) (E : En) (P : Fl → Sto → Prop) (d : D) (S : Sto) : kSet i E P d S = (P (.nx (E.set i (some d))) S) := rfl
theorem fSet_ok {i : Nat} {a : FE} {E : En} {S : Sto} {P : Fl → Sto → Prop} : Ok (fSet i a E S) P = (Ok (a E S) (kSet i E P)) := by
  unfold fSet kSet
  simp only [ok_bind, ok_ok, ok_at, ok_ite]
  try rfl
def kDrop (E : En) (P : Fl → Sto → Prop) (d : D) (S : Sto) : Prop := P (.nx E) S
theorem kDrop_ (E : En) (P : Fl → Sto → Prop) (d : D) (S : Sto) : kDrop E P d S = (P (.nx E) S) := rfl
theorem fDrop_ok {a : FE} {E : En} {S : Sto} {P : Fl → Sto → Prop} : Ok (fDrop a E S) P = (Ok (a E S) (kDrop E P)) := by
  unfold fDrop kDrop
  simp only [ok_bind, ok_ok, ok_at, ok_ite]
  try rfl
def kRet (P : Fl → Sto → Prop) (d : D) (S : Sto) : Prop := P (.ret d) S
theorem kRet_ (P : Fl → Sto → Prop) (d : D) (S : Sto) : kRet P d S = (P (.ret d) S) := rfl
theorem fRet_ok {a : FE} {E : En} {S : Sto} {P : Fl → Sto → Prop} : Ok (fRet a E S) P = (Ok (a E S) (kRet P)) := by
  unfold fRet kRet
  simp only [ok_bind, ok_ok, ok_at, ok_ite]
  try rfl
theorem fRetN_ok {E : En} {S : Sto} {P : Fl → Sto → Prop} : Ok (fRetN E S) P = (P (.ret (.p .none)) S) := rfl
def kIfS (a b : FS) (E : En) (P : Fl → Sto → Prop) (t : Bool) (S : Sto) : Prop := if t = true then Ok (a E S) P else Ok (b E S) P
theorem kIfS_ (a b : FS) (E : En) (P : Fl → Sto → Prop) (t : Bool) (S : Sto) : kIfS a b E P t S = (if t = true then Ok (a E S) P else Ok (b E S) P) := rfl
theorem fIfS_ok {c : FT} {a b : FS} {E : En} {S : Sto} {P : Fl → Sto → Prop} : Ok (fIfS c a b E S) P = (Ok (c E S) (kIfS a b E P)) := by
  unfold fIfS kIfS
  simp only [ok_bind, ok_ok, ok_at, ok_ite]
  try rfl
theorem fBrk_ok {E : En} {S : Sto} {P : Fl → Sto → Prop} : Ok (fBrk E S) P = (P (.brk E) S) := rfl
theorem fCt_ok {E : En} {S : Sto} {P : Fl → Sto → Prop} : Ok (fCt E S) P = (P (.ct E) S) := rfl
def kAug2 (i : Nat) (E : En) (P : Fl → Sto → Prop) (z : D) (S : Sto) : Prop := P (.nx (E.set i (some z))) S
theorem kAug2_ (i : Nat) (E : En) (P : Fl → Sto → Prop) (z : D) (S : Sto) : kAug2 i E P z S = (P (.nx (E.set i (some z))) S) := rfl
def kAug1 (i : Nat) (g : D → D → Sto → R D) (x : D) (E : En) (P : Fl → Sto → Prop) (y : D) (S : Sto) : Prop := Ok (g x y S) (kAug2 i E P)
theorem kAug1_ (i : Nat) (g : D → D → Sto → R D) (x : D) (E : En) (P : Fl → Sto → Prop) (y : D) (S : Sto) : kAug1 i g x E P y S = (Ok (g x y S) (kAug2 i E P)) := rfl
def kAsg2 (P : Fl → Sto → Prop) (E : En) (S : Sto) : Prop := P (.nx E) S
theorem kAsg2_ (P : Fl → Sto → Prop) (E : En) (S : Sto) : kAsg2 P E S = (P (.nx E) S) := rfl
def kAsg1 (g : FG) (E : En) (P : Fl → Sto → Prop) (d : D) (S : Sto) : Prop := Ok (g d E S) (kAsg2 P)
theorem kAsg1_ (g : FG) (E : En) (P : Fl → Sto → Prop) (d : D) (S : Sto) : kAsg1 g E P d S = (Ok (g d E S) (kAsg2 P)) := rfl
theorem fAsg_ok {a : FE} {g : FG} {E : En} {S : Sto} {P : Fl → Sto → Prop} : Ok (fAsg a g E S) P = (Ok (a E S) (kAsg1 g E P)) := by
  unfold fAsg kAsg1 kAsg2
  simp only [ok_bind, ok_ok, ok_at, ok_ite]
  try rfl
def kPar (i j : Nat) (E : En) (P : Fl → Sto → Prop) (ds : List D) (S : Sto) : Prop := match ds with | [x, y] => P (.nx ((E.set i (some x)).set j (some y))) S | _ => False
theorem kPar_ (i j : Nat) (E : En) (P : Fl → Sto → Prop) (ds : List D) (S : Sto) : kPar i j E P ds S = (match ds with | [x, y] => P (.nx ((E.set i (some x)).set j (some y))) S | _ => False) := rfl
theorem fPar_ok {i j : Nat} {a : FA} {E : En} {S : Sto} {P : Fl → Sto → Prop} : Ok (fPar i j a E S) P = (Ok (a E S) (kPar i j E P)) := by
  unfold fPar
  rw [ok_bind]
  congr 1
  funext x S1
  unfold kPar
  match x with
  | [] => rfl
  | [_] => rfl
  | [_, _] => rfl
  | _ :: _ :: _ :: _ => rfl
theorem gNm_ok {i : Nat} {d : D} {E : En} {S : Sto} {P : En → Sto → Prop} : Ok (gNm i d E S) P = (P (E.set i (some d)) S) := rfl
theorem gN0_ok {E : En} {S : Sto} {P : En → Sto → Prop} : Ok (gN0 [] E S) P = (P E S) := rfl
def kC0 (r : FGs) (t : List D) (P : En → Sto → Prop) (E : En) (S : Sto) : Prop := Ok (r t E S) P
theorem kC0_ (r : FGs) (t : List D) (P : En → Sto → Prop) (E : En) (S : Sto) : kC0 r t P E S = (Ok (r t E S) P) := rfl
theorem gC0_ok {f : FG} {r : FGs} {d : D} {t : List D} {E : En} {S : Sto} {P : En → Sto → Prop} : Ok (gC0 f r (d :: t) E S) P = (Ok (f d E S) (kC0 r t P)) := by
  unfold gC0 kC0
  simp only [ok_bind, ok_ok, ok_at, ok_ite]
  try rfl
def kSb3 (E : En) (P : En → Sto → Prop) (u : Unit) (S : Sto) : Prop := P E S
theorem kSb3_ (E : En) (P : En → Sto → Prop) (u : Unit) (S : Sto) : kSb3 E P u S = (P E S) := rfl
def kSb2 (x d : D) (E : En) (P : En → Sto → Prop) (y : D) (S : Sto) : Prop := Ok (setAt x y d S) (kSb3 E P)
theorem kSb2_ (x d : D) (E : En) (P : En → Sto → Prop) (y : D) (S : Sto) : kSb2 x d E P y S = (Ok (setAt x y d S) (kSb3 E P)) := rfl
def kSb1 (i : FE) (d : D) (E : En) (P : En → Sto → Prop) (x : D) (S : Sto) : Prop := Ok (i E S) (kSb2 x d E P)
theorem kSb1_ (i : FE) (d : D) (E : En) (P : En → Sto → Prop) (x : D) (S : Sto) : kSb1 i d E P x S = (Ok (i E S) (kSb2 x d E P)) := rfl
theorem gSb_ok {o i : FE} {d : D} {E : En} {S : Sto} {P : En → Sto → Prop} : Ok (gSb o i d E S) P = (Ok (o E S) (kSb1 i d E P)) := by
  unfold gSb kSb1 kSb2 kSb3
  simp only [ok_bind, ok_ok, ok_at, ok_ite]
  try rfl
def kFor (g : FG) (b : FS) (E : En) (P : Fl → Sto → Prop) (its : Wk) (S : Sto) : Prop := Ok (forN its g b its.fuel 0 E S) P
theorem kFor_ (g : FG) (b : FS) (E : En) (P : Fl → Sto → Prop) (its : Wk) (S : Sto) : kFor g b E P its S = (Ok (forN its g b its.fuel 0 E S) P) := rfl
theorem fFor_ok {it : FI} {g : FG} {b : FS} {E : En} {S : Sto} {P : Fl → Sto → Prop} : Ok (fFor it g b E S) P = (Ok (it E S) (kFor g b E P)) := by
  unfold fFor kFor
  simp only [ok_bind, ok_ok, ok_at, ok_ite]
  try rfl
def kWk (P : Wk → Sto → Prop) (d : D) (S : Sto) : Prop := Ok (wkOf d S) P
theorem kWk_ (P : Wk → Sto → Prop) (d : D) (S : Sto) : kWk P d S = (Ok (wkOf d S) P) := rfl
theorem fWk_ok {a : FE} {E : En} {S : Sto} {P : Wk → Sto → Prop} : Ok (fWk a E S) P = (Ok (a E S) (kWk P)) := by
  unfold fWk kWk
  simp only [ok_bind, ok_ok, ok_at, ok_ite]
  try rfl
def kRng1 (P : Wk → Sto → Prop) (ds : List D) (S : Sto) : Prop := Ok (wkRng1 ds S) P
theorem kRng1_ (P : Wk → Sto → Prop) (ds : List D) (S : Sto) : kRng1 P ds S = (Ok (wkRng1 ds S) P) := rfl
theorem fRng1_ok {a : FA} {E : En} {S : Sto} {P : Wk → Sto → Prop} : Ok (fRng1 a E S) P = (Ok (a E S) (kRng1 P)) := by
  unfold fRng1 kRng1
  simp only [ok_bind, ok_ok, ok_at, ok_ite]
  try rfl
def kRng2 (P : Wk → Sto → Prop) (ds : List D) (S : Sto) : Prop := Ok (wkRng2 ds S) P
theorem kRng2_ (P : Wk → Sto → Prop) (ds : List D) (S : Sto) : kRng2 P ds S = (Ok (wkRng2 ds S) P) := rfl
theorem fRng2_ok {a : FA} {E : En} {S : Sto} {P : Wk → Sto → Prop} : Ok (fRng2 a E S) P = (Ok (a E S) (kRng2 P)) := by
  unfold fRng2 kRng2
  simp only [ok_bind, ok_ok, ok_at, ok_ite]
  try rfl
def kEnum (P : Wk → Sto → Prop) (ds : List D) (S : Sto) : Prop := Ok (wkEnum ds S) P
theorem kEnum_ (P : Wk → Sto → Prop) (ds : List D) (S : Sto) : kEnum P ds S = (Ok (wkEnum ds S) P) := rfl
theorem fEnum_ok {a : FA} {E : En} {S : Sto} {P : Wk → Sto → Prop} : Ok (fEnum a E S) P = (Ok (a E S) (kEnum P)) := by
  unfold fEnum kEnum
  simp only [ok_bind, ok_ok, ok_at, ok_ite]
  try rfl
def kZip (P : Wk → Sto → Prop) (ds : List D) (S : Sto) : Prop := Ok (wkZip ds S) P
theorem kZip_ (P : Wk → Sto → Prop) (ds : List D) (S : Sto) : kZip P ds S = (Ok (wkZip ds S) P) := rfl
theorem fZip_ok {a : FA} {E : En} {S : Sto} {P : Wk → Sto → Prop} : Ok (fZip a E S) P = (Ok (a E S) (kZip P)) := by
  unfold fZip kZip
  simp only [ok_bind, ok_ok, ok_at, ok_ite]
  try rfl
def kLc2 (fz : Bool) (P : D → Sto → Prop) (ds : List D) (S : Sto) : Prop := Ok (newL fz ds S) P
theorem kLc2_ (fz : Bool) (P : D → Sto → Prop) (ds : List D) (S : Sto) : kLc2 fz P ds S = (Ok (newL fz ds S) P) := rfl
def kLc1 (fz : Bool) (t : Tgt) (ts : FT) (te : FE) (E : En) (P : D → Sto → Prop) (its : Wk) (S : Sto) : Prop := Ok (lcN its t ts te E its.fuel 0 [] S) (kLc2 fz P)
theorem kLc1_ (fz : Bool) (t : Tgt) (ts : FT) (te : FE) (E : En) (P : D → Sto → Prop) (its : Wk) (S : Sto) : kLc1 fz t ts te E P its S = (Ok (lcN its t ts te E its.fuel 0 [] S) (kLc2 fz P)) := rfl
theorem fLc_ok {fz : Bool} {it : FI} {t : Tgt} {vs : List Nat} {ts : FT} {te : FE} {E : En} {S : Sto} {P : D → Sto → Prop} : Ok (fLc fz it t vs ts te E S) P = (Ok (it E S) (kLc1 fz t ts te (wipeE E vs) P)) := by
  unfold fLc kLc1 kLc2
  simp only [ok_bind, ok_ok, ok_at, ok_ite]
  try rfl
theorem fYes_ok {E : En} {S : Sto} {P : Bool → Sto → Prop} : Ok (fYes E S) P = (P true S) := rfl
def kFin (S0 : Sto) (P : D → Sto → Prop) (fl : Fl) (S : Sto) : Prop := Ok (finish S0 fl S) P
theorem kFin_ (S0 : Sto) (P : D → Sto → Prop) (fl : Fl) (S : Sto) : kFin S0 P fl S = (Ok (finish S0 fl S) P) := rfl
theorem fVar_ok {i : Nat} {d : D} {E : En} {S : Sto} {P : D → Sto → Prop} (h : E[i]? = some (some d)) : Ok (fVar i E S) P = P d S := by
  unfold fVar; rw [h]; rfl
theorem fVar0_ok {d : D} {r : En} {S : Sto} {P : D → Sto → Prop} : Ok (fVar 0 (some d :: r) S) P = P d S := rfl
theorem fVarS_ok {i : Nat} {o : Option D} {r : En} {S : Sto} {P : D → Sto → Prop} : Ok (fVar (i + 1) (o :: r) S) P = Ok (fVar i r S) P := rfl
theorem fAug_ok {i : Nat} {g : D → D → Sto → R D} {a : FE} {E : En} {S : Sto} {P : Fl → Sto → Prop} {x : D} (h : E[i]? = some (some x)) : Ok (fAug i g a E S) P = Ok (a E S) (kAug1 i g x E P) := by
  unfold fAug kAug1 kAug2
  rw [h]
  simp only [ok_bind, ok_ok]
  try rfl
theorem gTp_ok {n : Nat} {f : FGs} {d : D} {ds : List D} {E : En} {S : Sto} {P : En → Sto → Prop} (h : viewT d = some ds) (hl : ds.length = n) : Ok (gTp n f d E S) P = Ok (f ds E S) P := by
  unfold gTp
  rw [h]
  simp only [hl, if_true]
theorem gTpL_ok {n : Nat} {f : FGs} {xs : List PyData} {E : En} {S : Sto} {P : En → Sto → Prop} (hl : xs.length = n) : Ok (gTp n f (.p (.list xs)) E S) P = Ok (f (xs.map .p) E S) P := by
  show Ok (if (xs.map D.p).length = n then f (xs.map .p) E S else .bad) P = _
  rw [List.length_map, if_pos hl]
theorem defF_ok {n : Nat} {fb : FS} {ds : List D} {S : Sto} {P : D → Sto → Prop} : Ok (defF n fb ds S) P = Ok (fb (startE n ds) S) (kFin S P) := by
  rw [defF_eq, ok_at, ok_bind]; rfl
def kFinK (P : D → Sto → Prop) (fl : Fl) (S : Sto) : Prop := match fl with
  | .nx _ => P (.p .none) S
  | .ret d => P d S
  | _ => False
theorem defK_k {n : Nat} {fb : FS} {ds : List D} {S : Sto} {P : D → Sto → Prop} : Ok (defK n fb ds S) P = Ok (fb (startE n ds) S) (kFinK P) := defK_ok
theorem kFinK_ret {S : Sto} {P : D → Sto → Prop} {d : D} : kFinK P (.ret d) S = P d S := rfl
theorem kFinK_nx {S : Sto} {P : D → Sto → Prop} {E : En} : kFinK P (.nx E) S = P (.p .none) S := rfl
theorem kSeq_nx {b : FS} {P : Fl → Sto → Prop} {E : En} {S : Sto} : kSeq b P (.nx E) S = Ok (b E S) P := rfl
theorem kSeq_ret {b : FS} {P : Fl → Sto → Prop} {d : D} {S : Sto} : kSeq b P (.ret d) S = P (.ret d) S := rfl
theorem kSeq_brk {b : FS} {P : Fl → Sto → Prop} {E : En} {S : Sto} : kSeq b P (.brk E) S = P (.brk E) S := rfl
theorem kSeq_ct {b : FS} {P : Fl → Sto → Prop} {E : En} {S : Sto} : kSeq b P (.ct E) S = P (.ct E) S := rfl
theorem kSomeO_int {i : Int} {P : Option Int → Sto → Prop} {S : Sto} : kSomeO P (.p (.int i)) S = P (some i) S := rfl
theorem kPar_two {i j : Nat} {E : En} {x y : D} {P : Fl → Sto → Prop} {S : Sto} : kPar i j E P [x, y] S = P (.nx ((E.set i (some x)).set j (some y))) S := rfl
theorem kFin_ret {S0 S : Sto} {P : D → Sto → Prop} {d : D} : kFin S0 P (.ret d) S = Ok (leave S0 d S) P := rfl
theorem kFin_nx {S0 S : Sto} {P : D → Sto → Prop} {E : En} : kFin S0 P (.nx E) S = Ok (leave S0 (.p .none) S) P := rfl
/-! ### operations at once -/
theorem add_ii {i j : Int} {S : Sto} : gAdd (.p (.int i)) (.p (.int j)) S = .ok (.p (.int (i + j))) S := rfl
theorem sub_ii {i j : Int} {S : Sto} : SV.gSub (.p (.int i)) (.p (.int j)) S = .ok (.p (.int (i - j))) S := rfl
theorem lt_ii {i j : Int} {S : Sto} : gLt (.p (.int i)) (.p (.int j)) S = .ok (.p (.bool (decide (i < j)))) S := rfl
theorem le_ii {i j : Int} {S : Sto} : gLe (.p (.int i)) (.p (.int j)) S = .ok (.p (.bool (decide (i ≤ j)))) S := rfl
theorem gt_ii {i j : Int} {S : Sto} : gGt (.p (.int i)) (.p (.int j)) S = .ok (.p (.bool (decide (j < i)))) S := rfl
theorem ge_ii {i j : Int} {S : Sto} : gGe (.p (.int i)) (.p (.int j)) S = .ok (.p (.bool (decide (j ≤ i)))) S := rfl
theorem eq_ii {i j : Int} {S : Sto} : gEq (.p (.int i)) (.p (.int j)) S = .ok (.p (.bool (i == j))) S := rfl
theorem ne_ii {i j : Int} {S : Sto} : gNe (.p (.int i)) (.p (.int j)) S = .ok (.p (.bool (!(i == j)))) S := rfl
theorem iadd_ii {i j : Int} {S : Sto} : gIAdd (.p (.int i)) (.p (.int j)) S = .ok (.p (.int (i + j))) S := rfl
theorem mul_ii {i j : Int} {S : Sto} (h : okMul i j = true) : gMul (.p (.int i)) (.p (.int j)) S = .ok (.p (.int (i * j))) S := by
  unfold gMul; simp only [h, if_true]
theorem div_ii {i j : Int} {S : Sto} (h : 0 < j ∧ j < 1073741824) : gDiv (.p (.int i)) (.p (.int j)) S = .ok (.p (.int (i / j))) S := by
  unfold gDiv gIc; simp [h]
theorem mod_ii {i j : Int} {S : Sto} (h : 0 < j) : gMod (.p (.int i)) (.p (.int j)) S = .ok (.p (.int (i % j))) S := by
  unfold gMod gIc; simp [h]
theorem gBool_b {b : Bool} {S : Sto} : gBool (.p (.bool b)) S = .ok b S := rfl
theorem gTru_b {b : Bool} {S : Sto} : gTru (.p (.bool b)) S = .ok b S := rfl
theorem gNot_b {b : Bool} {S : Sto} : gNotV (.p (.bool b)) S = .ok (.p (.bool (!b))) S := rfl
theorem gNeg_i {i : Int} {S : Sto} : gNeg (.p (.int i)) S = .ok (.p (.int (-i))) S := rfl
theorem gInt_i {i : Int} {S : Sto} : gInt [.p (.int i)] S = .ok (.p (.int i)) S := rfl
theorem gAbs_i {i : Int} {S : Sto} : gAbs [.p (.int i)] S = .ok (.p (.int (if i < 0 then -i else i))) S := rfl
theorem min_ii {i j : Int} {S : Sto} : gMin [.p (.int i), .p (.int j)] S = .ok (.p (.int (if j < i then j else i))) S := rfl
theorem max_ii {i j : Int} {S : Sto} : gMax [.p (.int i), .p (.int j)] S = .ok (.p (.int (if j > i then j else i))) S := rfl
theorem len_l {xs : List PyData} {S : Sto} : gLen [.p (.list xs)] S = .ok (.p (.int xs.length)) S := by simp [gLen, viewS, viewT, viewL]
theorem len_t {xs : List PyData} {S : Sto} : gLen [.p (.tuple xs)] S = .ok (.p (.int xs.length)) S := by simp [gLen, viewS, viewT]
theorem tup_t {xs : List PyData} {S : Sto} : gTuple [.p (.tuple xs)] S = .ok (.p (.tuple xs)) S := by simp [gTuple, viewT]
theorem tup_l {xs : List PyData} {S : Sto} : gTuple [.p (.list xs)] S = .ok (.p (.tuple xs)) S := by simp [gTuple, viewT, viewL]
theorem lst_l {fz : Bool} {xs : List PyData} {S : Sto} : gList fz [.p (.list xs)] S = newL fz (xs.map .p) S := by simp [gList, viewS, viewT, viewL]
theorem lst_t {fz : Bool} {xs : List PyData} {S : Sto} : gList fz [.p (.tuple xs)] S = newL fz (xs.map .p) S := by simp [gList, viewS, viewT]
theorem newL_p {xs : List PyData} {S : Sto} : newL true (xs.map .p) S = .ok (.p (.list xs)) S := by simp [newL]
theorem ix_t {xs : List PyData} {i : Int} {x : PyData} {S : Sto} (h : atI xs i = some x) : fIx (.p (.tuple xs)) (.p (.int i)) S = .ok (.p x) S := by
  unfold fIx viewS viewT
  have : atI (xs.map D.p) i = some (.p x) := by
    unfold atI at h ⊢
    rw [List.length_map]
    cases e : ixN xs.length i with
    | none => rw [e] at h; cases h
    | some j => rw [e] at h; simp only [Option.bind_some] at h ⊢; rw [List.getElem?_map, h]; rfl
  simp only [this]
theorem ix_l {xs : List PyData} {i : Int} {x : PyData} {S : Sto} (h : atI xs i = some x) : fIx (.p (.list xs)) (.p (.int i)) S = .ok (.p x) S := by
  unfold fIx viewS viewT viewL
  have : atI (xs.map D.p) i = some (.p x) := by
    unfold atI at h ⊢
    rw [List.length_map]
    cases e : ixN xs.length i with
    | none => rw [e] at h; cases h
    | some j => rw [e] at h; simp only [Option.bind_some] at h ⊢; rw [List.getElem?_map, h]; rfl
  simp only [this]
theorem at0 {α : Type} (x : α) (r : List α) : atI (x :: r) 0 = some x := atI_nat (xs := x :: r) (j := 0) rfl
theorem at1 {α : Type} (x y : α) (r : List α) : atI (x :: y :: r) 1 = some y := atI_nat (xs := x :: y :: r) (j := 1) rfl
theorem at2 {α : Type} (x y z : α) (r : List α) : atI (x :: y :: z :: r) 2 = some z := atI_nat (xs := x :: y :: z :: r) (j := 2) rfl
theorem at3 {α : Type} (x y z u : α) (r : List α) : atI (x :: y :: z :: u :: r) 3 = some u := atI_nat (xs := x :: y :: z :: u :: r) (j := 3) rfl
theorem atLast {α : Type} (r : List α) (x : α) : atI (r ++ [x]) (-1) = some x := by
  unfold atI ixN
  rw [List.length_append, List.length_singleton, if_neg (by omega), if_pos (by omega)]
  have q : ((-1 : Int) + ((r.length + 1 : Nat) : Int)).toNat = r.length := by omega
  simp only [Option.bind_some, q]
  simp
theorem ix_t0 {x : PyData} {r : List PyData} {S : Sto} : fIx (.p (.tuple (x :: r))) (.p (.int 0)) S = .ok (.p x) S := ix_t (at0 _ _)
theorem ix_t1 {x y : PyData} {r : List PyData} {S : Sto} : fIx (.p (.tuple (x :: y :: r))) (.p (.int 1)) S = .ok (.p y) S := ix_t (at1 _ _ _)
theorem ix_t2 {x y z : PyData} {r : List PyData} {S : Sto} : fIx (.p (.tuple (x :: y :: z :: r))) (.p (.int 2)) S = .ok (.p z) S := ix_t (at2 _ _ _ _)
theorem ix_t3 {x y z u : PyData} {r : List PyData} {S : Sto} : fIx (.p (.tuple (x :: y :: z :: u :: r))) (.p (.int 3)) S = .ok (.p u) S := ix_t (at3 _ _ _ _ _)
theorem ix_l0 {x : PyData} {r : List PyData} {S : Sto} : fIx (.p (.list (x :: r))) (.p (.int 0)) S = .ok (.p x) S := ix_l (at0 _ _)
theorem wk_t {xs : List PyData} {S : Sto} : wkOf (.p (.tuple xs)) S = .ok (.fix (xs.map .p)) S := rfl
theorem wk_l {xs : List PyData} {S : Sto} : wkOf (.p (.list xs)) S = .ok (.fix (xs.map .p)) S := rfl
theorem vT_t {xs : List PyData} : viewT (.p (.tuple xs)) = some (xs.map .p) := rfl
theorem mkT_p {xs : List PyData} : mkT (xs.map .p) = .p (.tuple xs) := mkT_map xs
theorem mkT0 : mkT [] = .p (.tuple []) := rfl
theorem mkT1 {a : PyData} : mkT [.p a] = .p (.tuple [a]) := rfl
theorem mkT2 {a b : PyData} : mkT [.p a, .p b] = .p (.tuple [a, b]) := rfl
theorem mkT3 {a b c : PyData} : mkT [.p a, .p b, .p c] = .p (.tuple [a, b, c]) := rfl
theorem mkT4 {a b c d : PyData} : mkT [.p a, .p b, .p c, .p d] = .p (.tuple [a, b, c, d]) := rfl
theorem mkT5 {a b c d e : PyData} : mkT [.p a, .p b, .p c, .p d, .p e] = .p (.tuple [a, b, c, d, e]) := rfl
theorem newL0 {S : Sto} : newL true [] S = .ok (.p (.list [])) S := rfl
theorem newL1 {a : PyData} {S : Sto} : newL true [.p a] S = .ok (.p (.list [a])) S := rfl
theorem newL2 {a b : PyData} {S : Sto} : newL true [.p a, .p b] S = .ok (.p (.list [a, b])) S := rfl
theorem newL3 {a b c : PyData} {S : Sto} : newL true [.p a, .p b, .p c] S = .ok (.p (.list [a, b, c])) S := rfl
theorem newM {ds : List D} {S : Sto} : newL false ds S = .ok (.ref S.length) (S ++ [.lst ds]) := rfl
theorem sz0 : (0 ≤ sizeLine) = True := by simp
theorem sz1 : (1 ≤ sizeLine) = True := eq_true (by rw [sizeLine_eq]; decide)
theorem sz2 : (2 ≤ sizeLine) = True := eq_true (by rw [sizeLine_eq]; decide)
theorem sz3 : (3 ≤ sizeLine) = True := eq_true (by rw [sizeLine_eq]; decide)
theorem sz4 : (4 ≤ sizeLine) = True := eq_true (by rw [sizeLine_eq]; decide)
theorem sz5 : (5 ≤ sizeLine) = True := eq_true (by rw [sizeLine_eq]; decide)
theorem tru_t {xs : List PyData} {S : Sto} : gTru (.p (.tuple xs)) S = .ok (!xs.isEmpty) S := by
  show R.ok (!(xs.map D.p).isEmpty) S = _
  cases xs <;> rfl
theorem tru_l {xs : List PyData} {S : Sto} : gTru (.p (.list xs)) S = .ok (!xs.isEmpty) S := by
  show R.ok (!(xs.map D.p).isEmpty) S = _
  cases xs <;> rfl
theorem rev_t {fz : Bool} {xs : List PyData} {S : Sto} : gRev fz (.p (.tuple xs)) S = .ok (.p (.tuple xs.reverse)) S := by
  show R.ok (mkT (xs.map D.p).reverse) S = _
  rw [← List.map_reverse, mkT_p]
theorem rev_l {xs : List PyData} {S : Sto} : gRev true (.p (.list xs)) S = .ok (.p (.list xs.reverse)) S := by
  show newL true (xs.map D.p).reverse S = _
  rw [← List.map_reverse, newL_p]
theorem bi {b : Bool} {A B : Prop} (h : b = true → A) (h' : b = false → B) : if b = true then A else B := by cases b with
  | true => exact h rfl
  | false => exact h' rfl
end SV
set_option linter.all false
set_option maxRecDepth 100000
set_option maxHeartbeats 4000000
namespace SV
open PySem PySem.Spec PyProof.Rows L2 NB RZ
/-! ### the end of a law's proof: constants of the linked text, the table of defs, the law's own call -/
theorem gc_int {K : PySem.W.Frag} {mg : Str → Option Value} {x : Str} {z : Int} {t : Tok} (m : mg x = some (.int z t)) : GC K mg x (.p (.int z)) := ⟨_, .int z, m, ⟨t, rfl⟩, fun _ _ => .p (.int z)⟩
theorem gc_str {K : PySem.W.Frag} {mg : Str → Option Value} {x : Str} {z : Str} {t : Tok} (m : mg x = some (.str z t)) : GC K mg x (.p (.str z)) := ⟨_, .str z, m, ⟨t, rfl⟩, fun _ _ => .p (.str z)⟩
theorem rp_tup {K : PySem.W.Frag} {e : Addr} {od : Option Addr} {its : Array Value} {n : Nat} {sl : Array (Option Value)} {vs : List V} {ds : List PyData} (hk : K.lookup e = some ⟨.type "tuple", od, .seq its n, sl⟩) (hz : its.size ≤ sizeLine) (r : Vals vs its.toList) (q : ∀ H w, RPs K H w vs ds) : ∀ H w, RP K H w (.ref e) (.tuple ds) :=
  fun H w => .tup (.inr ⟨_, its, n, hk, rfl, rfl, hz, r⟩) (q H w)
theorem gc_ref {K : PySem.W.Frag} {mg : Str → Option Value} {x : Str} {e : Addr} {d : PyData} (m : mg x = some (.ref e)) (h : ∀ H w, RP K H w (.ref e) d) : GC K mg x (.p d) := ⟨_, .ref e, m, rfl, fun H w => .p (h H w)⟩
theorem Tbl.of {P : Program} {w : World} {K : PySem.W.Frag} {mg : Str → Option Value} {base : Heap} {k n : Nat} {tbl : List (Addr × FN)} (h : ∀ p ∈ tbl, Held P w K mg base k p.1 (spOf K n p.2)) : Tbl P w K mg base k n tbl := by
  refine ⟨fun f fn e => ?_⟩
  have : (f, fn) ∈ tbl := by
    induction tbl with
    | nil => simp [List.lookup] at e
    | cons p r ih =>
      obtain ⟨a, b⟩ := p
      by_cases c : f = a
      · subst c
        simp [List.lookup] at e
        subst e
        exact List.mem_cons_self
      · have c2 : (f == a) = false := by simpa using c
        simp only [List.lookup, c2] at e
        exact List.mem_cons_of_mem _ (ih (fun p hp => h p (List.mem_cons_of_mem _ hp)) e)
  exact h _ this
theorem held_of {P : Program} {w : World} {K : PySem.W.Frag} {mg : Str → Option Value} {base : Heap} {k n : Nat} {f : Addr} {x : Str} {ps : List Str} {st : Stmt} {fn : FN} (C : Cal P w K mg base k x ps st fn) (e : mg x = some (.ref f)) (hn : ps.length = n) : Held P w K mg base k f (spOf K n fn) := by
  obtain ⟨g, fd', h1, h2, h3, h4, h5⟩ := C.ex
  have : g = f := by rw [e] at h2; cases h2; rfl
  subst this
  subst hn
  exact ⟨fd', ps, h1, h3, h4⟩
def spLaw (K : PySem.W.Frag) : Sp := fun vs H Q _ => ∃ (a : Addr) (ns : List Int), vs = [.ref a] ∧ SqL K H a (ns.map V.int) ∧ ∀ H', Q (.bl true) H'
theorem law_end {A : Around} {P : Program} {w : World} {K : PySem.W.Frag} {mg : Str → Option Value} {base : Heap} {f : Addr} {fd : FuncData} {ps : List Str} {fn : FN} (h : FnA A P w K mg base CX0 f fd ps (spOf K 1 fn)) (hf : ∀ ns, ∃ S, fn [.scr ns] [] = .ok (.p (.bool true)) S) : FnA A P w K mg base CX0 f fd ps (spLaw K) := by
  have key : ∀ vs H Q E, spLaw K vs H Q E → spOf K 1 fn vs H Q E := by
    rintro vs H Q E ⟨a, ns, rfl, hS, q⟩
    obtain ⟨S, hs⟩ := hf ns
    refine ⟨rfl, ⟨[], []⟩, [.scr ns], [], .cons (.scr ?_) .nil, ⟨rfl, .nil, (fun _ h => absurd h (by simp)), (fun _ h => absurd h (by simp)), (fun r a o h => absurd h (by simp))⟩, ?_⟩
    · rcases sqL_split hS with h | h
      · exact .inl ⟨h, by simp, by simp⟩
      · exact .inr h
    · rw [hs]
      intro H' w' _ _ v rv
      cases rv with | p rv => cases rv; exact q H'
  exact ⟨fun vs H Q E e => h.len vs H Q E (key _ _ _ _ e), fun outer s H args us vs Q E e0 hb r e => h.run outer s H args us vs Q E e0 hb r (key _ _ _ _ e)⟩
end SV
set_option linter.all false
set_option maxRecDepth 100000
set_option maxHeartbeats 1000000
namespace SV
open PySem PySem.Spec PyProof.Rows L2 NB RZ

/-! ### calls of defs that may raise -/
theorem pe_callK0S {X : Cx} {CX : CXT} {k : Nat} {f : Addr} {fd : FuncData} {ps ks : List Str} {sp : Sp} {E : L2.St → XK} {x : Str} {p pos : Pos} {kws : List Keyword} {tk : TA} {g : List Value → List Value} {gV : List V → List V}
    (F : FnOk X.prog X.w X.K X.mg X.base CX k f fd ps sp) (hr : Room k X.A) (hg : Gl X x) (hm : X.mg x = some (.ref f)) (hk : PySem.W.keepIn X.K (.ref f) = true) (hb : KB0 X.K fd ps ks g gV) (hx : ∀ σ, PassesAt CX X σ (E σ)) (hkw : PK X kws tk)
    (hall : (backToKw pos (keywordEach kws X.env)).all (·.1.isSome) = true := by rfl) (hks : (backToKw pos (keywordEach kws X.env)).filterMap (·.1) = ks := by rfl) (hdb : (x == ("__debug__" : Str)) = false := by decide)
    (hpl : ((backTo pos (starEach [] X.env)).any (·.1) || (backToKw pos (keywordEach kws X.env)).any (·.1.isNone)) = false := by rfl) :
    PE X (.Call (.Name x p) [] kws pos) (fun σ H Q => tk σ H fun zs H2 => zs.length = ks.length ∧ sp (gV zs) H2 Q (E σ)) := by
  refine ⟨fun pins s σ H Q I h => wpAny_Call_Name_kw (ld_glob I hg hm ?_ hdb)⟩
  refine PySem.W.callWith_KW0 (h₀ := X.base) I.ok.mod.kin hk hall (thn (hkw.run pos pins s σ H _ I h) fun ws s2 hq => ?_) hpl
  obtain ⟨zs, H2, I2, rz, hl, q⟩ := hq
  refine ⟨I2.kIn, ?_⟩
  rw [hks]
  have lw : ws.length = ks.length := by rw [← rz.length]; exact hl
  refine wpAny_call (codeAny_mono (F.run X.A X.stack s2 H2 ⟨[], ks.zip ws⟩ (g ws) (gV zs) Q (E σ) hr I2.env0 (hb.to s2 ws lw) (hb.rel zs ws hl rz) q) fun r s' hq => ?_)
  match r, hq with
  | .error e, hq => exact hx σ pins H2 s2 e s' I2 hq
  | .ok (.ret u), hq => exact I2.after hq
structure CalX (P : Program) (w : World) (K : PySem.W.Frag) (mg : Str → Option Value) (base : Heap) (k : Nat) (x : Str) (ps : List Str) (st : Stmt) (fn : FN) : Prop where
  ex : ∃ f fd, FnOk P w K mg base (L2.CX P w) k f fd ps (spOf K ps.length fn) ∧ mg x = some (.ref f) ∧ PySem.W.keepIn K (.ref f) = true ∧ Binds K fd ps [] ∧ Fun K x x st f fd
section
variable {X : Cx} {W : WX} {e : Expr} {es : List Expr} {f : FA} {p pos : Pos} {k : Nat} {x : Str} {ps : List Str} {st : Stmt} {fn : FN}
/-- what the callee lets out is what is wished for here -/
theorem callX_post {H1 : Hp} {w1 : Vw} {S1 : Sto} {ds : List D} {E : En} {σ : L2.St} {Q : VK} (q : Post X.K W H1 w1 ((fn ds S1).at E) (fun d _ H' w' => ∀ v, Rep X.K H' w' v d → Q v H')) (hE : EnR X.K H1 w1 E σ) :
    PostV X.K (wOf (WE W σ)) H1 w1 (fn ds S1) Q := by
  cases hfn : fn ds S1 with
  | bad => rw [hfn] at q; exact q
  | exc x E2 S2 => rw [hfn] at q; exact fun cls d H' w' σ' e1 e2 _ e4 => q cls d H' w' σ e1 e2 (hE.ext e1) e4
  | ok d S2 => rw [hfn] at q; exact q
theorem re_callX (C : CalX X.prog X.w X.K X.mg X.base k x ps st fn) (hr : Room k X.A) (tk : Takes X W) (hg : Gl X x) (ha : RA X W (e :: es) f) (hl : ALen f ps.length) (hdb : (x == ("__debug__" : Str)) = false := by decide)
    (he : starEach (e :: es) X.env = (false, eval e X.env) :: starEach es X.env := by rfl) (hpl : (backTo pos (starEach es X.env)).any (·.1) = false := by rfl) : RE X W (.Call (.Name x p) (e :: es) [] pos) (fCall fn f) := by
  obtain ⟨g, fd, h1, h2, h3, h4, _⟩ := C.ex
  exact PE.wk (pe_callS (E := WE W) h1 hr hg h2 h3 h4 (fun σ => passAt tk σ) ha hdb he hpl) fun σ H Q ⟨w, E, S, hE, hS, hP⟩ =>
    ⟨w, E, S, hE, hS, by
      have hq := Post.bind hP
      cases hfa : f E S with
      | bad => rw [hfa] at hq; exact hq
      | exc _ _ _ => rw [hfa] at hq; exact hq
      | ok ds S1 =>
        rw [hfa] at hq
        intro H1 w1 e1 s1 vs rv
        exact ⟨by rw [rv.len]; exact hl.h hfa, w1, ds, S1, rv, s1, callX_post (hq H1 w1 e1 s1) (hE.ext e1)⟩⟩
theorem re_callXK {n : Nat} {ks : List Str} {perm : List Nat} {kws : List Keyword} (C : CalX X.prog X.w X.K X.mg X.base k x ps st fn) (hr : Room k X.A) (tk : Takes X W) (hg : Gl X x) (ha : RK X W kws f) (hl : ALen f ks.length) (hn : ∀ {l : List V}, l.length = ks.length → (pick perm l).length = ps.length)
    (hb : ∀ (kV doc pm : Value) (an : Option Addr) (cdv ct : Value) (ws : List Value), ws.length = ks.length → bindArgs (PySem.W.fnOf x x (defArgs st) (defBody st) (defScope st) .none kV doc pm an cdv ct) ⟨[], ks.zip ws⟩ = pure (ps.zip (pick perm ws)))
    (hall : (backToKw pos (keywordEach kws X.env)).all (·.1.isSome) = true := by rfl) (hks : (backToKw pos (keywordEach kws X.env)).filterMap (·.1) = ks := by rfl) (hdb : (x == ("__debug__" : Str)) = false := by decide)
    (hpl : ((backTo pos (starEach [] X.env)).any (·.1) || (backToKw pos (keywordEach kws X.env)).any (·.1.isNone)) = false := by rfl) : RE X W (.Call (.Name x p) [] kws pos) (fCallK perm fn f) := by
  obtain ⟨g, fd, h1, h2, h3, h4, F⟩ := C.ex
  obtain ⟨oc, od, kV, doc, pm, an, cdv, ct, osl, rfl, lk, hcd⟩ := F.ex
  have kb : KB0 X.K (PySem.W.fnOf x x (defArgs st) (defBody st) (defScope st) .none kV doc pm an cdv ct) ps ks (pick perm) (pick perm) := ⟨fun s ws hl => BindsTo.of_eq (hb _ _ _ _ _ _ ws hl), fun zs ws _ r => vals_pick r perm⟩
  exact PE.wk (pe_callK0S (E := WE W) h1 hr hg h2 h3 kb (fun σ => passAt tk σ) ha hall hks hdb hpl) fun σ H Q ⟨w, E, S, hE, hS, hP⟩ => ⟨w, E, S, hE, hS, by
      have hq := Post.bind hP
      cases hfa : f E S with
      | bad => rw [hfa] at hq; exact hq
      | exc _ _ _ => rw [hfa] at hq; exact hq
      | ok ds S1 =>
        rw [hfa] at hq
        intro H1 w1 e1 s1 vs rv
        have lv : vs.length = ks.length := by rw [rv.len]; exact hl.h hfa
        exact ⟨lv, by rw [hn lv], w1, pick perm ds, S1, rv.pick perm, s1, callX_post (hq H1 w1 e1 s1) (hE.ext e1)⟩⟩
end
/-! ### defs that may raise -/
section
variable {P : Program} {W_ : World} {K : PySem.W.Frag} {mg : Str → Option Value} {base : Heap}
theorem fn_svX {x qual : Str} {st : Stmt} {f : Addr} {fd : FuncData} {N ps : List Str} {k : Nat} {fb : FS} (F : Fun K x qual st f fd) (SC : FnScope N ps (defScope st))
    (hb : ∀ (cdv : Value) (A : Around) (outer : List Env) (s : Shared) (H : Hp) (E : XK), fd.code = cdv → Room k (A.deeper (envOfC qual (defScope st) s.heap.objs.size f cdv)) →
      RSs (cxOf (L2.CX P W_) P W_ K mg base N qual (defScope st) f cdv A outer s H E) (wOf E) (defBody st) fb) :
    FnOk P W_ K mg base (L2.CX P W_) (k + 1) f fd ps (spOf K ps.length (defF N.length fb)) := by
  obtain ⟨oc, od, kV, doc, pm, an, cdv, ct, osl, rfl, lk, hcd⟩ := F.ex
  refine fn_of lk hcd SC (fun vs H Q E h => h.1) fun A outer s H vs Q E hr h => ?_
  obtain ⟨hl, w, ds, S, hR, hS, hP⟩ := h
  refine ⟨_, hb cdv A outer s H E rfl hr, w, _, S, enR_start hR, hS, ?_⟩
  have hP2 := Post.at hP (fun _ _ _ _ _ h => h) ⟨[], fun H' w' _ => ⟨rfl, fun i d q => by simp at q⟩⟩
  clear hP
  show Post K (wOf E) H w (fb (startE N.length ds) S) _
  cases hf : fb (startE N.length ds) S with
  | bad => rw [hf] at hP2; exact hP2.elim
  | exc e E' S1 => rw [hf] at hP2; exact hP2
  | ok fl S1 =>
    rw [hf] at hP2
    intro H' w' e1 s1
    cases fl with
    | nx E1 => exact fun σ' _ => leave_ok hS e1 s1 (.p .non) hP2
    | ret d => exact fun v rv => leave_ok hS e1 s1 rv hP2
    | brk _ => exact hP2.elim
    | ct _ => exact hP2.elim
theorem fn_badX {x qual : Str} {st : Stmt} {f : Addr} {fd : FuncData} {N ps : List Str} {k : Nat} (F : Fun K x qual st f fd) (SC : FnScope N ps (defScope st)) : FnOk P W_ K mg base (L2.CX P W_) (k + 1) f fd ps (spOf K ps.length fun _ _ => .bad) := by
  obtain ⟨oc, od, kV, doc, pm, an, cdv, ct, osl, rfl, lk, hcd⟩ := F.ex
  exact fn_of lk hcd SC (fun vs H Q E h => h.1) fun A outer s H vs Q E hr h => by
    obtain ⟨_, _, _, _, _, _, h⟩ := h
    exact h.elim
end

/-! ### raise -/
/-- what the error's own __init__ promises -/
def spIni : Sp := fun vs H Q _ => ∃ (a C : Addr) (v : V), vs = [.ref a, v] ∧ H a = some (exo a C none) ∧ ∀ dx, H dx = none → dx ≠ a → Q .non (upd (upd H dx (exd dx [("at", v)])) a (exo a C (some dx)))
/-- an error's class: its one argument is kept as at -/
structure ErrC (P : Program) (w : World) (K : PySem.W.Frag) (mg : Str → Option Value) (base : Heap) (x : Str) (C : Addr) : Prop where
  T : OexC K C
  g : mg x = some (.ref C)
  no : PySem.W.findIn K (.ref C) "at" = some none
  X : XfC K C
  fI : ∃ fI fd, FnOk P w K mg base CX0 1 fI fd ["self", "at"] spIni ∧ PySem.W.findIn K (.ref C) "__init__" = some (some (.ref fI)) ∧ PySem.W.typeIn K (.ref fI) = some (.type "function") ∧ Binds K fd ["self", "at"] []
def fRaise (C : Addr) (a : FE) : FS := fun E S => (a E S).bind fun x S1 => .exc ⟨.ref C, some x⟩ E S1
theorem upd_del {H : Hp} {a dx : Addr} {o1 o2 o3 o4 : HO} (ha : H a = none) (ne : dx ≠ a) : upd (del (upd (upd (upd H a o1) dx o2) a o3) a) dx o4 = upd H dx o4 := by
  funext b
  by_cases h1 : b = dx
  · subst h1; rw [upd_same, upd_same]
  · rw [upd_ne h1, upd_ne h1]
    by_cases h2 : b = a
    · subst h2; rw [del_same, ha]
    · rw [del_ne h2, upd_ne h2, upd_ne h1, upd_ne h2]
section
variable {X : Cx} {W : WX} {e : Expr} {fe : FE} {p pos pos2 : Pos} {k : Nat} {x : Str} {C : Addr}
theorem rs_raise (EC : ErrC X.prog X.w X.K X.mg X.base x C) (hc : X.calm = true) (hr : Room 2 X.A) (tk : Takes X W) (hg : Gl X x) (he : RE X W e fe) (hdb : (x == ("__debug__" : Str)) = false := by decide)
    (h1 : starEach (e :: []) X.env = (false, eval e X.env) :: starEach [] X.env := by rfl) (h2 : (backTo pos (starEach [] X.env)).any (·.1) = false := by rfl) :
    RS X W (.Raise (some (.Call (.Name x p) [e] [] pos)) none pos2) (fRaise C fe) := by
  obtain ⟨fI, fd, f1, f2, f3, f4⟩ := EC.fI
  refine PS.wk (ps_raise hc tk (pmk_oex (ta := taOf X.K W (fConsA fe fNilA)) EC.T f2 f3 f1 hr f4 .nil (fun _ _ _ _ _ _ _ z => z.elim) hg EC.g (ra_cons he ra_nil h1) hdb h1 h2)) fun D_ σ H ⟨w, E, S, hE, hS, hP⟩ => ?_
  refine ⟨w, E, S, hE, hS, ?_⟩
  have hq := Post.bind hP
  show Post X.K W H w ((fe E S).bind fun d S1 => (R.ok [] S1 : R (List D)).bind fun xs S2 => R.ok (d :: xs) S2) _
  cases hfe : fe E S with
  | bad => rw [hfe] at hq; exact hq.elim
  | exc _ _ _ => rw [hfe] at hq; exact hq
  | ok d S1 =>
    rw [hfe] at hq
    intro H1 w1 e1 s1 vs rv
    have q := hq H1 w1 e1 s1
    cases rv with
    | cons r1 r2 =>
      cases r2
      rename_i v
      refine ⟨by simp, fun a ha => ⟨a, C, v, rfl, upd_same, fun dx hdx ne => ⟨rfl, dx, [("at", v)], upd_same, ?_, ?_, ?_⟩⟩⟩
      · rw [upd_ne ne]; exact upd_same
      · rw [upd_ne ne] at hdx; exact hdx
      · rw [upd_ne ne] at hdx
        rw [upd_del ha ne]
        have ex := Ext.new (K := X.K) (w := w1) (o := HO.xd [("at", v)]) hdx
        exact q (.ref C) (some dx) _ w1 σ ex ⟨rfl, dx, _, rfl, upd_same, s1.nfr hdx, s1.nz_new hdx, r1.ext ex⟩ ((hE.ext e1).ext ex) (s1.new hdx)
end

/-! ### try .. except X as n -/
open Classical in
/-- what is so whatever the addresses are -/
noncomputable def uni {α : Type} (f : Addr → Addr → R α) : R α := if h : ∃ r, ∀ a d, f a d = r then h.choose else .bad
theorem uni_eq {α : Type} {f : Addr → Addr → R α} {r : R α} (h : ∀ a d, f a d = r) : uni f = r := by
  have hx : ∃ r, ∀ a d, f a d = r := ⟨r, h⟩
  unfold uni
  rw [dif_pos hx, ← hx.choose_spec 0 0, h 0 0]
theorem uni_at {α : Type} {f : Addr → Addr → R α} (h : uni f ≠ .bad) (a d : Addr) : uni f = f a d := by
  unfold uni at h ⊢
  split
  · rename_i hx
    exact (hx.choose_spec a d).symm
  · rename_i hx
    rw [dif_neg hx] at h
    exact absurd rfl h
def rstE (i : Nat) (r : R Fl) : R Fl := match r with
  | .ok (.nx E) S => .ok (.nx (E.set i none)) S
  | .ok (.brk E) S => .ok (.brk (E.set i none)) S
  | .ok (.ct E) S => .ok (.ct (E.set i none)) S
  | .ok (.ret d) S => .ok (.ret d) S
  | _ => .bad
noncomputable def fTry (C : Addr) (others : List Addr) (i : Nat) (body : FS) (suite : Addr → Addr → FS) : FS := fun E S => match body E S with
  | .exc e E1 S1 => match e.arg with
    | some x => if e.cls = .ref C then uni fun a dx => rstE i (suite a dx (E1.set i (some (.exn a dx x))) S1) else if e.cls ∈ others.map Value.ref then .exc e E1 S1 else .bad
    | none => .bad
  | r => r
def gAt (a dx : Addr) (d : D) (S : Sto) : R D := match d with
  | .exn a' dx' x => if a' = a ∧ dx' = dx then .ok x S else .bad
  | _ => .bad
/-- which classes an except clause catches -/
structure Hears (K : PySem.W.Frag) (C : Addr) (others : List Addr) : Prop where
  own : PySem.W.exmOne K (.ref C) (.ref C) = some true
  no : ∀ o ∈ others, PySem.W.exmOne K (.ref o) (.ref C) = some false
section
variable {X : Cx} {W : WX} {e : Expr} {f : FE} {pos : Pos}
theorem re_at {a dd C : Addr} {oe : Obj} {pn : List (Addr × Obj)} (T : XfC X.K C) (hno : PySem.W.findIn X.K (.ref C) "at" = some none) (hz : Zc (.ref C) (some dd) oe) (hf : ∃ vs, oe.data = .fields vs) (he : RE (X.suite a ((a, oe) :: pn)) W e f)
    (hb : attributeBase e "at" X.env (eval e X.env) = eval e X.env := by rfl) : RE (X.suite a ((a, oe) :: pn)) W (.Attribute e "at" pos) (fUn (gAt a dd) f) :=
  PE.wk (pe_xf (te := teOf X.K W f) T hno hz hf he hb) fun σ H Q ⟨w, E, S, hE, hS, hP⟩ => ⟨w, E, S, hE, hS, Post.imp (Post.bind hP) fun x S1 H1 w1 e1 s1 q v rv => by
    unfold gAt at q
    split at q
    · split at q
      · rename_i c
        obtain ⟨rfl, rfl⟩ := c
        cases rv with
        | exn h1 h2 h3 h4 => exact ⟨rfl, rfl, _, _, _, rfl, h1, by simp [List.lookup], PostV.same q s1 h4⟩
      · exact q.elim
    · exact q.elim⟩
theorem pss_given {cls : Value} {d : Option Addr} {C : Addr} {sts : List Stmt} {t : Addr → TS} (h : ∀ dd, cls = .ref C → d = some dd → PSs X sts (t dd)) : PSs X sts fun D_ σ H => ∃ dd, cls = .ref C ∧ d = some dd ∧ t dd D_ σ H :=
  ⟨fun pins s σ H D_ I ⟨dd, h1, h2, q⟩ => (h dd h1 h2).run pins s σ H D_ I q⟩
theorem rs_try {x n : Str} {C : Addr} {others : List Addr} {i : Nat} {body suite : List Stmt} {b₀ : Stmt} {np pos pos' : Pos} {fb : FS} {fs : Addr → Addr → FS} (hs : X.stack = X.env :: X.outer) (hf : X.env.frame = some X.env.locals) (hN : X.N.Nodup) (hi : X.N[i]? = some n) (hln : X.env.kindOf n = some .local)
    (hc : Names X x (.ref C)) (tk : Takes X W) (hh : Hears X.K C others)
    (hb : ∀ (W : WX) (pn : List (Addr × Obj)) (xe : Value → Shared → Prop), Takes (X.tr pn xe) W → PassesOwn (model X.prog X.w) X.A X.env xe → RSs (X.tr pn xe) W body fb)
    (hsu : ∀ (a : Addr) (oe : Obj) (dd : Addr) (pn : List (Addr × Obj)), Zc (.ref C) (some dd) oe → (∃ vs, oe.data = .fields vs) → RSs (X.suite a ((a, oe) :: pn)) noW (b₀ :: suite) (fs a dd)) :
    RS X W (.Try body [.ExceptHandler (some (.Name x np)) (some n) (b₀ :: suite) pos'] [] [] pos) (fTry C others i fb fs) := by
  refine PS.wk (ps_try_as (tb := fun W => tsOf X.K W fb) (ts := fun a cls d D_ σ H => ∃ dd, cls = .ref C ∧ d = some dd ∧ tsOf X.K noW (fs a dd) D_ σ H) (Wout := W) hs hf hN hi hln hc tk hb (fun a oe cls d pn hz hf => pss_given fun dd h1 h2 => by subst h1; subst h2; exact hsu a oe dd pn hz hf)) fun D_ σ H ⟨w, E, S, hE, hS, hP⟩ => ⟨w, E, S, hE, hS, ?_⟩
  unfold fTry at hP
  cases hbd : fb E S with
  | bad => rw [hbd] at hP; exact hP.elim
  | ok fl S1 => rw [hbd] at hP; exact hP
  | exc e E1 S1 =>
    rw [hbd] at hP
    dsimp only at hP
    intro cls d H' w' σ' e1 ⟨hcls, harg⟩ e3 e4
    cases ha : e.arg with
    | none => rw [ha] at hP; exact hP.elim
    | some x0 =>
      rw [ha] at hP harg
      dsimp only at hP harg
      obtain ⟨dx, v, rfl, hdx, hm, hz, rv⟩ := harg
      subst hcls
      split at hP
      · rename_i hC
        refine ⟨true, by rw [hC]; exact hh.own, fun _ a hna => ⟨dx, hC, rfl, w', E1.set i (some (.exn a dx x0)), S1, e3.set (.exn hdx hm hz rv) i, e4, ?_⟩, fun z => Bool.noConfusion z⟩
        have nb : (uni fun a dx => rstE i (fs a dx (E1.set i (some (.exn a dx x0))) S1)) ≠ .bad := fun z => by rw [z] at hP; exact hP.elim
        rw [uni_at nb a dx] at hP
        have hP := Post.ext hP e1
        clear nb
        cases hsf : fs a dx (E1.set i (some (.exn a dx x0))) S1 with
        | bad => rw [hsf] at hP; exact hP.elim
        | exc _ _ _ => rw [hsf] at hP; exact hP.elim
        | ok fl S2 =>
          rw [hsf] at hP
          intro H2 w2 g1 g2
          cases fl with
          | nx E2 => exact fun σ2 h2 => hP H2 w2 g1 g2 _ (h2.clear i)
          | brk E2 => exact fun σ2 h2 => hP H2 w2 g1 g2 _ (h2.clear i)
          | ct E2 => exact fun σ2 h2 => hP H2 w2 g1 g2 _ (h2.clear i)
          | ret d => exact hP H2 w2 g1 g2
      · split at hP
        · rename_i hC hO
          obtain ⟨o, ho, eo⟩ := List.mem_map.mp hO
          refine ⟨false, by rw [← eo]; exact hh.no o ho, fun z => Bool.noConfusion z, fun _ => hP _ _ H' w' σ' e1 ⟨rfl, ?_⟩ e3 e4⟩
          rw [ha]
          exact ⟨dx, v, rfl, hdx, hm, hz, rv⟩
        · exact hP.elim
end

/-! ### the law's own def: nothing leaves it -/
theorem funA' {P : Program} {w : World} {K : PySem.W.Frag} {mg : Str → Option Value} {base : Heap} {A : Around} {x qual : Str} {st : Stmt} {f : Addr} {fd : FuncData} {N ps : List Str} {k : Nat} {sp : Sp} (F : Fun K x qual st f fd) (S : FnScope N ps (defScope st)) (hr : Room (k + 1) A)
    (len : ∀ vs H Q E, sp vs H Q E → vs.length = ps.length)
    (body : ∀ (cdv : Value) (outer : List Env) (s : Shared) (H : Hp) (vs : List V) (Q : VK) (E : XK), fd.code = cdv → Room k (A.deeper (envOfC qual (defScope st) s.heap.objs.size f cdv)) → sp vs H Q E →
      ∃ t, PSs (cxOf CX0 P w K mg base N qual (defScope st) f cdv A outer s H E).nox (defBody st) t ∧ t { nx := fun _ H' => Q .non H', rt := Q } (start N vs) H) :
    FnA A P w K mg base CX0 f fd ps sp := by
  obtain ⟨oc, od, kV, doc, pm, an, cdv, ct, osl, rfl, lk, hcd⟩ := F.ex
  refine ⟨len, fun outer s H args us vs Q E e0 hb r hsp => ?_⟩
  have hl := len _ _ _ _ hsp
  have old : ∀ b o, base.get? b = some o → s.heap.get? b = some o := fun b o e => (e0.bs b o e).1
  have names : ∀ y ∈ ps.zip us, (defScope st).names.lookup y.1 = some .local ∨ (defScope st).names.lookup y.1 = some .cell := fun y hy => S.par y.1 (List.of_mem_zip hy).1
  have hall : ((ps.zip us).all fun y => (defScope st).names.lookup y.1 == some .local || (defScope st).names.lookup y.1 == some .cell) = true := by
    rw [List.all_eq_true]
    intro y hy
    rcases names y hy with q | q
    · rw [q]; rfl
    · rw [q]; rfl
  refine Att.call_fn (e0.mod.kin.keeps old) (e0.mod.nolimit.keeps old) lk hcd hr.depth hb hall (fun s1 x => ?_) S.co S.gen S.kind
  obtain ⟨t, ht, hq⟩ := body cdv outer s H vs Q E rfl (hr.deeper _) hsp
  have I := inv_start (CX := CX0) (E := E) (f := f) (cd := cdv) (qual := qual) S hr.hd e0 hl r x
  refine wpAny_mono (ht.nox.run [] s1 (start N vs) H _ I hq) (fun fl s' hs => ?_) fun e s' hs => hs
  cases fl with
  | ret u => obtain ⟨v, σ', H', J, rv, q⟩ := hs; exact ⟨v, H', J.os, J.bare, J.base, J.hok, rv, q⟩
  | next => obtain ⟨σ', H', J, q⟩ := hs; exact ⟨V.non, H', J.os, J.bare, J.base, J.hok, rfl, q⟩
  | brk => obtain ⟨_, _, _, q⟩ := hs; exact q.elim
  | cont => obtain ⟨_, _, _, q⟩ := hs; exact q.elim
def spOf0 (K : PySem.W.Frag) (n : Nat) (fn : FN) : Sp := fun vs H Q _ => vs.length = n ∧ ∃ w ds S, Reps K H w vs ds ∧ StR K H w S ∧ PostV K noW H w (fn ds S) Q
theorem fn_svA0 {P : Program} {W_ : World} {K : PySem.W.Frag} {mg : Str → Option Value} {base : Heap} {A : Around} {x qual : Str} {st : Stmt} {f : Addr} {fd : FuncData} {N ps : List Str} {k : Nat} {fb : FS} (F : Fun K x qual st f fd) (SC : FnScope N ps (defScope st)) (hr : Room (k + 1) A)
    (hb : ∀ (cdv : Value) (outer : List Env) (s : Shared) (H : Hp) (E : XK), fd.code = cdv → Room k (A.deeper (envOfC qual (defScope st) s.heap.objs.size f cdv)) →
      RSs (cxOf CX0 P W_ K mg base N qual (defScope st) f cdv A outer s H E).nox noW (defBody st) fb) :
    FnA A P W_ K mg base CX0 f fd ps (spOf0 K ps.length (defF N.length fb)) := by
  refine funA' F SC hr (fun vs H Q E h => h.1) fun cdv outer s H vs Q E hcd hr h => ?_
  obtain ⟨hl, w, ds, S, hR, hS, hP⟩ := h
  refine ⟨_, hb cdv outer s H E hcd hr, w, _, S, enR_start hR, hS, ?_⟩
  have hP2 := Post.at hP (fun _ _ _ _ _ h => h) ⟨[], fun H' w' _ => ⟨rfl, fun i d q => by simp at q⟩⟩
  clear hP
  show Post K noW H w (fb (startE N.length ds) S) _
  cases hf : fb (startE N.length ds) S with
  | bad => rw [hf] at hP2; exact hP2.elim
  | exc e E' S1 => rw [hf] at hP2; exact hP2
  | ok fl S1 =>
    rw [hf] at hP2
    intro H' w' e1 s1
    cases fl with
    | nx E1 => exact fun σ' _ => leave_ok hS e1 s1 (.p .non) hP2
    | ret d => exact fun v rv => leave_ok hS e1 s1 rv hP2
    | brk _ => exact hP2.elim
    | ct _ => exact hP2.elim
theorem law_end0 {A : Around} {P : Program} {w : World} {K : PySem.W.Frag} {mg : Str → Option Value} {base : Heap} {f : Addr} {fd : FuncData} {ps : List Str} {fn : FN} (h : FnA A P w K mg base CX0 f fd ps (spOf0 K 1 fn)) (hf : ∀ ns, ∃ S, fn [.scr ns] [] = .ok (.p (.bool true)) S) : FnA A P w K mg base CX0 f fd ps (spLaw K) := by
  have key : ∀ vs H Q E, spLaw K vs H Q E → spOf0 K 1 fn vs H Q E := by
    rintro vs H Q E ⟨a, ns, rfl, hS, q⟩
    obtain ⟨S, hs⟩ := hf ns
    refine ⟨rfl, ⟨[], []⟩, [.scr ns], [], .cons (.scr ?_) .nil, ⟨rfl, .nil, (fun _ h => absurd h (by simp)), (fun _ h => absurd h (by simp)), (fun r a o h => absurd h (by simp))⟩, ?_⟩
    · rcases sqL_split hS with h | h
      · exact .inl ⟨h, by simp, by simp⟩
      · exact .inr h
    · rw [hs]
      intro H' w' _ _ v rv
      cases rv with | p rv => cases rv; exact q H'
  exact ⟨fun vs H Q E e => h.len vs H Q E (key _ _ _ _ e), fun outer s H args us vs Q E e0 hb r e => h.run outer s H args us vs Q E e0 hb r (key _ _ _ _ e)⟩
theorem law_endT0 {A : Around} {P : Program} {w : World} {K : PySem.W.Frag} {mg : Str → Option Value} {base : Heap} {f : Addr} {fd : FuncData} {ps : List Str} {fn : FN} {cs : List (Addr × Addr)} {c0 P0 : Addr} {r : List (Addr × Addr)} (hcs : cs = (c0, P0) :: r)
    (h : FnA A P w K mg base CX0 f fd ps (spOf0 K 1 fn)) (hf : ∀ ns, ∃ S, fn [.scr ns] [.tabs (cs.map (·.2))] = .ok (.p (.bool true)) S) : FnA A P w K mg base CX0 f fd ps (spLawT K cs) := by
  have key : ∀ vs H Q E, spLawT K cs vs H Q E → spOf0 K 1 fn vs H Q E := by
    rintro vs H Q E ⟨a, ns, rfl, hS, hT, ha, q⟩
    obtain ⟨S, hs⟩ := hf ns
    have m0 : (c0, P0) ∈ cs := by rw [hcs]; exact List.mem_cons_self
    have hP0 : H P0 = some (.tbl #[]) := hT _ m0
    have na : a ∉ [P0] := fun z => ha _ m0 (List.mem_singleton.mp z).symm
    refine ⟨rfl, ⟨[P0], []⟩, [.scr ns], [.tabs (cs.map (·.2))], .cons (.scr ?_) .nil, ⟨rfl, by simp, (fun _ _ h => by cases h), (fun _ h => by cases h), (fun r a o h h2 => ?_)⟩, ?_⟩
    · rcases sqL_split hS with h | h
      · exact .inl ⟨h, na, by simp⟩
      · exact .inr h
    · cases r with
      | zero =>
        obtain rfl : P0 = a := by simpa using h
        obtain rfl : Ob.tabs (cs.map (·.2)) = o := by simpa using h2
        refine ⟨_, hP0, fun P hP => ?_⟩
        obtain ⟨p, hp, rfl⟩ := List.mem_map.mp hP
        exact ⟨#[], hT p hp, trivial⟩
      | succ r => simp at h
    · rw [hs]
      intro H' w' _ _ v rv
      cases rv with | p rv => cases rv; exact q H'
  exact ⟨fun vs H Q E e => h.len vs H Q E (key _ _ _ _ e), fun outer s H args us vs Q E e0 hb r e => h.run outer s H args us vs Q E e0 hb r (key _ _ _ _ e)⟩
end SV
set_option linter.all false
set_option maxRecDepth 100000
set_option maxHeartbeats 4000000
namespace PD
open PySem PySem.Spec PyProof.Rows L2 NB RZ SV
noncomputable section
structure Ad where
  a_least : Addr
  a_most : Addr
  a_middle : Addr
  a_sum : Addr
  a_times : Addr
  a_part : Addr
  a_clip : Addr
  a_from : Addr
  a_bar : Addr
  a_row : Addr
  p_are_integers_in : Addr
  p_are_rules : Addr
  p_is_state : Addr
  p_is_past : Addr
  e_InvalidNet : Addr
  e_InvalidText : Addr
  e_InvalidRun : Addr
  e_InvalidPaper : Addr
  e_InvalidQuestion : Addr
  e_Refused : Addr
abbrev c_LEAF_WORDS : D := .p (.tuple [.str "is", .str "hear"])
abbrev c_LIST_WORDS : D := .p (.tuple [.str "least", .str "most", .str "add"])
abbrev c_MOST_BRANCHES : D := .p (.int 12)
abbrev c_MOST_HOUSES : D := .p (.int 20)
abbrev c_MOST_LEVELS : D := .p (.int 8)
abbrev c_MOST_NUMBER : D := .p (.int 1000)
abbrev c_MOST_RULES : D := .p (.int 60)
def t_NUMBER_COUNTS : List (Str × D) := [("least", .p (.tuple [.int 0, .int 0])), ("most", .p (.tuple [.int 0, .int 0])), ("add", .p (.tuple [.int 0, .int 0])), ("middle", .p (.tuple [.int 0, .int 0])), ("times", .p (.tuple [.int 1, .int 1])), ("part", .p (.tuple [.int 1, .int 1])), ("clip", .p (.tuple [.int 2, .int 2])), ("from", .p (.tuple [.int 1, .int 1])), ("bar", .p (.tuple [.int 3, .int 3])), ("row", .p (.tuple [.int 1, .int 64]))]
def t_TELLING (A : Ad) : List (Str × D) := [("least", .glb (.ref A.a_least)), ("most", .glb (.ref A.a_most)), ("middle", .glb (.ref A.a_middle)), ("add", .glb (.ref A.a_sum)), ("times", .glb (.ref A.a_times)), ("part", .glb (.ref A.a_part)), ("clip", .glb (.ref A.a_clip)), ("from", .glb (.ref A.a_from)), ("bar", .glb (.ref A.a_bar)), ("row", .glb (.ref A.a_row))]
abbrev c_MOST_ROWS : D := .p (.int 4096)
abbrev b_is_integer : FS :=
  (fRet (fAndV (fUn (gIsi .int) (fVar 0)) (fUn gNotV (fUn (gIsi .bool) (fVar 0)))))
def f_is_integer : FN := defF 1 (b_is_integer)
abbrev b_is_integer_in : FS :=
  (fRet (fAndV (fCall f_is_integer (fConsA (fVar 0) fNilA)) (fChain gLe gLe (fVar 1) (fVar 0) (fVar 2))))
def f_is_integer_in : FN := defF 3 (b_is_integer_in)
abbrev b_are_integers_in (A : Ad) : FS :=
  (fRet (fQu false A.p_are_integers_in (fWk (fVar 0)) (.one 3) [3] (fCall f_is_integer_in (fConsA (fVar 3) (fConsA (fVar 1) (fConsA (fVar 2) fNilA))))))
def f_are_integers_in (A : Ad) : FN := defF 4 (b_are_integers_in A)
abbrev b_least_number : FS :=
  (fSeq (fIfS (fB (fOp gEq (fVar 0) (fC (.p (.str "part"))))) (fRet (fC (.p (.int 1)))) fSkip)
  (fSeq (fIfS (fAndT (fB (fOp gEq (fVar 0) (fC (.p (.str "clip"))))) (fB (fOp gEq (fCallB gLen (fConsA (fVar 1) fNilA)) (fC (.p (.int 1)))))) (fRet (fOp fIx (fVar 1) (fC (.p (.int 0))))) fSkip)
  (fRet (fC (.p (.int 0))))))
def f_least_number : FN := defF 2 (b_least_number)
abbrev b_inner_rules : FS :=
  (fSeq (fSet 1 (fOp fIx (fVar 0) (fC (.p (.int 0)))))
  (fSeq (fIfS (fB (fOp (gIn false) (fVar 1) (fC c_LEAF_WORDS))) (fRet (fTup fNilA)) fSkip)
  (fSeq (fIfS (fB (fOp (gIn false) (fVar 1) (fC c_LIST_WORDS))) (fRet (fOp fIx (fVar 0) (fC (.p (.int 1))))) fSkip)
  (fSeq (fIfS (fB (fOp gEq (fVar 1) (fC (.p (.str "middle"))))) (fRet (fSl true (fVar 0) (fSomeO (fC (.p (.int 1)))) fNoO)) fSkip)
  (fRet (fSl true (fVar 0) (fSomeO (fUn gNeg (fC (.p (.int 1))))) fNoO))))))
def f_inner_rules : FN := defF 2 (b_inner_rules)
abbrev b_numbers_fit : FS :=
  (fSeq (fAsg (fUn (gIxKd t_NUMBER_COUNTS) (fVar 0)) (gTp 2 (gC0 (gNm 2) (gC0 (gNm 3) gN0))))
  (fSeq (fIfS (fNotT (fB (fChain gLe gLe (fVar 2) (fCallB gLen (fConsA (fVar 1) fNilA)) (fVar 3)))) (fRet (fC (.p (.bool false)))) fSkip)
  (fSeq (fFor (fEnum (fConsA (fVar 1) fNilA)) (gTp 2 (gC0 (gNm 4) (gC0 (gNm 5) gN0))) (fIfS (fNotT (fTru (fCall f_is_integer_in (fConsA (fVar 5) (fConsA (fCall f_least_number (fConsA (fVar 0) (fConsA (fSl true (fVar 1) fNoO (fSomeO (fVar 4))) fNilA))) (fConsA (fC c_MOST_NUMBER) fNilA)))))) (fRet (fC (.p (.bool false)))) fSkip))
  (fRet (fC (.p (.bool true)))))))
def f_numbers_fit : FN := defF 6 (b_numbers_fit)
abbrev b_has_form : FS :=
  (fSeq (fIfS (fOrT (fNotT (fTru (fUn (gIsi .tuple) (fVar 0)))) (fOrT (fB (fOp gEq (fCallB gLen (fConsA (fVar 0) fNilA)) (fC (.p (.int 0))))) (fNotT (fTru (fUn (gIsi .str) (fOp fIx (fVar 0) (fC (.p (.int 0))))))))) (fRet (fC (.p (.bool false)))) fSkip)
  (fSeq (fSet 1 (fOp fIx (fVar 0) (fC (.p (.int 0)))))
  (fSeq (fIfS (fB (fOp (gIn false) (fVar 1) (fC c_LEAF_WORDS))) (fRet (fAndV (fOp gEq (fCallB gLen (fConsA (fVar 0) fNilA)) (fC (.p (.int 2)))) (fCall f_is_integer_in (fConsA (fOp fIx (fVar 0) (fC (.p (.int 1)))) (fConsA (fC (.p (.int 0))) (fConsA (fC c_MOST_NUMBER) fNilA)))))) fSkip)
  (fSeq (fIfS (fB (fOp (gIn false) (fVar 1) (fC c_LIST_WORDS))) (fRet (fAndV (fOp gEq (fCallB gLen (fConsA (fVar 0) fNilA)) (fC (.p (.int 2)))) (fAndV (fUn (gIsi .tuple) (fOp fIx (fVar 0) (fC (.p (.int 1))))) (fOp gGt (fCallB gLen (fConsA (fOp fIx (fVar 0) (fC (.p (.int 1)))) fNilA)) (fC (.p (.int 0))))))) fSkip)
  (fSeq (fIfS (fB (fOp gEq (fVar 1) (fC (.p (.str "middle"))))) (fRet (fOp gEq (fCallB gLen (fConsA (fVar 0) fNilA)) (fC (.p (.int 4))))) fSkip)
  (fSeq (fIfS (fB (fOp gEq (fVar 1) (fC (.p (.str "row"))))) (fRet (fAndV (fOp gEq (fCallB gLen (fConsA (fVar 0) fNilA)) (fC (.p (.int 3)))) (fAndV (fUn (gIsi .tuple) (fOp fIx (fVar 0) (fC (.p (.int 1))))) (fCall f_numbers_fit (fConsA (fVar 1) (fConsA (fOp fIx (fVar 0) (fC (.p (.int 1)))) fNilA)))))) fSkip)
  (fRet (fAndV (fUn (gInKd t_NUMBER_COUNTS false) (fVar 1)) (fCall f_numbers_fit (fConsA (fVar 1) (fConsA (fSl true (fVar 0) (fSomeO (fC (.p (.int 1)))) (fSomeO (fUn gNeg (fC (.p (.int 1)))))) fNilA)))))))))))
def f_has_form : FN := defF 2 (b_has_form)
abbrev b_is_rule : FS :=
  (fSeq (fSet 1 (fLst false (fConsA (fTup (fConsA (fVar 0) (fConsA (fC (.p (.int 1))) fNilA))) fNilA)))
  (fSeq (fSet 2 (fC (.p (.int 0))))
  (fSeq (fSet 3 (fC (.p (.int 0))))
  (fSeq (fWhile (fTru (fVar 1)) (fSeq (fAsg (fMt gPop (fVar 1) fNilA) (gTp 2 (gC0 (gNm 4) (gC0 (gNm 5) gN0))))
  (fSeq (fAug 2 gIAdd (fC (.p (.int 1))))
  (fSeq (fIfS (fOrT (fB (fOp gGt (fVar 5) (fC c_MOST_LEVELS))) (fOrT (fB (fOp gGt (fOp gAdd (fVar 2) (fCallB gLen (fConsA (fVar 1) fNilA))) (fC c_MOST_RULES))) (fNotT (fTru (fCall f_has_form (fConsA (fVar 4) fNilA)))))) (fRet (fC (.p (.bool false)))) fSkip)
  (fSeq (fIfS (fB (fOp gEq (fOp fIx (fVar 4) (fC (.p (.int 0)))) (fC (.p (.str "hear"))))) (fAug 3 gIAdd (fC (.p (.int 1)))) fSkip)
  (fFor (fWk (fCall f_inner_rules (fConsA (fVar 4) fNilA))) (gNm 6) (fDrop (fMt gAppend (fVar 1) (fConsA (fTup (fConsA (fVar 6) (fConsA (fOp gAdd (fVar 5) (fC (.p (.int 1)))) fNilA))) fNilA)))))))))
  (fRet (fOp gLe (fVar 3) (fC c_MOST_BRANCHES)))))))
def f_is_rule : FN := defF 7 (b_is_rule)
abbrev b_branches (self : FN) : FS :=
  (fSeq (fIfS (fB (fOp gEq (fOp fIx (fVar 0) (fC (.p (.int 0)))) (fC (.p (.str "hear"))))) (fRet (fTup (fConsA (fOp fIx (fVar 0) (fC (.p (.int 1)))) fNilA))) fSkip)
  (fSeq (fSet 1 (fLst false fNilA))
  (fSeq (fFor (fWk (fCall f_inner_rules (fConsA (fVar 0) fNilA))) (gNm 2) (fDrop (fMt gExtend (fVar 1) (fConsA (fCall self (fConsA (fVar 2) fNilA)) fNilA))))
  (fRet (fCallB gTuple (fConsA (fVar 1) fNilA))))))
def f_branches : Nat → FN
  | 0 => fun _ _ => .bad
  | n + 1 => defF 3 (b_branches (f_branches n))
abbrev b_least : FS :=
  (fRet (fCallB gMin (fConsA (fVar 1) fNilA)))
def f_least : FN := defF 2 (b_least)
abbrev b_most : FS :=
  (fRet (fCallB gMax (fConsA (fVar 1) fNilA)))
def f_most : FN := defF 2 (b_most)
abbrev b_middle : FS :=
  (fRet (fOp fIx (fCallB (gSorted true) (fConsA (fVar 1) fNilA)) (fC (.p (.int 1)))))
def f_middle : FN := defF 2 (b_middle)
abbrev b_sum : FS :=
  (fRet (fCallB gSum (fConsA (fVar 1) fNilA)))
def f_sum : FN := defF 2 (b_sum)
abbrev b_times : FS :=
  (fRet (fOp gMul (fOp fIx (fVar 0) (fC (.p (.int 1)))) (fOp fIx (fVar 1) (fC (.p (.int 0))))))
def f_times : FN := defF 2 (b_times)
abbrev b_part : FS :=
  (fRet (fOp gDiv (fOp fIx (fVar 1) (fC (.p (.int 0)))) (fOp fIx (fVar 0) (fC (.p (.int 1))))))
def f_part : FN := defF 2 (b_part)
abbrev b_clip : FS :=
  (fRet (fCallB gMin (fConsA (fCallB gMax (fConsA (fOp fIx (fVar 1) (fC (.p (.int 0)))) (fConsA (fOp fIx (fVar 0) (fC (.p (.int 1)))) fNilA))) (fConsA (fOp fIx (fVar 0) (fC (.p (.int 2)))) fNilA))))
def f_clip : FN := defF 2 (b_clip)
abbrev b_from : FS :=
  (fRet (fCallB gMax (fConsA (fOp gSub (fOp fIx (fVar 0) (fC (.p (.int 1)))) (fOp fIx (fVar 1) (fC (.p (.int 0))))) (fConsA (fC (.p (.int 0))) fNilA))))
def f_from : FN := defF 2 (b_from)
abbrev b_bar : FS :=
  (fRet (fIf (fB (fOp gGe (fOp fIx (fVar 1) (fC (.p (.int 0)))) (fOp fIx (fVar 0) (fC (.p (.int 1)))))) (fOp fIx (fVar 0) (fC (.p (.int 3)))) (fOp fIx (fVar 0) (fC (.p (.int 2))))))
def f_bar : FN := defF 2 (b_bar)
abbrev b_row : FS :=
  (fRet (fOp fIx (fOp fIx (fVar 0) (fC (.p (.int 1)))) (fCallB gMin (fConsA (fOp fIx (fVar 1) (fC (.p (.int 0)))) (fConsA (fOp gSub (fCallB gLen (fConsA (fOp fIx (fVar 0) (fC (.p (.int 1)))) fNilA)) (fC (.p (.int 1)))) fNilA)))))
def f_row : FN := defF 2 (b_row)
def tbl (A : Ad) : List (Addr × FN) := [(A.a_least, f_least), (A.a_most, f_most), (A.a_middle, f_middle), (A.a_sum, f_sum), (A.a_times, f_times), (A.a_part, f_part), (A.a_clip, f_clip), (A.a_from, f_from), (A.a_bar, f_bar), (A.a_row, f_row)]
abbrev b_told_of (A : Ad) : FS :=
  (fSeq (fSet 2 (fUn (gIxKd (t_TELLING A)) (fOp fIx (fVar 0) (fC (.p (.int 0))))))
  (fRet (fCallL 2 (tbl A) (fConsA (fVar 0) (fConsA (fVar 1) fNilA)))))
def f_told_of (A : Ad) : FN := defF 3 (b_told_of A)
abbrev b_told_from (A : Ad) (self : FN) : FS :=
  (fSeq (fSet 3 (fOp fIx (fVar 0) (fC (.p (.int 0)))))
  (fSeq (fIfS (fB (fOp gEq (fVar 3) (fC (.p (.str "is"))))) (fRet (fTup (fConsA (fOp fIx (fVar 0) (fC (.p (.int 1)))) (fConsA (fVar 2) fNilA)))) fSkip)
  (fSeq (fIfS (fB (fOp gEq (fVar 3) (fC (.p (.str "hear"))))) (fRet (fTup (fConsA (fOp fIx (fVar 1) (fVar 2)) (fConsA (fOp gAdd (fVar 2) (fC (.p (.int 1)))) fNilA)))) fSkip)
  (fSeq (fSet 4 (fLst false fNilA))
  (fSeq (fFor (fWk (fCall f_inner_rules (fConsA (fVar 0) fNilA))) (gNm 5) (fSeq (fAsg (fCall self (fConsA (fVar 5) (fConsA (fVar 1) (fConsA (fVar 2) fNilA)))) (gTp 2 (gC0 (gNm 6) (gC0 (gNm 2) gN0))))
  (fDrop (fMt gAppend (fVar 4) (fConsA (fVar 6) fNilA)))))
  (fRet (fTup (fConsA (fCall (f_told_of A) (fConsA (fVar 0) (fConsA (fVar 4) fNilA))) (fConsA (fVar 2) fNilA)))))))))
def f_told_from (A : Ad) : Nat → FN
  | 0 => fun _ _ => .bad
  | n + 1 => defF 7 (b_told_from A (f_told_from A n))
abbrev b_told (A : Ad) : FS :=
  (fRet (fOp fIx (fCall (f_told_from A 10) (fConsA (fVar 0) (fConsA (fVar 1) (fConsA (fC (.p (.int 0))) fNilA)))) (fC (.p (.int 0)))))
def f_told (A : Ad) : FN := defF 2 (b_told A)
abbrev b_are_tops (A : Ad) : FS :=
  (fRet (fAndV (fChain gLe gLe (fC (.p (.int 1))) (fCallB gLen (fConsA (fVar 0) fNilA)) (fC c_MOST_HOUSES)) (fCall (f_are_integers_in A) (fConsA (fVar 0) (fConsA (fC (.p (.int 0))) (fConsA (fC c_MOST_NUMBER) fNilA))))))
def f_are_tops (A : Ad) : FN := defF 1 (b_are_tops A)
abbrev b_are_rules (A : Ad) : FS :=
  (fSeq (fIfS (fB (fOp gNe (fCallB gLen (fConsA (fVar 0) fNilA)) (fVar 1))) (fRet (fC (.p (.bool false)))) fSkip)
  (fRet (fQu false A.p_are_rules (fWk (fVar 0)) (.one 2) [2] (fAndV (fCall f_is_rule (fConsA (fVar 2) fNilA)) (fOp gLt (fCallB gMax (fConsA (fCall (f_branches 10) (fConsA (fVar 2) fNilA)) fNilA)) (fVar 1))))))
def f_are_rules (A : Ad) : FN := defF 3 (b_are_rules A)
abbrev b_is_net (A : Ad) : FS :=
  (fSeq (fIfS (fOrT (fNotT (fTru (fUn (gIsi .tuple) (fVar 0)))) (fB (fOp gNe (fCallB gLen (fConsA (fVar 0) fNilA)) (fC (.p (.int 2)))))) (fRet (fC (.p (.bool false)))) fSkip)
  (fSeq (fAsg (fVar 0) (gTp 2 (gC0 (gNm 1) (gC0 (gNm 2) gN0))))
  (fSeq (fIfS (fOrT (fNotT (fTru (fUn (gIsi .tuple) (fVar 1)))) (fNotT (fTru (fUn (gIsi .tuple) (fVar 2))))) (fRet (fC (.p (.bool false)))) fSkip)
  (fRet (fAndV (fCall (f_are_tops A) (fConsA (fVar 1) fNilA)) (fCall (f_are_rules A) (fConsA (fVar 2) (fConsA (fCallB gLen (fConsA (fVar 1) fNilA)) fNilA))))))))
def f_is_net (A : Ad) : FN := defF 3 (b_is_net A)
abbrev b_is_state (A : Ad) : FS :=
  (fSeq (fIfS (fOrT (fNotT (fTru (fUn (gIsi .tuple) (fVar 1)))) (fB (fOp gNe (fCallB gLen (fConsA (fVar 1) fNilA)) (fCallB gLen (fConsA (fOp fIx (fVar 0) (fC (.p (.int 0)))) fNilA))))) (fRet (fC (.p (.bool false)))) fSkip)
  (fRet (fQu false A.p_is_state (fZip (fConsA (fVar 1) (fConsA (fOp fIx (fVar 0) (fC (.p (.int 0)))) fNilA))) (.many [2, 3]) [2, 3] (fCall f_is_integer_in (fConsA (fVar 2) (fConsA (fC (.p (.int 0))) (fConsA (fVar 3) fNilA)))))))
def f_is_state (A : Ad) : FN := defF 4 (b_is_state A)
abbrev b_wanted (A : Ad) : FS :=
  (fRet (fCallB gMin (fConsA (fCall (f_told A) (fConsA (fOp fIx (fOp fIx (fVar 0) (fC (.p (.int 1)))) (fVar 1)) (fConsA (fVar 2) fNilA))) (fConsA (fOp fIx (fOp fIx (fVar 0) (fC (.p (.int 0)))) (fVar 1)) fNilA))))
def f_wanted (A : Ad) : FN := defF 3 (b_wanted A)
abbrev b_heard_in : FS :=
  (fRet (fCallB gTuple (fConsA (fLc true (fWk (fCall (f_branches 10) (fConsA (fOp fIx (fOp fIx (fVar 0) (fC (.p (.int 1)))) (fVar 1)) fNilA))) (.one 3) [3] fYes (fOp fIx (fVar 2) (fVar 3))) fNilA)))
def f_heard_in : FN := defF 4 (b_heard_in)
abbrev b_next_state (A : Ad) : FS :=
  (fRet (fCallB gTuple (fConsA (fLc true (fRng1 (fConsA (fCallB gLen (fConsA (fOp fIx (fVar 0) (fC (.p (.int 0)))) fNilA)) fNilA)) (.one 2) [2] fYes (fCall (f_wanted A) (fConsA (fVar 0) (fConsA (fVar 2) (fConsA (fCall f_heard_in (fConsA (fVar 0) (fConsA (fVar 2) (fConsA (fVar 1) fNilA)))) fNilA))))) fNilA)))
def f_next_state (A : Ad) : FN := defF 3 (b_next_state A)
abbrev b_is_rest (A : Ad) : FS :=
  (fRet (fOp gEq (fCall (f_next_state A) (fConsA (fVar 0) (fConsA (fVar 1) fNilA))) (fVar 1)))
def f_is_rest (A : Ad) : FN := defF 2 (b_is_rest A)
abbrev b_law_draw : FS :=
  (fSeq (fSet 3 (fLc true (fWk (fSl true (fVar 0) fNoO (fSomeO (fC (.p (.int 48)))))) (.one 2) [2] fYes (fCallB gAbs (fConsA (fCallB gInt (fConsA (fVar 2) fNilA)) fNilA))))
  (fSeq (fSet 4 (fOp gAdd (fC (.p (.int 7919))) (fOp gMul (fC (.p (.int 104729))) (fVar 1))))
  (fSeq (fFor (fWk (fVar 3)) (gNm 2) (fSet 4 (fOp gMod (fCallB gInt (fConsA (fOp gAdd (fOp gAdd (fOp gMul (fVar 4) (fC (.p (.int 48271)))) (fOp gMod (fVar 2) (fC (.p (.int 2147483549))))) (fC (.p (.int 11)))) fNilA)) (fC (.p (.int 2147483647))))))
  (fRet (fLst false (fConsA (fRev false (fLc true (fWk (fVar 3)) (.one 2) [2] (fB (fOp gGe (fVar 2) (fOp gPow (fC (.p (.int 10))) (fC (.p (.int 18)))))) (fVar 2))) (fConsA (fVar 4) fNilA)))))))
def f_law_draw : FN := defK 5 (b_law_draw)
abbrev b_law_any : FS :=
  (fSeq (fWhile (fAndT (fB (fOp gNe (fOp fIx (fVar 0) (fC (.p (.int 0)))) (fLst true fNilA))) (fB (fOp gEq (fOp fIx (fOp fIx (fVar 0) (fC (.p (.int 0)))) (fUn gNeg (fC (.p (.int 1))))) (fC (.p (.int 0)))))) (fDrop (fMt gPop (fOp fIx (fVar 0) (fC (.p (.int 0)))) fNilA)))
  (fSeq (fIfS (fB (fOp gNe (fOp fIx (fVar 0) (fC (.p (.int 0)))) (fLst true fNilA))) (fSeq (fSet 2 (fCallB gInt (fConsA (fMt gPop (fOp fIx (fVar 0) (fC (.p (.int 0)))) fNilA) fNilA)))
  (fSeq (fDrop (fMt gAppend (fOp fIx (fVar 0) (fC (.p (.int 0)))) (fConsA (fOp gDiv (fVar 2) (fVar 1)) fNilA)))
  (fRet (fOp gMod (fVar 2) (fVar 1))))) fSkip)
  (fSeq (fAsg (fOp gMod (fCallB gInt (fConsA (fOp gAdd (fOp gMul (fOp fIx (fVar 0) (fC (.p (.int 1)))) (fC (.p (.int 40693)))) (fC (.p (.int 71)))) fNilA)) (fC (.p (.int 2147483647)))) (gSb (fVar 0) (fC (.p (.int 1)))))
  (fRet (fOp gMod (fCallB gInt (fConsA (fOp gDiv (fOp fIx (fVar 0) (fC (.p (.int 1)))) (fC (.p (.int 64)))) fNilA)) (fVar 1))))))
def f_law_any : FN := defF 3 (b_law_any)
abbrev b_law_of : FS :=
  (fRet (fOp fIx (fVar 1) (fCall f_law_any (fConsA (fVar 0) (fConsA (fCallB gLen (fConsA (fVar 1) fNilA)) fNilA)))))
def f_law_of : FN := defF 2 (b_law_of)
abbrev b_law_mixed : FS :=
  (fSeq (fPar 2 3 (fConsA (fCallB (gList false) (fConsA (fVar 1) fNilA)) (fConsA (fLst false fNilA) fNilA)))
  (fSeq (fWhile (fB (fOp gNe (fVar 2) (fLst true fNilA))) (fDrop (fMt gAppend (fVar 3) (fConsA (fMt gPopAt (fVar 2) (fConsA (fCall f_law_any (fConsA (fVar 0) (fConsA (fCallB gLen (fConsA (fVar 2) fNilA)) fNilA))) fNilA)) fNilA))))
  (fRet (fVar 3))))
def f_law_mixed : FN := defF 4 (b_law_mixed)
abbrev b_law_rule (self : FN) : FS :=
  (fSeq (fSet 5 (fIf (fB (fOp gGt (fVar 3) (fC (.p (.int 0))))) (fCall f_law_any (fConsA (fVar 0) (fConsA (fC (.p (.int 14))) fNilA))) (fCall f_law_any (fConsA (fVar 0) (fConsA (fC (.p (.int 4))) fNilA)))))
  (fSeq (fIfS (fB (fOp gEq (fVar 5) (fC (.p (.int 0))))) (fRet (fTup (fConsA (fC (.p (.str "is"))) (fConsA (fCall f_law_any (fConsA (fVar 0) (fConsA (fOp gAdd (fVar 2) (fC (.p (.int 1)))) fNilA))) fNilA)))) fSkip)
  (fSeq (fIfS (fB (fOp gLt (fVar 5) (fC (.p (.int 4))))) (fRet (fTup (fConsA (fC (.p (.str "hear"))) (fConsA (fCall f_law_any (fConsA (fVar 0) (fConsA (fVar 1) fNilA))) fNilA)))) fSkip)
  (fSeq (fIfS (fB (fOp gLt (fVar 5) (fC (.p (.int 8))))) (fSeq (fSet 7 (fCallB gTuple (fConsA (fLc true (fRng1 (fConsA (fOp gAdd (fC (.p (.int 1))) (fCall f_law_any (fConsA (fVar 0) (fConsA (fC (.p (.int 2))) fNilA)))) fNilA)) (.one 6) [6] fYes (fCall self (fConsA (fVar 0) (fConsA (fVar 1) (fConsA (fVar 2) (fConsA (fOp gSub (fVar 3) (fC (.p (.int 1)))) (fConsA (fVar 4) fNilA))))))) fNilA)))
  (fRet (fTup (fConsA (fCall f_law_of (fConsA (fVar 0) (fConsA (fLst true (fConsA (fC (.p (.str "least"))) (fConsA (fC (.p (.str "most"))) (fConsA (fC (.p (.str "add"))) fNilA)))) fNilA))) (fConsA (fVar 7) fNilA))))) fSkip)
  (fSeq (fIfS (fAndT (fB (fOp gEq (fVar 5) (fC (.p (.int 8))))) (fB (fOp gEq (fVar 3) (fC (.p (.int 1)))))) (fRet (fOp gAdd (fTup (fConsA (fC (.p (.str "middle"))) fNilA)) (fCallB gTuple (fConsA (fLc true (fRng1 (fConsA (fC (.p (.int 3))) fNilA)) (.one 6) [6] fYes (fCall self (fConsA (fVar 0) (fConsA (fVar 1) (fConsA (fVar 2) (fConsA (fC (.p (.int 0))) (fConsA (fVar 4) fNilA))))))) fNilA)))) fSkip)
  (fSeq (fSet 8 (fCall self (fConsA (fVar 0) (fConsA (fVar 1) (fConsA (fVar 2) (fConsA (fOp gSub (fVar 3) (fC (.p (.int 1)))) (fConsA (fVar 4) fNilA)))))))
  (fSeq (fIfS (fB (fOp gEq (fVar 5) (fC (.p (.int 9))))) (fRet (fTup (fConsA (fC (.p (.str "times"))) (fConsA (fCall f_law_any (fConsA (fVar 0) (fConsA (fC (.p (.int 3))) fNilA))) (fConsA (fVar 8) fNilA))))) fSkip)
  (fSeq (fIfS (fB (fOp gEq (fVar 5) (fC (.p (.int 10))))) (fRet (fTup (fConsA (fC (.p (.str "part"))) (fConsA (fOp gAdd (fC (.p (.int 1))) (fCall f_law_any (fConsA (fVar 0) (fConsA (fC (.p (.int 3))) fNilA)))) (fConsA (fVar 8) fNilA))))) fSkip)
  (fSeq (fIfS (fB (fOp gEq (fVar 5) (fC (.p (.int 11))))) (fSeq (fSet 9 (fCall f_law_any (fConsA (fVar 0) (fConsA (fOp gAdd (fVar 2) (fC (.p (.int 1)))) fNilA))))
  (fRet (fTup (fConsA (fC (.p (.str "clip"))) (fConsA (fVar 9) (fConsA (fOp gAdd (fVar 9) (fCall f_law_any (fConsA (fVar 0) (fConsA (fC (.p (.int 3))) fNilA)))) (fConsA (fVar 8) fNilA))))))) fSkip)
  (fSeq (fIfS (fB (fOp gEq (fVar 5) (fC (.p (.int 12))))) (fRet (fTup (fConsA (fC (.p (.str "bar"))) (fConsA (fCall f_law_any (fConsA (fVar 0) (fConsA (fOp gAdd (fVar 2) (fC (.p (.int 2)))) fNilA))) (fConsA (fCall f_law_any (fConsA (fVar 0) (fConsA (fOp gAdd (fVar 2) (fC (.p (.int 1)))) fNilA))) (fConsA (fCall f_law_any (fConsA (fVar 0) (fConsA (fOp gAdd (fVar 2) (fC (.p (.int 1)))) fNilA))) (fConsA (fVar 8) fNilA))))))) fSkip)
  (fSeq (fIfS (fB (fOp gEq (fVar 5) (fC (.p (.int 13))))) (fSeq (fSet 10 (fLc true (fRng1 (fConsA (fOp gAdd (fC (.p (.int 1))) (fCall f_law_any (fConsA (fVar 0) (fConsA (fOp gAdd (fVar 2) (fC (.p (.int 1)))) fNilA)))) fNilA)) (.one 6) [6] fYes (fCall f_law_any (fConsA (fVar 0) (fConsA (fOp gAdd (fVar 2) (fC (.p (.int 1)))) fNilA)))))
  (fRet (fTup (fConsA (fC (.p (.str "row"))) (fConsA (fCallB gTuple (fConsA (fIf (fTru (fVar 4)) (fVar 10) (fCallB (gSorted true) (fConsA (fVar 10) fNilA))) fNilA)) (fConsA (fVar 8) fNilA)))))) fSkip)
  (fRet (fTup (fConsA (fC (.p (.str "from"))) (fConsA (fCall f_law_any (fConsA (fVar 0) (fConsA (fOp gAdd (fVar 2) (fC (.p (.int 2)))) fNilA))) (fConsA (fVar 8) fNilA))))))))))))))))
def f_law_rule : Nat → FN
  | 0 => fun _ _ => .bad
  | n + 1 => defF 11 (b_law_rule (f_law_rule n))
abbrev b_law_net : FS :=
  (fSeq (fSet 4 (fOp gAdd (fC (.p (.int 1))) (fCall f_law_any (fConsA (fVar 0) (fConsA (fVar 1) fNilA)))))
  (fSeq (fSet 6 (fCallB gTuple (fConsA (fLc true (fRng1 (fConsA (fVar 4) fNilA)) (.one 5) [5] fYes (fOp gAdd (fC (.p (.int 1))) (fCall f_law_any (fConsA (fVar 0) (fConsA (fVar 2) fNilA))))) fNilA)))
  (fRet (fTup (fConsA (fVar 6) (fConsA (fCallB gTuple (fConsA (fLc true (fRng1 (fConsA (fVar 4) fNilA)) (.one 5) [5] fYes (fCall (f_law_rule 4) (fConsA (fVar 0) (fConsA (fVar 4) (fConsA (fVar 2) (fConsA (fCall f_law_any (fConsA (fVar 0) (fConsA (fC (.p (.int 4))) fNilA))) (fConsA (fVar 3) fNilA))))))) fNilA)) fNilA))))))
def f_law_net : FN := defF 7 (b_law_net)
abbrev b_law_parts : FS :=
  (fSeq (fIfS (fB (fOp (gIn false) (fOp fIx (fVar 0) (fC (.p (.int 0)))) (fLst true (fConsA (fC (.p (.str "is"))) (fConsA (fC (.p (.str "hear"))) fNilA))))) (fRet (fLst true fNilA)) fSkip)
  (fSeq (fIfS (fB (fOp (gIn false) (fOp fIx (fVar 0) (fC (.p (.int 0)))) (fLst true (fConsA (fC (.p (.str "least"))) (fConsA (fC (.p (.str "most"))) (fConsA (fC (.p (.str "add"))) fNilA)))))) (fRet (fCallB (gList true) (fConsA (fOp fIx (fVar 0) (fC (.p (.int 1)))) fNilA))) fSkip)
  (fRet (fIf (fB (fOp gEq (fOp fIx (fVar 0) (fC (.p (.int 0)))) (fC (.p (.str "middle"))))) (fCallB (gList true) (fConsA (fSl true (fVar 0) (fSomeO (fC (.p (.int 1)))) fNoO) fNilA)) (fLst true (fConsA (fOp fIx (fVar 0) (fUn gNeg (fC (.p (.int 1))))) fNilA))))))
def f_law_parts : FN := defF 1 (b_law_parts)
abbrev b_law_branches (self : FN) : FS :=
  (fSeq (fSet 1 (fIf (fB (fOp gEq (fOp fIx (fVar 0) (fC (.p (.int 0)))) (fC (.p (.str "hear"))))) (fLst true (fConsA (fOp fIx (fVar 0) (fC (.p (.int 1)))) fNilA)) (fLst true fNilA)))
  (fSeq (fFor (fWk (fCall f_law_parts (fConsA (fVar 0) fNilA))) (gNm 2) (fSet 1 (fOp gAdd (fVar 1) (fCall self (fConsA (fVar 2) fNilA)))))
  (fRet (fVar 1))))
def f_law_branches : Nat → FN
  | 0 => fun _ _ => .bad
  | n + 1 => defF 3 (b_law_branches (f_law_branches n))
abbrev b_law_made : FS :=
  (fSeq (fPar 2 3 (fConsA (fOp fIx (fVar 0) (fC (.p (.int 0)))) (fConsA (fOp fIx (fVar 1) (fC (.p (.int 0)))) fNilA)))
  (fSeq (fIfS (fB (fOp (gIn false) (fVar 2) (fLst true (fConsA (fC (.p (.str "least"))) (fConsA (fC (.p (.str "most"))) (fConsA (fC (.p (.str "add"))) (fConsA (fC (.p (.str "middle"))) fNilA))))))) (fRet (fIf (fB (fOp gEq (fVar 2) (fC (.p (.str "least"))))) (fCallB gMin (fConsA (fVar 1) fNilA)) (fIf (fB (fOp gEq (fVar 2) (fC (.p (.str "most"))))) (fCallB gMax (fConsA (fVar 1) fNilA)) (fIf (fB (fOp gEq (fVar 2) (fC (.p (.str "add"))))) (fCallB gSum (fConsA (fVar 1) fNilA)) (fOp fIx (fCallB (gSorted true) (fConsA (fVar 1) fNilA)) (fC (.p (.int 1)))))))) fSkip)
  (fSeq (fIfS (fB (fOp (gIn false) (fVar 2) (fLst true (fConsA (fC (.p (.str "times"))) (fConsA (fC (.p (.str "part"))) fNilA))))) (fRet (fIf (fB (fOp gEq (fVar 2) (fC (.p (.str "times"))))) (fOp gMul (fOp fIx (fVar 0) (fC (.p (.int 1)))) (fVar 3)) (fOp gDiv (fVar 3) (fOp fIx (fVar 0) (fC (.p (.int 1))))))) fSkip)
  (fSeq (fIfS (fB (fOp gEq (fVar 2) (fC (.p (.str "clip"))))) (fRet (fIf (fB (fOp gLt (fVar 3) (fOp fIx (fVar 0) (fC (.p (.int 1)))))) (fOp fIx (fVar 0) (fC (.p (.int 1)))) (fIf (fB (fOp gGt (fVar 3) (fOp fIx (fVar 0) (fC (.p (.int 2)))))) (fOp fIx (fVar 0) (fC (.p (.int 2)))) (fVar 3)))) fSkip)
  (fSeq (fIfS (fB (fOp gEq (fVar 2) (fC (.p (.str "from"))))) (fRet (fIf (fB (fOp gLt (fVar 3) (fOp fIx (fVar 0) (fC (.p (.int 1)))))) (fOp gSub (fOp fIx (fVar 0) (fC (.p (.int 1)))) (fVar 3)) (fC (.p (.int 0))))) fSkip)
  (fSeq (fIfS (fB (fOp gEq (fVar 2) (fC (.p (.str "bar"))))) (fRet (fIf (fB (fOp gGe (fVar 3) (fOp fIx (fVar 0) (fC (.p (.int 1)))))) (fOp fIx (fVar 0) (fC (.p (.int 3)))) (fOp fIx (fVar 0) (fC (.p (.int 2)))))) fSkip)
  (fRet (fIf (fB (fOp gLt (fVar 3) (fCallB gLen (fConsA (fOp fIx (fVar 0) (fC (.p (.int 1)))) fNilA)))) (fOp fIx (fOp fIx (fVar 0) (fC (.p (.int 1)))) (fVar 3)) (fOp fIx (fOp fIx (fVar 0) (fC (.p (.int 1)))) (fUn gNeg (fC (.p (.int 1)))))))))))))
def f_law_made : FN := defF 4 (b_law_made)
abbrev b_law_told (self : FN) : FS :=
  (fSeq (fIfS (fB (fOp (gIn false) (fOp fIx (fVar 0) (fC (.p (.int 0)))) (fLst true (fConsA (fC (.p (.str "is"))) (fConsA (fC (.p (.str "hear"))) fNilA))))) (fRet (fIf (fB (fOp gEq (fOp fIx (fVar 0) (fC (.p (.int 0)))) (fC (.p (.str "is"))))) (fOp fIx (fVar 0) (fC (.p (.int 1)))) (fOp fIx (fVar 1) (fC (.p (.int 0)))))) fSkip)
  (fSeq (fPar 2 3 (fConsA (fLst false fNilA) (fConsA (fC (.p (.int 0))) fNilA)))
  (fSeq (fFor (fWk (fCall f_law_parts (fConsA (fVar 0) fNilA))) (gNm 4) (fSeq (fSet 5 (fCallB gLen (fConsA (fCall (f_law_branches 10) (fConsA (fVar 4) fNilA)) fNilA)))
  (fSeq (fDrop (fMt gAppend (fVar 2) (fConsA (fCall self (fConsA (fVar 4) (fConsA (fSl true (fVar 1) (fSomeO (fVar 3)) (fSomeO (fOp gAdd (fVar 3) (fVar 5)))) fNilA))) fNilA)))
  (fSet 3 (fOp gAdd (fVar 3) (fVar 5))))))
  (fRet (fCall f_law_made (fConsA (fVar 0) (fConsA (fVar 2) fNilA)))))))
def f_law_told : Nat → FN
  | 0 => fun _ _ => .bad
  | n + 1 => defF 6 (b_law_told (f_law_told n))
abbrev b_law_wants : FS :=
  (fRet (fCallB gMin (fConsA (fOp fIx (fOp fIx (fVar 0) (fC (.p (.int 0)))) (fVar 1)) (fConsA (fCall (f_law_told 10) (fConsA (fOp fIx (fOp fIx (fVar 0) (fC (.p (.int 1)))) (fVar 1)) (fConsA (fCallB (gList true) (fConsA (fVar 2) fNilA)) fNilA))) fNilA))))
def f_law_wants : FN := defF 3 (b_law_wants)
abbrev b_law_next : FS :=
  (fSeq (fSet 2 (fLst false fNilA))
  (fSeq (fFor (fRng1 (fConsA (fCallB gLen (fConsA (fOp fIx (fVar 0) (fC (.p (.int 0)))) fNilA)) fNilA)) (gNm 3) (fDrop (fMt gAppend (fVar 2) (fConsA (fCall f_law_wants (fConsA (fVar 0) (fConsA (fVar 3) (fConsA (fLc true (fWk (fCall (f_law_branches 10) (fConsA (fOp fIx (fOp fIx (fVar 0) (fC (.p (.int 1)))) (fVar 3)) fNilA))) (.one 4) [4] fYes (fOp fIx (fVar 1) (fVar 4))) fNilA)))) fNilA))))
  (fRet (fCallB gTuple (fConsA (fVar 2) fNilA)))))
def f_law_next : FN := defF 5 (b_law_next)
abbrev b_law_rule_k01 (self : FN) : FS :=
  (fSeq (fSet 5 (fIf (fB (fOp gGt (fVar 3) (fC (.p (.int 0))))) (fCall f_law_any (fConsA (fVar 0) (fConsA (fC (.p (.int 14))) fNilA))) (fCall f_law_any (fConsA (fVar 0) (fConsA (fC (.p (.int 4))) fNilA)))))
  (fSeq (fIfS (fB (fOp gEq (fVar 5) (fC (.p (.int 0))))) (fRet (fTup (fConsA (fC (.p (.str "is"))) (fConsA (fCall f_law_any (fConsA (fVar 0) (fConsA (fOp gAdd (fVar 2) (fC (.p (.int 1)))) fNilA))) fNilA)))) fSkip)
  (fSeq (fIfS (fB (fOp gLt (fVar 5) (fC (.p (.int 4))))) (fRet (fTup (fConsA (fC (.p (.str "hear"))) (fConsA (fCall f_law_any (fConsA (fVar 0) (fConsA (fVar 1) fNilA))) fNilA)))) fSkip)
  (fSeq (fIfS (fB (fOp gLt (fVar 5) (fC (.p (.int 8))))) (fSeq (fSet 7 (fCallB gTuple (fConsA (fLc true (fRng1 (fConsA (fOp gAdd (fC (.p (.int 1))) (fCall f_law_any (fConsA (fVar 0) (fConsA (fC (.p (.int 2))) fNilA)))) fNilA)) (.one 6) [6] fYes (fCall self (fConsA (fVar 0) (fConsA (fVar 1) (fConsA (fVar 2) (fConsA (fOp gSub (fVar 3) (fC (.p (.int 1)))) (fConsA (fVar 4) fNilA))))))) fNilA)))
  (fRet (fTup (fConsA (fCall f_law_of (fConsA (fVar 0) (fConsA (fLst true (fConsA (fC (.p (.str "least"))) (fConsA (fC (.p (.str "most"))) (fConsA (fC (.p (.str "add"))) fNilA)))) fNilA))) (fConsA (fVar 7) fNilA))))) fSkip)
  (fSeq (fIfS (fAndT (fB (fOp gEq (fVar 5) (fC (.p (.int 8))))) (fB (fOp gEq (fVar 3) (fC (.p (.int 1)))))) (fRet (fOp gAdd (fTup (fConsA (fC (.p (.str "middle"))) fNilA)) (fCallB gTuple (fConsA (fLc true (fRng1 (fConsA (fC (.p (.int 3))) fNilA)) (.one 6) [6] fYes (fCall self (fConsA (fVar 0) (fConsA (fVar 1) (fConsA (fVar 2) (fConsA (fC (.p (.int 0))) (fConsA (fVar 4) fNilA))))))) fNilA)))) fSkip)
  (fSeq (fSet 8 (fCall self (fConsA (fVar 0) (fConsA (fVar 1) (fConsA (fVar 2) (fConsA (fOp gSub (fVar 3) (fC (.p (.int 1)))) (fConsA (fVar 4) fNilA)))))))
  (fSeq (fIfS (fB (fOp gEq (fVar 5) (fC (.p (.int 9))))) (fRet (fTup (fConsA (fC (.p (.str "times"))) (fConsA (fCall f_law_any (fConsA (fVar 0) (fConsA (fC (.p (.int 3))) fNilA))) (fConsA (fVar 8) fNilA))))) fSkip)
  (fSeq (fIfS (fB (fOp gEq (fVar 5) (fC (.p (.int 10))))) (fRet (fTup (fConsA (fC (.p (.str "part"))) (fConsA (fOp gAdd (fC (.p (.int 1))) (fCall f_law_any (fConsA (fVar 0) (fConsA (fC (.p (.int 3))) fNilA)))) (fConsA (fVar 8) fNilA))))) fSkip)
  (fSeq (fIfS (fB (fOp gEq (fVar 5) (fC (.p (.int 11))))) (fSeq (fSet 9 (fCall f_law_any (fConsA (fVar 0) (fConsA (fOp gAdd (fVar 2) (fC (.p (.int 1)))) fNilA))))
  (fRet (fTup (fConsA (fC (.p (.str "clip"))) (fConsA (fVar 9) (fConsA (fOp gAdd (fVar 9) (fCall f_law_any (fConsA (fVar 0) (fConsA (fC (.p (.int 3))) fNilA)))) (fConsA (fVar 8) fNilA))))))) fSkip)
  (fSeq (fIfS (fB (fOp gEq (fVar 5) (fC (.p (.int 12))))) (fRet (fTup (fConsA (fC (.p (.str "bar"))) (fConsA (fCall f_law_any (fConsA (fVar 0) (fConsA (fOp gAdd (fVar 2) (fC (.p (.int 2)))) fNilA))) (fConsA (fCall f_law_any (fConsA (fVar 0) (fConsA (fOp gAdd (fVar 2) (fC (.p (.int 1)))) fNilA))) (fConsA (fCall f_law_any (fConsA (fVar 0) (fConsA (fOp gAdd (fVar 2) (fC (.p (.int 1)))) fNilA))) (fConsA (fVar 8) fNilA))))))) fSkip)
  (fSeq (fIfS (fB (fOp gEq (fVar 5) (fC (.p (.int 13))))) (fSeq (fSet 10 (fLc true (fRng1 (fConsA (fOp gAdd (fC (.p (.int 1))) (fCall f_law_any (fConsA (fVar 0) (fConsA (fCallB gMin (fConsA (fOp gAdd (fVar 2) (fC (.p (.int 1)))) (fConsA (fC (.p (.int 64))) fNilA))) fNilA)))) fNilA)) (.one 6) [6] fYes (fCall f_law_any (fConsA (fVar 0) (fConsA (fOp gAdd (fVar 2) (fC (.p (.int 1)))) fNilA)))))
  (fRet (fTup (fConsA (fC (.p (.str "row"))) (fConsA (fCallB gTuple (fConsA (fIf (fTru (fVar 4)) (fVar 10) (fCallB (gSorted true) (fConsA (fVar 10) fNilA))) fNilA)) (fConsA (fVar 8) fNilA)))))) fSkip)
  (fRet (fTup (fConsA (fC (.p (.str "from"))) (fConsA (fCall f_law_any (fConsA (fVar 0) (fConsA (fOp gAdd (fVar 2) (fC (.p (.int 2)))) fNilA))) (fConsA (fVar 8) fNilA))))))))))))))))
def f_law_rule_k01 : Nat → FN
  | 0 => fun _ _ => .bad
  | n + 1 => defF 11 (b_law_rule_k01 (f_law_rule_k01 n))
abbrev b_law_odd_rules : FS :=
  (fSeq (fSet 0 (fTup (fConsA (fC (.p (.str "hear"))) (fConsA (fC (.p (.int 0))) fNilA))))
  (fSeq (fFor (fRng1 (fConsA (fC (.p (.int 8))) fNilA)) (gNm 1) (fSet 0 (fTup (fConsA (fC (.p (.str "part"))) (fConsA (fC (.p (.int 1))) (fConsA (fVar 0) fNilA))))))
  (fSeq (fSet 3 (fTup (fConsA (fC (.p (.str "add"))) (fConsA (fCallB gTuple (fConsA (fLc true (fRng1 (fConsA (fC (.p (.int 13))) fNilA)) (.one 2) [2] fYes (fTup (fConsA (fC (.p (.str "hear"))) (fConsA (fVar 2) fNilA)))) fNilA)) fNilA))))
  (fSeq (fSet 4 (fLst true (fConsA (fC (.p .none)) (fConsA (fTup fNilA) (fConsA (fTup (fConsA (fC (.p (.str "is"))) fNilA)) (fConsA (fTup (fConsA (fC (.p (.str "is"))) (fConsA (fUn gNeg (fC (.p (.int 1)))) fNilA))) (fConsA (fTup (fConsA (fC (.p (.str "is"))) (fConsA (fC (.p (.int 1001))) fNilA))) (fConsA (fTup (fConsA (fC (.p (.str "is"))) (fConsA (fC (.p (.bool true))) fNilA))) (fConsA (fTup (fConsA (fC (.p (.str "is"))) (fConsA (fC (.p (.str "1"))) fNilA))) (fConsA (fLst true (fConsA (fC (.p (.str "is"))) (fConsA (fC (.p (.int 1))) fNilA))) (fConsA (fTup (fConsA (fC (.p (.str "hear"))) (fConsA (fC (.p .none)) fNilA))) (fConsA (fTup (fConsA (fC (.p (.str "least"))) (fConsA (fTup fNilA) fNilA))) (fConsA (fTup (fConsA (fC (.p (.str "most"))) (fConsA (fLst true (fConsA (fTup (fConsA (fC (.p (.str "is"))) (fConsA (fC (.p (.int 1))) fNilA))) fNilA)) fNilA))) (fConsA (fTup (fConsA (fC (.p (.str "odd"))) (fConsA (fC (.p (.int 1))) fNilA))) fNilA))))))))))))))
  (fSeq (fSet 4 (fOp gAdd (fVar 4) (fLst true (fConsA (fTup (fConsA (fC (.p (.str "middle"))) (fConsA (fTup (fConsA (fC (.p (.str "is"))) (fConsA (fC (.p (.int 1))) fNilA))) (fConsA (fTup (fConsA (fC (.p (.str "is"))) (fConsA (fC (.p (.int 2))) fNilA))) fNilA)))) (fConsA (fTup (fConsA (fC (.p (.str "times"))) (fConsA (fTup (fConsA (fC (.p (.str "is"))) (fConsA (fC (.p (.int 1))) fNilA))) (fConsA (fC (.p (.int 2))) fNilA)))) (fConsA (fTup (fConsA (fC (.p (.str "part"))) (fConsA (fC (.p (.int 0))) (fConsA (fTup (fConsA (fC (.p (.str "is"))) (fConsA (fC (.p (.int 1))) fNilA))) fNilA)))) (fConsA (fTup (fConsA (fC (.p (.str "clip"))) (fConsA (fC (.p (.int 2))) (fConsA (fC (.p (.int 1))) (fConsA (fTup (fConsA (fC (.p (.str "is"))) (fConsA (fC (.p (.int 1))) fNilA))) fNilA))))) (fConsA (fTup (fConsA (fC (.p (.str "from"))) (fConsA (fC (.p (.int 1))) fNilA))) (fConsA (fTup (fConsA (fC (.p (.str "bar"))) (fConsA (fC (.p (.int 1))) (fConsA (fC (.p (.int 2))) (fConsA (fTup (fConsA (fC (.p (.str "is"))) (fConsA (fC (.p (.int 1))) fNilA))) fNilA))))) fNilA)))))))))
  (fRet (fOp gAdd (fVar 4) (fLst true (fConsA (fTup (fConsA (fC (.p (.str "row"))) (fConsA (fTup fNilA) (fConsA (fTup (fConsA (fC (.p (.str "is"))) (fConsA (fC (.p (.int 1))) fNilA))) fNilA)))) (fConsA (fTup (fConsA (fC (.p (.str "row"))) (fConsA (fLst true (fConsA (fC (.p (.int 1))) fNilA)) (fConsA (fTup (fConsA (fC (.p (.str "is"))) (fConsA (fC (.p (.int 1))) fNilA))) fNilA)))) (fConsA (fTup (fConsA (fC (.p (.str "row"))) (fConsA (fOp gMul (fTup (fConsA (fC (.p (.int 0))) fNilA)) (fC (.p (.int 65)))) (fConsA (fTup (fConsA (fC (.p (.str "is"))) (fConsA (fC (.p (.int 1))) fNilA))) fNilA)))) (fConsA (fTup (fConsA (fC (.p (.str "add"))) (fConsA (fTup (fConsA (fTup (fConsA (fC (.p (.str "is"))) (fConsA (fC (.p (.int 1))) fNilA))) (fConsA (fC (.p .none)) fNilA))) fNilA))) (fConsA (fVar 0) (fConsA (fVar 3) (fConsA (fC (.p (.int 7))) (fConsA (fC (.p (.str "is"))) (fConsA (fTup (fConsA (fC (.p (.str "is"))) (fConsA (fC (.p (.int 1))) (fConsA (fC (.p (.int 2))) fNilA)))) fNilA)))))))))))))))))
def f_law_odd_rules : FN := defF 5 (b_law_odd_rules)
abbrev b_own_numbers : FS :=
  (fSeq (fSet 1 (fOp fIx (fVar 0) (fC (.p (.int 0)))))
  (fSeq (fIfS (fOrT (fB (fOp (gIn false) (fVar 1) (fC c_LIST_WORDS))) (fB (fOp gEq (fVar 1) (fC (.p (.str "middle")))))) (fRet (fTup fNilA)) fSkip)
  (fSeq (fIfS (fB (fOp gEq (fVar 1) (fC (.p (.str "row"))))) (fRet (fOp fIx (fVar 0) (fC (.p (.int 1))))) fSkip)
  (fSeq (fIfS (fB (fOp (gIn false) (fVar 1) (fC c_LEAF_WORDS))) (fRet (fSl true (fVar 0) (fSomeO (fC (.p (.int 1)))) fNoO)) fSkip)
  (fRet (fSl true (fVar 0) (fSomeO (fC (.p (.int 1)))) (fSomeO (fUn gNeg (fC (.p (.int 1)))))))))))
def f_own_numbers : FN := defF 2 (b_own_numbers)
abbrev b_made_rule : FS :=
  (fSeq (fIfS (fB (fOp (gIn false) (fVar 0) (fC c_LIST_WORDS))) (fRet (fTup (fConsA (fVar 0) (fConsA (fVar 2) fNilA)))) fSkip)
  (fSeq (fIfS (fB (fOp gEq (fVar 0) (fC (.p (.str "row"))))) (fRet (fOp gAdd (fTup (fConsA (fVar 0) (fConsA (fVar 1) fNilA))) (fVar 2))) fSkip)
  (fRet (fOp gAdd (fOp gAdd (fTup (fConsA (fVar 0) fNilA)) (fVar 1)) (fVar 2)))))
def f_made_rule : FN := defF 3 (b_made_rule)
abbrev b_renamed_rule (self : FN) : FS :=
  (fSeq (fSet 2 (fOp fIx (fVar 0) (fC (.p (.int 0)))))
  (fSeq (fIfS (fB (fOp gEq (fVar 2) (fC (.p (.str "hear"))))) (fRet (fTup (fConsA (fVar 2) (fConsA (fOp fIx (fVar 1) (fOp fIx (fVar 0) (fC (.p (.int 1))))) fNilA)))) fSkip)
  (fSeq (fSet 4 (fCallB gTuple (fConsA (fLc true (fWk (fCall f_inner_rules (fConsA (fVar 0) fNilA))) (.one 3) [3] fYes (fCall self (fConsA (fVar 3) (fConsA (fVar 1) fNilA)))) fNilA)))
  (fRet (fCall f_made_rule (fConsA (fVar 2) (fConsA (fCall f_own_numbers (fConsA (fVar 0) fNilA)) (fConsA (fVar 4) fNilA))))))))
def f_renamed_rule : Nat → FN
  | 0 => fun _ _ => .bad
  | n + 1 => defF 5 (b_renamed_rule (f_renamed_rule n))
abbrev b_with_rule : FS :=
  (fSeq (fAsg (fVar 0) (gTp 2 (gC0 (gNm 3) (gC0 (gNm 4) gN0))))
  (fRet (fTup (fConsA (fVar 3) (fConsA (fOp gAdd (fOp gAdd (fSl true (fVar 4) fNoO (fSomeO (fVar 1))) (fTup (fConsA (fVar 2) fNilA))) (fSl true (fVar 4) (fSomeO (fOp gAdd (fVar 1) (fC (.p (.int 1))))) fNoO)) fNilA)))))
def f_with_rule : FN := defF 5 (b_with_rule)
abbrev b_fixed : FS :=
  (fRet (fCall f_with_rule (fConsA (fVar 0) (fConsA (fVar 1) (fConsA (fTup (fConsA (fC (.p (.str "is"))) (fConsA (fVar 2) fNilA))) fNilA)))))
def f_fixed : FN := defF 3 (b_fixed)
abbrev b_law_called (self : FN) : FS :=
  (fSeq (fIfS (fB (fOp gEq (fOp fIx (fVar 0) (fC (.p (.int 0)))) (fC (.p (.str "hear"))))) (fRet (fTup (fConsA (fC (.p (.str "hear"))) (fConsA (fOp fIx (fVar 1) (fOp fIx (fVar 0) (fC (.p (.int 1))))) fNilA)))) fSkip)
  (fSeq (fIfS (fB (fOp gEq (fOp fIx (fVar 0) (fC (.p (.int 0)))) (fC (.p (.str "is"))))) (fRet (fVar 0)) fSkip)
  (fSeq (fIfS (fB (fOp (gIn false) (fOp fIx (fVar 0) (fC (.p (.int 0)))) (fLst true (fConsA (fC (.p (.str "least"))) (fConsA (fC (.p (.str "most"))) (fConsA (fC (.p (.str "add"))) fNilA)))))) (fRet (fTup (fConsA (fOp fIx (fVar 0) (fC (.p (.int 0)))) (fConsA (fCallB gTuple (fConsA (fLc true (fWk (fOp fIx (fVar 0) (fC (.p (.int 1))))) (.one 2) [2] fYes (fCall self (fConsA (fVar 2) (fConsA (fVar 1) fNilA)))) fNilA)) fNilA)))) fSkip)
  (fSeq (fIfS (fB (fOp gEq (fOp fIx (fVar 0) (fC (.p (.int 0)))) (fC (.p (.str "middle"))))) (fRet (fOp gAdd (fTup (fConsA (fC (.p (.str "middle"))) fNilA)) (fCallB gTuple (fConsA (fLc true (fWk (fSl true (fVar 0) (fSomeO (fC (.p (.int 1)))) fNoO)) (.one 2) [2] fYes (fCall self (fConsA (fVar 2) (fConsA (fVar 1) fNilA)))) fNilA)))) fSkip)
  (fRet (fOp gAdd (fSl true (fVar 0) fNoO (fSomeO (fUn gNeg (fC (.p (.int 1)))))) (fTup (fConsA (fCall self (fConsA (fOp fIx (fVar 0) (fUn gNeg (fC (.p (.int 1))))) (fConsA (fVar 1) fNilA))) fNilA))))))))
def f_law_called : Nat → FN
  | 0 => fun _ _ => .bad
  | n + 1 => defF 3 (b_law_called (f_law_called n))
abbrev b_hearers : FS :=
  (fRet (fCallB gTuple (fConsA (fLc true (fEnum (fConsA (fOp fIx (fVar 0) (fC (.p (.int 1)))) fNilA)) (.many [2, 3]) [2, 3] (fB (fOp (gIn false) (fVar 1) (fCall (f_branches 10) (fConsA (fVar 3) fNilA)))) (fVar 2)) fNilA)))
def f_hearers : FN := defF 4 (b_hearers)
abbrev b_is_past (A : Ad) : FS :=
  (fSeq (fIfS (fOrT (fNotT (fTru (fUn (gIsi .tuple) (fVar 2)))) (fB (fOp gNe (fCallB gLen (fConsA (fVar 2) fNilA)) (fVar 1)))) (fRet (fC (.p (.bool false)))) fSkip)
  (fRet (fQu false A.p_is_past (fWk (fVar 2)) (.one 3) [3] (fCall (f_is_state A) (fConsA (fVar 0) (fConsA (fVar 3) fNilA))))))
def f_is_past (A : Ad) : FN := defF 4 (b_is_past A)
abbrev b_branch_counts : FS :=
  (fRet (fLc true (fWk (fOp fIx (fVar 0) (fC (.p (.int 1))))) (.one 1) [1] fYes (fCallB gLen (fConsA (fCall (f_branches 10) (fConsA (fVar 1) fNilA)) fNilA))))
def f_branch_counts : FN := defF 2 (b_branch_counts)
abbrev b_fits_counts (A : Ad) : FS :=
  (fSeq (fIfS (fOrT (fNotT (fTru (fUn (gIsi .tuple) (fVar 2)))) (fB (fOp gNe (fCallB gLen (fConsA (fVar 2) fNilA)) (fCallB gLen (fConsA (fVar 0) fNilA))))) (fRet (fC (.p (.bool false)))) fSkip)
  (fSeq (fFor (fZip (fConsA (fVar 2) (fConsA (fVar 0) fNilA))) (gTp 2 (gC0 (gNm 3) (gC0 (gNm 4) gN0))) (fIfS (fOrT (fNotT (fTru (fUn (gIsi .tuple) (fVar 3)))) (fOrT (fB (fOp gNe (fCallB gLen (fConsA (fVar 3) fNilA)) (fVar 4))) (fNotT (fTru (fCall (f_are_integers_in A) (fConsA (fVar 3) (fConsA (fC (.p (.int 1))) (fConsA (fVar 1) fNilA)))))))) (fRet (fC (.p (.bool false)))) fSkip))
  (fRet (fC (.p (.bool true))))))
def f_fits_counts (A : Ad) : FN := defF 5 (b_fits_counts A)
abbrev b_is_lateness (A : Ad) : FS :=
  (fRet (fCall (f_fits_counts A) (fConsA (fCall f_branch_counts (fConsA (fVar 0) fNilA)) (fConsA (fVar 1) (fConsA (fVar 2) fNilA)))))
def f_is_lateness (A : Ad) : FN := defF 3 (b_is_lateness A)
abbrev b_can_follow : FS :=
  (fSeq (fFor (fZip (fConsA (fVar 0) (fConsA (fVar 1) fNilA))) (gTp 2 (gC0 (gNm 2) (gC0 (gNm 3) gN0))) (fFor (fZip (fConsA (fVar 2) (fConsA (fVar 3) fNilA))) (gTp 2 (gC0 (gNm 4) (gC0 (gNm 5) gN0))) (fIfS (fB (fOp gGt (fVar 5) (fOp gAdd (fVar 4) (fC (.p (.int 1)))))) (fRet (fC (.p (.bool false)))) fSkip)))
  (fRet (fC (.p (.bool true)))))
def f_can_follow : FN := defF 6 (b_can_follow)
abbrev b_first_wrong (A : Ad) : FS :=
  (fSeq (fFor (fEnum (fConsA (fVar 2) fNilA)) (gTp 2 (gC0 (gNm 3) (gC0 (gNm 4) gN0))) (fSeq (fIfS (fNotT (fTru (fCall (f_fits_counts A) (fConsA (fVar 0) (fConsA (fVar 1) (fConsA (fVar 4) fNilA)))))) (fRet (fVar 3)) fSkip)
  (fIfS (fAndT (fB (fOp gGt (fVar 3) (fC (.p (.int 0))))) (fNotT (fTru (fCall f_can_follow (fConsA (fOp fIx (fVar 2) (fOp gSub (fVar 3) (fC (.p (.int 1))))) (fConsA (fVar 4) fNilA)))))) (fRet (fVar 3)) fSkip)))
  (fRet (fC (.p .none))))
def f_first_wrong (A : Ad) : FN := defF 5 (b_first_wrong A)
abbrev b_run_fault (A : Ad) : FS :=
  (fSeq (fIfS (fOrT (fNotT (fTru (fUn (gIsi .tuple) (fVar 2)))) (fOrT (fB (fOp gNe (fCallB gLen (fConsA (fVar 2) fNilA)) (fC (.p (.int 2))))) (fNotT (fTru (fCall (f_is_past A) (fConsA (fVar 0) (fConsA (fVar 1) (fConsA (fOp fIx (fVar 2) (fC (.p (.int 0)))) fNilA)))))))) (fRet (fC (.p (.int 0)))) fSkip)
  (fSeq (fIfS (fNotT (fTru (fUn (gIsi .tuple) (fOp fIx (fVar 2) (fC (.p (.int 1))))))) (fRet (fC (.p (.int 1)))) fSkip)
  (fSeq (fSet 3 (fCall (f_first_wrong A) (fConsA (fCall f_branch_counts (fConsA (fVar 0) fNilA)) (fConsA (fVar 1) (fConsA (fOp fIx (fVar 2) (fC (.p (.int 1)))) fNilA)))))
  (fRet (fIf (fB (fOp gIsN (fVar 3) (fC (.p .none)))) (fC (.p .none)) (fOp gAdd (fVar 3) (fC (.p (.int 2)))))))))
def f_run_fault (A : Ad) : FN := defF 4 (b_run_fault A)
abbrev b_is_run (A : Ad) : FS :=
  (fRet (fOp gIsN (fCall (f_run_fault A) (fConsA (fVar 0) (fConsA (fVar 1) (fConsA (fVar 2) fNilA)))) (fC (.p .none))))
def f_is_run (A : Ad) : FN := defF 3 (b_is_run A)
abbrev b_law_number : FS :=
  (fRet (fAndV (fUn (gIsi .int) (fVar 0)) (fAndV (fUn gNotV (fUn (gIsi .bool) (fVar 0))) (fChain gLe gLt (fC (.p (.int 0))) (fVar 0) (fVar 1)))))
def f_law_number : FN := defF 2 (b_law_number)
abbrev b_law_is_state : FS :=
  (fSeq (fIfS (fOrT (fNotT (fTru (fUn (gIsi .tuple) (fVar 1)))) (fB (fOp gNe (fCallB gLen (fConsA (fVar 1) fNilA)) (fCallB gLen (fConsA (fOp fIx (fVar 0) (fC (.p (.int 0)))) fNilA))))) (fRet (fC (.p (.bool false)))) fSkip)
  (fRet (fOp gEq (fLc true (fRng1 (fConsA (fCallB gLen (fConsA (fVar 1) fNilA)) fNilA)) (.one 2) [2] (fNotT (fTru (fCall f_law_number (fConsA (fOp fIx (fVar 1) (fVar 2)) (fConsA (fOp gAdd (fOp fIx (fOp fIx (fVar 0) (fC (.p (.int 0)))) (fVar 2)) (fC (.p (.int 1)))) fNilA))))) (fVar 2)) (fLst true fNilA))))
def f_law_is_state : FN := defF 3 (b_law_is_state)
abbrev b_law_is_lateness : FS :=
  (fSeq (fIfS (fOrT (fNotT (fTru (fUn (gIsi .tuple) (fVar 2)))) (fB (fOp gNe (fCallB gLen (fConsA (fVar 2) fNilA)) (fCallB gLen (fConsA (fOp fIx (fVar 0) (fC (.p (.int 1)))) fNilA))))) (fRet (fC (.p (.bool false)))) fSkip)
  (fSeq (fFor (fRng1 (fConsA (fCallB gLen (fConsA (fOp fIx (fVar 0) (fC (.p (.int 1)))) fNilA)) fNilA)) (gNm 3) (fSeq (fSet 4 (fOp fIx (fVar 2) (fVar 3)))
  (fSeq (fIfS (fOrT (fNotT (fTru (fUn (gIsi .tuple) (fVar 4)))) (fB (fOp gNe (fCallB gLen (fConsA (fVar 4) fNilA)) (fCallB gLen (fConsA (fCall (f_law_branches 10) (fConsA (fOp fIx (fOp fIx (fVar 0) (fC (.p (.int 1)))) (fVar 3)) fNilA)) fNilA))))) (fRet (fC (.p (.bool false)))) fSkip)
  (fIfS (fB (fOp gNe (fLc true (fWk (fVar 4)) (.one 5) [5] (fOrT (fNotT (fTru (fCall f_law_number (fConsA (fVar 5) (fConsA (fOp gAdd (fVar 1) (fC (.p (.int 1)))) fNilA))))) (fB (fOp gEq (fVar 5) (fC (.p (.int 0)))))) (fVar 5)) (fLst true fNilA))) (fRet (fC (.p (.bool false)))) fSkip))))
  (fRet (fC (.p (.bool true))))))
def f_law_is_lateness : FN := defF 6 (b_law_is_lateness)
abbrev b_law_follows : FS :=
  (fSeq (fFor (fRng1 (fConsA (fCallB gLen (fConsA (fVar 0) fNilA)) fNilA)) (gNm 2) (fIfS (fB (fOp gNe (fLc true (fRng1 (fConsA (fCallB gLen (fConsA (fOp fIx (fVar 0) (fVar 2)) fNilA)) fNilA)) (.one 3) [3] (fB (fOp gGt (fOp fIx (fOp fIx (fVar 1) (fVar 2)) (fVar 3)) (fOp gAdd (fOp fIx (fOp fIx (fVar 0) (fVar 2)) (fVar 3)) (fC (.p (.int 1)))))) (fVar 3)) (fLst true fNilA))) (fRet (fC (.p (.bool false)))) fSkip))
  (fRet (fC (.p (.bool true)))))
def f_law_follows : FN := defF 4 (b_law_follows)
abbrev b_law_wrong : FS :=
  (fSeq (fIfS (fOrT (fNotT (fTru (fUn (gIsi .tuple) (fVar 2)))) (fOrT (fB (fOp gNe (fCallB gLen (fConsA (fVar 2) fNilA)) (fC (.p (.int 2))))) (fOrT (fNotT (fTru (fUn (gIsi .tuple) (fOp fIx (fVar 2) (fC (.p (.int 0))))))) (fB (fOp gNe (fCallB gLen (fConsA (fOp fIx (fVar 2) (fC (.p (.int 0)))) fNilA)) (fVar 1)))))) (fRet (fC (.p (.int 0)))) fSkip)
  (fSeq (fIfS (fB (fOp gNe (fLc true (fWk (fOp fIx (fVar 2) (fC (.p (.int 0))))) (.one 3) [3] (fNotT (fTru (fCall f_law_is_state (fConsA (fVar 0) (fConsA (fVar 3) fNilA))))) (fVar 3)) (fLst true fNilA))) (fRet (fC (.p (.int 0)))) fSkip)
  (fSeq (fIfS (fNotT (fTru (fUn (gIsi .tuple) (fOp fIx (fVar 2) (fC (.p (.int 1))))))) (fRet (fC (.p (.int 1)))) fSkip)
  (fSeq (fFor (fRng1 (fConsA (fCallB gLen (fConsA (fOp fIx (fVar 2) (fC (.p (.int 1)))) fNilA)) fNilA)) (gNm 4) (fIfS (fOrT (fNotT (fTru (fCall f_law_is_lateness (fConsA (fVar 0) (fConsA (fVar 1) (fConsA (fOp fIx (fOp fIx (fVar 2) (fC (.p (.int 1)))) (fVar 4)) fNilA)))))) (fAndT (fB (fOp gGt (fVar 4) (fC (.p (.int 0))))) (fNotT (fTru (fCall f_law_follows (fConsA (fOp fIx (fOp fIx (fVar 2) (fC (.p (.int 1)))) (fOp gSub (fVar 4) (fC (.p (.int 1))))) (fConsA (fOp fIx (fOp fIx (fVar 2) (fC (.p (.int 1)))) (fVar 4)) fNilA))))))) (fRet (fOp gAdd (fVar 4) (fC (.p (.int 2))))) fSkip))
  (fRet (fC (.p .none)))))))
def f_law_wrong : FN := defF 5 (b_law_wrong)
abbrev b_law_state : FS :=
  (fRet (fCallB gTuple (fConsA (fLc true (fWk (fOp fIx (fVar 1) (fC (.p (.int 0))))) (.one 2) [2] fYes (fCall f_law_of (fConsA (fVar 0) (fConsA (fLst true (fConsA (fC (.p (.int 0))) (fConsA (fVar 2) (fConsA (fCall f_law_any (fConsA (fVar 0) (fConsA (fOp gAdd (fVar 2) (fC (.p (.int 1)))) fNilA))) (fConsA (fCall f_law_any (fConsA (fVar 0) (fConsA (fOp gAdd (fVar 2) (fC (.p (.int 1)))) fNilA))) fNilA))))) fNilA)))) fNilA)))
def f_law_state : FN := defF 3 (b_law_state)
abbrev b_law_lateness : FS :=
  (fSeq (fSet 4 (fLst false fNilA))
  (fSeq (fFor (fRng1 (fConsA (fCallB gLen (fConsA (fOp fIx (fVar 1) (fC (.p (.int 1)))) fNilA)) fNilA)) (gNm 5) (fSeq (fSet 6 (fLst false fNilA))
  (fSeq (fFor (fRng1 (fConsA (fCallB gLen (fConsA (fCall (f_law_branches 10) (fConsA (fOp fIx (fOp fIx (fVar 1) (fC (.p (.int 1)))) (fVar 5)) fNilA)) fNilA)) fNilA)) (gNm 7) (fDrop (fMt gAppend (fVar 6) (fConsA (fOp gAdd (fC (.p (.int 1))) (fCall f_law_any (fConsA (fVar 0) (fConsA (fIf (fB (fOp gIsN (fVar 3) (fC (.p .none)))) (fVar 2) (fCallB gMin (fConsA (fVar 2) (fConsA (fOp gAdd (fOp fIx (fOp fIx (fVar 3) (fVar 5)) (fVar 7)) (fC (.p (.int 1)))) fNilA)))) fNilA)))) fNilA))))
  (fDrop (fMt gAppend (fVar 4) (fConsA (fCallB gTuple (fConsA (fVar 6) fNilA)) fNilA))))))
  (fRet (fCallB gTuple (fConsA (fVar 4) fNilA)))))
def f_law_lateness : FN := defF 8 (b_law_lateness)
abbrev b_law_run : FS :=
  (fSeq (fPar 5 6 (fConsA (fCallB gTuple (fConsA (fLc true (fRng1 (fConsA (fVar 2) fNilA)) (.one 4) [4] fYes (fCall f_law_state (fConsA (fVar 0) (fConsA (fVar 1) fNilA)))) fNilA)) (fConsA (fLst false fNilA) fNilA)))
  (fSeq (fFor (fRng1 (fConsA (fVar 3) fNilA)) (gNm 4) (fDrop (fMt gAppend (fVar 6) (fConsA (fCall f_law_lateness (fConsA (fVar 0) (fConsA (fVar 1) (fConsA (fVar 2) (fConsA (fIf (fB (fOp gNe (fVar 6) (fLst true fNilA))) (fOp fIx (fVar 6) (fUn gNeg (fC (.p (.int 1))))) (fC (.p .none))) fNilA))))) fNilA))))
  (fRet (fTup (fConsA (fVar 5) (fConsA (fCallB gTuple (fConsA (fVar 6) fNilA)) fNilA))))))
def f_law_run : FN := defF 7 (b_law_run)
abbrev b_law_odd : FS :=
  (fSeq (fSet 2 (fLst true (fConsA (fC (.p .none)) (fConsA (fTup fNilA) (fConsA (fLst true fNilA) (fConsA (fC (.p (.int 0))) (fConsA (fC (.p (.bool true))) (fConsA (fUn gNeg (fC (.p (.int 1)))) (fConsA (fC (.p (.int 1))) (fConsA (fC (.p (.str "1"))) (fConsA (fTup (fConsA (fVar 1) fNilA)) (fConsA (fC (.p (.int 10))) fNilA))))))))))))
  (fSeq (fIfS (fTru (fUn (gIsi .tuple) (fVar 1))) (fSet 2 (fOp gAdd (fVar 2) (fOp gMul (fLst true (fConsA (fCallB (gList true) (fConsA (fVar 1) fNilA)) (fConsA (fOp gAdd (fVar 1) (fSl true (fVar 1) fNoO (fSomeO (fC (.p (.int 1)))))) (fConsA (fSl true (fVar 1) (fSomeO (fC (.p (.int 1)))) fNoO) (fConsA (fRev true (fVar 1)) (fConsA (fOp gAdd (fVar 1) (fTup (fConsA (fC (.p .none)) fNilA))) (fConsA (fOp gAdd (fVar 1) (fTup (fConsA (fC (.p (.int 1))) fNilA))) fNilA))))))) (fC (.p (.int 2)))))) fSkip)
  (fSeq (fIfS (fTru (fCall f_law_number (fConsA (fVar 1) (fConsA (fOp gPow (fC (.p (.int 10))) (fC (.p (.int 40)))) fNilA)))) (fSet 2 (fOp gAdd (fVar 2) (fLst true (fConsA (fOp gAdd (fVar 1) (fC (.p (.int 1)))) (fConsA (fOp gSub (fVar 1) (fC (.p (.int 1)))) (fConsA (fOp gAdd (fVar 1) (fC (.p (.int 1)))) fNilA)))))) fSkip)
  (fRet (fCall f_law_of (fConsA (fVar 0) (fConsA (fVar 2) fNilA)))))))
def f_law_odd : FN := defF 3 (b_law_odd)
abbrev b_law_near : FS :=
  (fSeq (fPar 2 3 (fConsA (fLst false fNilA) (fConsA (fVar 1) fNilA)))
  (fSeq (fFor (fRng1 (fConsA (fC (.p (.int 4))) fNilA)) (gNm 4) (fIfS (fAndT (fTru (fUn (gIsi .tuple) (fVar 3))) (fAndT (fB (fOp gNe (fVar 3) (fTup fNilA))) (fB (fOp gGt (fCall f_law_any (fConsA (fVar 0) (fConsA (fC (.p (.int 4))) fNilA))) (fC (.p (.int 0))))))) (fSeq (fDrop (fMt gAppend (fVar 2) (fConsA (fTup (fConsA (fVar 3) (fConsA (fCall f_law_any (fConsA (fVar 0) (fConsA (fCallB gLen (fConsA (fVar 3) fNilA)) fNilA))) fNilA))) fNilA)))
  (fSet 3 (fOp fIx (fVar 3) (fOp fIx (fOp fIx (fVar 2) (fUn gNeg (fC (.p (.int 1))))) (fC (.p (.int 1))))))) fSkip))
  (fSeq (fSet 5 (fCall f_law_odd (fConsA (fVar 0) (fConsA (fVar 3) fNilA))))
  (fSeq (fFor (fWk (fRev true (fVar 2))) (gTp 2 (gC0 (gNm 6) (gC0 (gNm 7) gN0))) (fSet 5 (fOp gAdd (fOp gAdd (fSl true (fVar 6) fNoO (fSomeO (fVar 7))) (fTup (fConsA (fVar 5) fNilA))) (fSl true (fVar 6) (fSomeO (fOp gAdd (fVar 7) (fC (.p (.int 1))))) fNoO))))
  (fRet (fVar 5))))))
def f_law_near : FN := defF 8 (b_law_near)
abbrev b_law_is_past : FS :=
  (fRet (fAndV (fUn (gIsi .tuple) (fVar 2)) (fAndV (fOp gEq (fCallB gLen (fConsA (fVar 2) fNilA)) (fVar 1)) (fOp gEq (fLc true (fWk (fVar 2)) (.one 3) [3] (fNotT (fTru (fCall f_law_is_state (fConsA (fVar 0) (fConsA (fVar 3) fNilA))))) (fVar 3)) (fLst true fNilA)))))
def f_law_is_past : FN := defF 4 (b_law_is_past)
abbrev b_houses_heard : FS :=
  (fRet (fLc true (fWk (fOp fIx (fVar 0) (fC (.p (.int 1))))) (.one 1) [1] fYes (fCall (f_branches 10) (fConsA (fVar 1) fNilA))))
def f_houses_heard : FN := defF 2 (b_houses_heard)
abbrev b_wanted_late (A : Ad) : FS :=
  (fRet (fCall (f_wanted A) (fConsA (fVar 0) (fConsA (fVar 1) (fConsA (fCallB gTuple (fConsA (fLc true (fZip (fConsA (fVar 2) (fConsA (fVar 4) fNilA))) (.many [5, 6]) [5, 6] fYes (fOp fIx (fOp fIx (fVar 3) (fUn gNeg (fVar 6))) (fVar 5))) fNilA)) fNilA)))))
def f_wanted_late (A : Ad) : FN := defF 7 (b_wanted_late A)
abbrev b_shown_behind (A : Ad) : FS :=
  (fRet (fCallB gTuple (fConsA (fLc true (fEnum (fConsA (fVar 1) fNilA)) (.many [4, 5]) [4, 5] fYes (fCall (f_wanted_late A) (fConsA (fVar 0) (fConsA (fVar 4) (fConsA (fVar 5) (fConsA (fVar 2) (fConsA (fOp fIx (fVar 3) (fVar 4)) fNilA))))))) fNilA)))
def f_shown_behind (A : Ad) : FN := defF 6 (b_shown_behind A)
abbrev b_shows_next (A : Ad) : FS :=
  (fRet (fCall (f_shown_behind A) (fConsA (fVar 0) (fConsA (fCall f_houses_heard (fConsA (fVar 0) fNilA)) (fConsA (fVar 1) (fConsA (fVar 2) fNilA))))))
def f_shows_next (A : Ad) : FN := defF 3 (b_shows_next A)
abbrev b_shown_at_beats (A : Ad) : FS :=
  (fSeq (fSet 3 (fCall f_houses_heard (fConsA (fVar 0) fNilA)))
  (fSeq (fSet 4 (fCallB (gList false) (fConsA (fVar 1) fNilA)))
  (fSeq (fFor (fWk (fVar 2)) (gNm 5) (fDrop (fMt gAppend (fVar 4) (fConsA (fCall (f_shown_behind A) (fConsA (fVar 0) (fConsA (fVar 3) (fConsA (fVar 4) (fConsA (fVar 5) fNilA))))) fNilA))))
  (fRet (fCallB gTuple (fConsA (fSl true (fVar 4) (fSomeO (fCallB gLen (fConsA (fVar 1) fNilA))) fNoO) fNilA))))))
def f_shown_at_beats (A : Ad) : FN := defF 6 (b_shown_at_beats A)
abbrev b_shown (A : Ad) : FS :=
  (fSeq (fSet 3 (fCall (f_run_fault A) (fConsA (fVar 0) (fConsA (fVar 1) (fConsA (fVar 2) fNilA)))))
  (fSeq (fIfS (fB (fOp gIsnN (fVar 3) (fC (.p .none)))) (fRaise A.e_InvalidRun (fVar 3)) fSkip)
  (fSeq (fAsg (fVar 2) (gTp 2 (gC0 (gNm 4) (gC0 (gNm 5) gN0))))
  (fRet (fCall (f_shown_at_beats A) (fConsA (fVar 0) (fConsA (fVar 4) (fConsA (fVar 5) fNilA))))))))
def f_shown (A : Ad) : FN := defF 6 (b_shown A)
abbrev b_past_behind (A : Ad) : FS :=
  (fSeq (fSet 3 (fOp gAdd (fOp fIx (fVar 2) (fC (.p (.int 0)))) (fCall (f_shown A) (fConsA (fVar 0) (fConsA (fVar 1) (fConsA (fVar 2) fNilA))))))
  (fRet (fSl true (fVar 3) (fSomeO (fUn gNeg (fVar 1))) fNoO)))
def f_past_behind (A : Ad) : FN := defF 4 (b_past_behind A)
abbrev b_led_on (A : Ad) : FS :=
  (fSeq (fIfS (fNotT (fTru (fUn (gIsi .tuple) (fVar 3)))) (fRaise A.e_InvalidRun (fC (.p (.int 1)))) fSkip)
  (fSeq (fSet 4 (fTup (fConsA (fOp fIx (fVar 2) (fC (.p (.int 0)))) (fConsA (fOp gAdd (fOp fIx (fVar 2) (fC (.p (.int 1)))) (fVar 3)) fNilA))))
  (fSeq (fSet 5 (fCall (f_run_fault A) (fConsA (fVar 0) (fConsA (fVar 1) (fConsA (fVar 4) fNilA)))))
  (fSeq (fIfS (fB (fOp gIsnN (fVar 5) (fC (.p .none)))) (fRaise A.e_InvalidRun (fVar 5)) fSkip)
  (fRet (fVar 4))))))
def f_led_on (A : Ad) : FN := defF 6 (b_led_on A)
abbrev b_law_shown : FS :=
  (fSeq (fSet 2 (fCallB (gList false) (fConsA (fOp fIx (fVar 1) (fC (.p (.int 0)))) fNilA)))
  (fSeq (fFor (fWk (fOp fIx (fVar 1) (fC (.p (.int 1))))) (gNm 3) (fSeq (fSet 4 (fLst false fNilA))
  (fSeq (fFor (fRng1 (fConsA (fCallB gLen (fConsA (fOp fIx (fVar 0) (fC (.p (.int 1)))) fNilA)) fNilA)) (gNm 5) (fSeq (fSet 6 (fCall (f_law_branches 10) (fConsA (fOp fIx (fOp fIx (fVar 0) (fC (.p (.int 1)))) (fVar 5)) fNilA)))
  (fDrop (fMt gAppend (fVar 4) (fConsA (fCall f_law_wants (fConsA (fVar 0) (fConsA (fVar 5) (fConsA (fLc true (fRng1 (fConsA (fCallB gLen (fConsA (fVar 6) fNilA)) fNilA)) (.one 7) [7] fYes (fOp fIx (fOp fIx (fVar 2) (fOp gSub (fCallB gLen (fConsA (fVar 2) fNilA)) (fOp fIx (fOp fIx (fVar 3) (fVar 5)) (fVar 7)))) (fOp fIx (fVar 6) (fVar 7)))) fNilA)))) fNilA)))))
  (fDrop (fMt gAppend (fVar 2) (fConsA (fCallB gTuple (fConsA (fVar 4) fNilA)) fNilA))))))
  (fRet (fVar 2))))
def f_law_shown : FN := defF 8 (b_law_shown)
abbrev b_law_asked (A : Ad) : FS :=
  (fTry A.e_InvalidRun [] 1 (fRet (fCallL 0 (tbl A) fNilA)) (fun a_ dd_ => (fRet (fLst true (fConsA (fUn (gAt a_ dd_) (fVar 1)) fNilA)))))
def f_law_asked (A : Ad) : FN := defF 2 (b_law_asked A)
abbrev b_law_spoilt : FS :=
  (fSeq (fAsg (fVar 3) (gTp 2 (gC0 (gNm 4) (gC0 (gNm 5) gN0))))
  (fSeq (fSet 6 (fCall f_law_any (fConsA (fVar 0) (fConsA (fOp gAdd (fCallB gLen (fConsA (fVar 5) fNilA)) (fC (.p (.int 1)))) fNilA))))
  (fSeq (fSet 7 (fCall f_law_of (fConsA (fVar 0) (fConsA (fLst true (fConsA (fC (.p .none)) (fConsA (fTup fNilA) (fConsA (fOp gMul (fTup (fConsA (fTup (fConsA (fOp gAdd (fVar 2) (fC (.p (.int 1)))) fNilA)) fNilA)) (fCallB gLen (fConsA (fOp fIx (fVar 1) (fC (.p (.int 1)))) fNilA))) (fConsA (fOp gMul (fTup (fConsA (fTup (fConsA (fC (.p (.int 0))) fNilA)) fNilA)) (fCallB gLen (fConsA (fOp fIx (fVar 1) (fC (.p (.int 1)))) fNilA))) (fConsA (fC (.p (.int 7))) fNilA)))))) fNilA))))
  (fSeq (fSet 8 (fLst true (fConsA (fTup (fConsA (fVar 4) (fConsA (fOp gAdd (fOp gAdd (fSl true (fVar 5) fNoO (fSomeO (fVar 6))) (fTup (fConsA (fVar 7) fNilA))) (fSl true (fVar 5) (fSomeO (fVar 6)) fNoO)) fNilA))) (fConsA (fTup (fConsA (fSl true (fVar 4) (fSomeO (fC (.p (.int 1)))) fNoO) (fConsA (fVar 5) fNilA))) (fConsA (fTup (fConsA (fVar 4) (fConsA (fCallB (gList true) (fConsA (fVar 5) fNilA)) fNilA))) (fConsA (fTup (fConsA (fVar 4) fNilA)) (fConsA (fC (.p .none)) (fConsA (fLst true (fConsA (fVar 4) (fConsA (fVar 5) fNilA))) fNilA))))))))
  (fSeq (fSet 10 (fLc true (fWk (fOp fIx (fVar 1) (fC (.p (.int 1))))) (.one 9) [9] fYes (fCallB gTuple (fConsA (fOp gMul (fLst true (fConsA (fVar 2) fNilA)) (fCallB gLen (fConsA (fCall (f_law_branches 10) (fConsA (fVar 9) fNilA)) fNilA))) fNilA))))
  (fRet (fCall f_law_of (fConsA (fVar 0) (fConsA (fOp gAdd (fVar 8) (fLst true (fConsA (fTup (fConsA (fVar 4) (fConsA (fOp gAdd (fVar 5) (fTup (fConsA (fCallB gTuple (fConsA (fLc true (fWk (fVar 10)) (.one 11) [11] fYes (fOp gMul (fTup (fConsA (fC (.p (.int 1))) fNilA)) (fCallB gLen (fConsA (fVar 11) fNilA)))) fNilA)) (fConsA (fCallB gTuple (fConsA (fVar 10) fNilA)) fNilA)))) fNilA))) (fConsA (fTup (fConsA (fVar 5) (fConsA (fVar 4) fNilA))) fNilA)))) fNilA)))))))))
def f_law_spoilt : FN := defF 12 (b_law_spoilt)
abbrev b_even_run : FS :=
  (fSeq (fSet 5 (fCallB gTuple (fConsA (fLc true (fWk (fOp fIx (fVar 0) (fC (.p (.int 1))))) (.one 4) [4] fYes (fOp gMul (fTup (fConsA (fC (.p (.int 1))) fNilA)) (fCallB gLen (fConsA (fCall (f_branches 10) (fConsA (fVar 4) fNilA)) fNilA)))) fNilA)))
  (fRet (fTup (fConsA (fOp gMul (fTup (fConsA (fVar 2) fNilA)) (fVar 1)) (fConsA (fOp gMul (fTup (fConsA (fVar 5) fNilA)) (fVar 3)) fNilA)))))
def f_even_run : FN := defF 6 (b_even_run)
abbrev b_law_states : FS :=
  (fSeq (fSet 1 (fLst true (fConsA (fTup fNilA) fNilA)))
  (fSeq (fFor (fWk (fOp fIx (fVar 0) (fC (.p (.int 0))))) (gNm 2) (fSeq (fSet 3 (fLst true fNilA))
  (fSeq (fFor (fWk (fVar 1)) (gNm 4) (fSet 3 (fOp gAdd (fVar 3) (fLc true (fRng1 (fConsA (fOp gAdd (fVar 2) (fC (.p (.int 1)))) fNilA)) (.one 5) [5] fYes (fOp gAdd (fVar 4) (fTup (fConsA (fVar 5) fNilA)))))))
  (fSet 1 (fVar 3)))))
  (fRet (fVar 1))))
def f_law_states : FN := defF 6 (b_law_states)
abbrev b_row_entries : FS :=
  (fSeq (fAsg (fVar 1) (gTp 2 (gC0 (gNm 2) (gC0 (gNm 3) gN0))))
  (fSeq (fSet 4 (fOp gSub (fCallB gLen (fConsA (fOp fIx (fVar 0) (fC (.p (.int 1)))) fNilA)) (fC (.p (.int 1)))))
  (fRet (fSl true (fOp fIx (fVar 0) (fC (.p (.int 1)))) (fSomeO (fCallB gMin (fConsA (fVar 2) (fConsA (fVar 4) fNilA)))) (fSomeO (fOp gAdd (fCallB gMin (fConsA (fVar 3) (fConsA (fVar 4) fNilA))) (fC (.p (.int 1)))))))))
def f_row_entries : FN := defF 5 (b_row_entries)
abbrev b_leaf_range : FS :=
  (fSeq (fAsg (fVar 1) (gTp 2 (gC0 (gNm 2) (gC0 (gNm 3) gN0))))
  (fRet (fIf (fB (fOp gEq (fVar 2) (fC (.p (.str "is"))))) (fTup (fConsA (fVar 3) (fConsA (fVar 3) fNilA))) (fTup (fConsA (fC (.p (.int 0))) (fConsA (fOp fIx (fOp fIx (fVar 0) (fC (.p (.int 0)))) (fVar 3)) fNilA))))))
def f_leaf_range : FN := defF 4 (b_leaf_range)
abbrev b_range_over (A : Ad) : FS :=
  (fSeq (fIfS (fB (fOp gEq (fOp fIx (fVar 0) (fC (.p (.int 0)))) (fC (.p (.str "row"))))) (fSeq (fSet 2 (fCall f_row_entries (fConsA (fVar 0) (fConsA (fOp fIx (fVar 1) (fC (.p (.int 0)))) fNilA))))
  (fRet (fTup (fConsA (fCallB gMin (fConsA (fVar 2) fNilA)) (fConsA (fCallB gMax (fConsA (fVar 2) fNilA)) fNilA))))) fSkip)
  (fSeq (fAsg (fCallB (gSorted true) (fConsA (fLst true (fConsA (fCall (f_told_of A) (fConsA (fVar 0) (fConsA (fLc true (fWk (fVar 1)) (.one 3) [3] fYes (fOp fIx (fVar 3) (fC (.p (.int 0))))) fNilA))) (fConsA (fCall (f_told_of A) (fConsA (fVar 0) (fConsA (fLc true (fWk (fVar 1)) (.one 3) [3] fYes (fOp fIx (fVar 3) (fC (.p (.int 1))))) fNilA))) fNilA))) fNilA)) (gTp 2 (gC0 (gNm 4) (gC0 (gNm 5) gN0))))
  (fRet (fTup (fConsA (fVar 4) (fConsA (fVar 5) fNilA))))))
def f_range_over (A : Ad) : FN := defF 6 (b_range_over A)
abbrev b_cut_range : FS :=
  (fRet (fTup (fConsA (fCallB gMin (fConsA (fOp fIx (fVar 0) (fC (.p (.int 0)))) (fConsA (fVar 1) fNilA))) (fConsA (fCallB gMin (fConsA (fOp fIx (fVar 0) (fC (.p (.int 1)))) (fConsA (fVar 1) fNilA))) fNilA))))
def f_cut_range : FN := defF 2 (b_cut_range)
abbrev b_range_of (A : Ad) (self : FN) : FS :=
  (fSeq (fSet 2 (fCall f_inner_rules (fConsA (fVar 1) fNilA)))
  (fSeq (fIfS (fNotT (fTru (fVar 2))) (fRet (fCall f_leaf_range (fConsA (fVar 0) (fConsA (fVar 1) fNilA)))) fSkip)
  (fRet (fCall (f_range_over A) (fConsA (fVar 1) (fConsA (fLc true (fWk (fVar 2)) (.one 3) [3] fYes (fCall self (fConsA (fVar 0) (fConsA (fVar 3) fNilA)))) fNilA))))))
def f_range_of (A : Ad) : Nat → FN
  | 0 => fun _ _ => .bad
  | n + 1 => defF 4 (b_range_of A (f_range_of A n))
abbrev b_house_range (A : Ad) : FS :=
  (fRet (fCall f_cut_range (fConsA (fCall (f_range_of A 10) (fConsA (fVar 0) (fConsA (fOp fIx (fOp fIx (fVar 0) (fC (.p (.int 1)))) (fVar 1)) fNilA))) (fConsA (fOp fIx (fOp fIx (fVar 0) (fC (.p (.int 0)))) (fVar 1)) fNilA))))
def f_house_range (A : Ad) : FN := defF 2 (b_house_range A)
abbrev b_law_entries : FS :=
  (fRet (fLc true (fRng1 (fConsA (fCallB gLen (fConsA (fVar 0) fNilA)) fNilA)) (.one 3) [3] (fOrT (fB (fChain gLe gLe (fVar 1) (fVar 3) (fVar 2))) (fAndT (fB (fOp gEq (fVar 3) (fOp gSub (fCallB gLen (fConsA (fVar 0) fNilA)) (fC (.p (.int 1)))))) (fB (fOp gGt (fVar 1) (fVar 3))))) (fOp fIx (fVar 0) (fVar 3))))
def f_law_entries : FN := defF 4 (b_law_entries)
abbrev b_law_range (self : FN) : FS :=
  (fSeq (fIfS (fB (fOp gEq (fOp fIx (fVar 1) (fC (.p (.int 0)))) (fC (.p (.str "is"))))) (fRet (fTup (fConsA (fOp fIx (fVar 1) (fC (.p (.int 1)))) (fConsA (fOp fIx (fVar 1) (fC (.p (.int 1)))) fNilA)))) fSkip)
  (fSeq (fIfS (fB (fOp gEq (fOp fIx (fVar 1) (fC (.p (.int 0)))) (fC (.p (.str "hear"))))) (fRet (fTup (fConsA (fC (.p (.int 0))) (fConsA (fOp fIx (fOp fIx (fVar 0) (fC (.p (.int 0)))) (fOp fIx (fVar 1) (fC (.p (.int 1))))) fNilA)))) fSkip)
  (fSeq (fSet 3 (fLc true (fWk (fCall f_law_parts (fConsA (fVar 1) fNilA))) (.one 2) [2] fYes (fCall self (fConsA (fVar 0) (fConsA (fVar 2) fNilA)))))
  (fSeq (fIfS (fB (fOp gEq (fOp fIx (fVar 1) (fC (.p (.int 0)))) (fC (.p (.str "row"))))) (fSet 4 (fCall f_law_entries (fConsA (fOp fIx (fVar 1) (fC (.p (.int 1)))) (fConsA (fOp fIx (fOp fIx (fVar 3) (fC (.p (.int 0)))) (fC (.p (.int 0)))) (fConsA (fOp fIx (fOp fIx (fVar 3) (fC (.p (.int 0)))) (fC (.p (.int 1)))) fNilA))))) (fSet 4 (fLc true (fWk (fLst true (fConsA (fC (.p (.int 0))) (fConsA (fC (.p (.int 1))) fNilA)))) (.one 6) [6] fYes (fCall f_law_made (fConsA (fVar 1) (fConsA (fLc true (fWk (fVar 3)) (.one 5) [5] fYes (fOp fIx (fVar 5) (fVar 6))) fNilA))))))
  (fRet (fTup (fConsA (fCallB gMin (fConsA (fVar 4) fNilA)) (fConsA (fCallB gMax (fConsA (fVar 4) fNilA)) fNilA))))))))
def f_law_range : Nat → FN
  | 0 => fun _ _ => .bad
  | n + 1 => defF 7 (b_law_range (f_law_range n))
abbrev b_law_rows : FS :=
  (fSeq (fSet 2 (fLst true (fConsA (fTup fNilA) fNilA)))
  (fSeq (fFor (fWk (fCall (f_law_branches 10) (fConsA (fOp fIx (fOp fIx (fVar 0) (fC (.p (.int 1)))) (fVar 1)) fNilA))) (gNm 3) (fSeq (fSet 4 (fLst true fNilA))
  (fSeq (fFor (fWk (fVar 2)) (gNm 5) (fSet 4 (fOp gAdd (fVar 4) (fLc true (fRng1 (fConsA (fOp gAdd (fOp fIx (fOp fIx (fVar 0) (fC (.p (.int 0)))) (fVar 3)) (fC (.p (.int 1)))) fNilA)) (.one 6) [6] fYes (fOp gAdd (fVar 5) (fTup (fConsA (fVar 6) fNilA)))))))
  (fSet 2 (fVar 4)))))
  (fRet (fVar 2))))
def f_law_rows : FN := defF 7 (b_law_rows)
abbrev b_law_many_rows : FS :=
  (fSeq (fSet 2 (fC (.p (.int 1))))
  (fSeq (fFor (fWk (fCall (f_law_branches 10) (fConsA (fOp fIx (fOp fIx (fVar 0) (fC (.p (.int 1)))) (fVar 1)) fNilA))) (gNm 3) (fSet 2 (fOp gMul (fVar 2) (fOp gAdd (fOp fIx (fOp fIx (fVar 0) (fC (.p (.int 0)))) (fVar 3)) (fC (.p (.int 1)))))))
  (fRet (fVar 2))))
def f_law_many_rows : FN := defF 4 (b_law_many_rows)
abbrev b_law_all (self : FN) : FS :=
  (fSeq (fSet 1 (fLst true (fConsA (fVar 0) fNilA)))
  (fSeq (fFor (fWk (fCall f_law_parts (fConsA (fVar 0) fNilA))) (gNm 2) (fSet 1 (fOp gAdd (fVar 1) (fCall self (fConsA (fVar 2) fNilA)))))
  (fRet (fVar 1))))
def f_law_all : Nat → FN
  | 0 => fun _ _ => .bad
  | n + 1 => defF 3 (b_law_all (f_law_all n))
abbrev b_law_right (A : Ad) : FS :=
  (fSeq (fFor (fWk (fCall (f_law_all 10) (fConsA (fOp fIx (fOp fIx (fVar 0) (fC (.p (.int 1)))) (fVar 1)) fNilA))) (gNm 2) (fSeq (fSet 3 (fCall (f_law_range 10) (fConsA (fVar 0) (fConsA (fVar 2) fNilA))))
  (fIfS (fOrT (fB (fOp gNe (fCallB gRepr (fConsA (fCall (f_range_of A 10) (fConsA (fVar 0) (fConsA (fVar 2) fNilA))) fNilA)) (fCallB gRepr (fConsA (fVar 3) fNilA)))) (fB (fOp gNe (fCallB gRepr (fConsA (fCallK [1, 0] (f_range_of A 10) (fConsA (fVar 2) (fConsA (fVar 0) fNilA))) fNilA)) (fCallB gRepr (fConsA (fVar 3) fNilA))))) (fRet (fC (.p (.bool false)))) fSkip)))
  (fSeq (fAsg (fCall (f_law_range 10) (fConsA (fVar 0) (fConsA (fOp fIx (fOp fIx (fVar 0) (fC (.p (.int 1)))) (fVar 1)) fNilA))) (gTp 2 (gC0 (gNm 4) (gC0 (gNm 5) gN0))))
  (fSeq (fSet 6 (fOp fIx (fOp fIx (fVar 0) (fC (.p (.int 0)))) (fVar 1)))
  (fSeq (fIfS (fOrT (fB (fOp gNe (fCallB gRepr (fConsA (fCall (f_house_range A) (fConsA (fVar 0) (fConsA (fVar 1) fNilA))) fNilA)) (fCallB gRepr (fConsA (fTup (fConsA (fCallB gMin (fConsA (fVar 4) (fConsA (fVar 6) fNilA))) (fConsA (fCallB gMin (fConsA (fVar 5) (fConsA (fVar 6) fNilA))) fNilA))) fNilA)))) (fB (fOp gNe (fCallK [1, 0] (f_house_range A) (fConsA (fVar 1) (fConsA (fVar 0) fNilA))) (fCall (f_house_range A) (fConsA (fVar 0) (fConsA (fVar 1) fNilA)))))) (fRet (fC (.p (.bool false)))) fSkip)
  (fSeq (fIfS (fB (fOp gGt (fCall f_law_many_rows (fConsA (fVar 0) (fConsA (fVar 1) fNilA))) (fC (.p (.int 300))))) (fRet (fC (.p (.bool true)))) fSkip)
  (fSeq (fSet 8 (fLc true (fWk (fCall f_law_rows (fConsA (fVar 0) (fConsA (fVar 1) fNilA)))) (.one 7) [7] fYes (fCall (f_law_told 10) (fConsA (fOp fIx (fOp fIx (fVar 0) (fC (.p (.int 1)))) (fVar 1)) (fConsA (fCallB (gList true) (fConsA (fVar 7) fNilA)) fNilA)))))
  (fSeq (fIfS (fOrT (fB (fOp gLt (fCallB gMin (fConsA (fVar 8) fNilA)) (fVar 4))) (fB (fOp gGt (fCallB gMax (fConsA (fVar 8) fNilA)) (fVar 5)))) (fRet (fC (.p (.bool false)))) fSkip)
  (fSeq (fSet 9 (fOp gEq (fLc true (fWk (fCall (f_law_all 10) (fConsA (fOp fIx (fOp fIx (fVar 0) (fC (.p (.int 1)))) (fVar 1)) fNilA))) (.one 2) [2] (fB (fOp gEq (fOp fIx (fVar 2) (fC (.p (.int 0)))) (fC (.p (.str "row"))))) (fVar 2)) (fLst true fNilA)))
  (fRet (fOrV (fUn gNotV (fVar 9)) (fAndV (fOp gEq (fCallB gMin (fConsA (fVar 8) fNilA)) (fVar 4)) (fOp gEq (fCallB gMax (fConsA (fVar 8) fNilA)) (fVar 5)))))))))))))
def f_law_right (A : Ad) : FN := defF 10 (b_law_right A)
abbrev b_way_behind : FS :=
  (fSeq (fIfS (fB (fOp gEq (fVar 1) (fC (.p (.str "none"))))) (fRet (fVar 1)) fSkip)
  (fSeq (fIfS (fB (fOp (gIn false) (fC (.p (.str "both"))) (fTup (fConsA (fVar 0) (fConsA (fVar 1) fNilA))))) (fRet (fC (.p (.str "both")))) fSkip)
  (fRet (fIf (fB (fOp gEq (fVar 0) (fVar 1))) (fC (.p (.str "rises"))) (fC (.p (.str "falls")))))))
def f_way_behind : FN := defF 2 (b_way_behind)
abbrev b_none_if_still : FS :=
  (fRet (fIf (fB (fOp gEq (fOp fIx (fVar 1) (fC (.p (.int 0)))) (fOp fIx (fVar 1) (fC (.p (.int 1)))))) (fOp gMul (fLst true (fConsA (fC (.p (.str "none"))) fNilA)) (fCallB gLen (fConsA (fVar 0) fNilA))) (fVar 0)))
def f_none_if_still : FN := defF 2 (b_none_if_still)
abbrev b_law_turn : FS :=
  (fSeq (fIfS (fOrT (fB (fOp gEq (fOp fIx (fVar 1) (fC (.p (.int 0)))) (fC (.p (.str "from"))))) (fAndT (fB (fOp gEq (fOp fIx (fVar 1) (fC (.p (.int 0)))) (fC (.p (.str "bar"))))) (fB (fOp gGt (fOp fIx (fVar 1) (fC (.p (.int 2)))) (fOp fIx (fVar 1) (fC (.p (.int 3)))))))) (fRet (fUn gNeg (fC (.p (.int 1))))) fSkip)
  (fSeq (fIfS (fB (fOp gNe (fOp fIx (fVar 1) (fC (.p (.int 0)))) (fC (.p (.str "row"))))) (fRet (fC (.p (.int 1)))) fSkip)
  (fSeq (fAsg (fCall (f_law_range 10) (fConsA (fVar 0) (fConsA (fOp fIx (fVar 1) (fC (.p (.int 2)))) fNilA))) (gTp 2 (gC0 (gNm 2) (gC0 (gNm 3) gN0))))
  (fSeq (fSet 4 (fCall f_law_entries (fConsA (fOp fIx (fVar 1) (fC (.p (.int 1)))) (fConsA (fVar 2) (fConsA (fVar 3) fNilA)))))
  (fSeq (fSet 6 (fLc true (fRng2 (fConsA (fC (.p (.int 1))) (fConsA (fCallB gLen (fConsA (fVar 4) fNilA)) fNilA))) (.one 5) [5] fYes (fOp gSub (fOp fIx (fVar 4) (fVar 5)) (fOp fIx (fVar 4) (fOp gSub (fVar 5) (fC (.p (.int 1))))))))
  (fSeq (fPar 8 9 (fConsA (fOp gNe (fLc true (fWk (fVar 6)) (.one 7) [7] (fB (fOp gGt (fVar 7) (fC (.p (.int 0))))) (fVar 7)) (fLst true fNilA)) (fConsA (fOp gNe (fLc true (fWk (fVar 6)) (.one 7) [7] (fB (fOp gLt (fVar 7) (fC (.p (.int 0))))) (fVar 7)) (fLst true fNilA)) fNilA)))
  (fRet (fIf (fAndT (fTru (fVar 8)) (fTru (fVar 9))) (fC (.p (.int 0))) (fIf (fTru (fVar 9)) (fUn gNeg (fC (.p (.int 1)))) (fC (.p (.int 1))))))))))))
def f_law_turn : FN := defF 10 (b_law_turn)
abbrev b_law_words (self : FN) : FS :=
  (fSeq (fAsg (fCall (f_law_range 10) (fConsA (fVar 0) (fConsA (fVar 1) fNilA))) (gTp 2 (gC0 (gNm 4) (gC0 (gNm 5) gN0))))
  (fSeq (fSet 2 (fOrV (fVar 2) (fOp gEq (fVar 4) (fVar 5))))
  (fSeq (fIfS (fB (fOp gEq (fOp fIx (fVar 1) (fC (.p (.int 0)))) (fC (.p (.str "hear"))))) (fRet (fLst true (fConsA (fIf (fTru (fVar 2)) (fC (.p (.str "none"))) (fIf (fB (fOp gEq (fVar 3) (fC (.p (.int 0))))) (fC (.p (.str "both"))) (fIf (fB (fOp gLt (fVar 3) (fC (.p (.int 0))))) (fC (.p (.str "falls"))) (fC (.p (.str "rises")))))) fNilA))) fSkip)
  (fSeq (fSet 6 (fLst true fNilA))
  (fSeq (fFor (fWk (fCall f_law_parts (fConsA (fVar 1) fNilA))) (gNm 7) (fSet 6 (fOp gAdd (fVar 6) (fCall self (fConsA (fVar 0) (fConsA (fVar 7) (fConsA (fVar 2) (fConsA (fOp gMul (fVar 3) (fCall f_law_turn (fConsA (fVar 0) (fConsA (fVar 1) fNilA)))) fNilA))))))))
  (fRet (fVar 6)))))))
def f_law_words : Nat → FN
  | 0 => fun _ _ => .bad
  | n + 1 => defF 8 (b_law_words (f_law_words n))
abbrev b_law_ways : FS :=
  (fSeq (fAsg (fCall (f_law_range 10) (fConsA (fVar 0) (fConsA (fOp fIx (fOp fIx (fVar 0) (fC (.p (.int 1)))) (fVar 1)) fNilA))) (gTp 2 (gC0 (gNm 2) (gC0 (gNm 3) gN0))))
  (fRet (fCall (f_law_words 10) (fConsA (fVar 0) (fConsA (fOp fIx (fOp fIx (fVar 0) (fC (.p (.int 1)))) (fVar 1)) (fConsA (fOp gEq (fCallB gMin (fConsA (fVar 2) (fConsA (fOp fIx (fOp fIx (fVar 0) (fC (.p (.int 0)))) (fVar 1)) fNilA))) (fCallB gMin (fConsA (fVar 3) (fConsA (fOp fIx (fOp fIx (fVar 0) (fC (.p (.int 0)))) (fVar 1)) fNilA)))) (fConsA (fC (.p (.int 1))) fNilA)))))))
def f_law_ways : FN := defF 4 (b_law_ways)
abbrev b_law_renamed (self : FN) : FS :=
  (fSeq (fIfS (fB (fOp gEq (fOp fIx (fVar 0) (fC (.p (.int 0)))) (fC (.p (.str "is"))))) (fRet (fVar 0)) fSkip)
  (fSeq (fIfS (fB (fOp gEq (fOp fIx (fVar 0) (fC (.p (.int 0)))) (fC (.p (.str "hear"))))) (fRet (fTup (fConsA (fC (.p (.str "hear"))) (fConsA (fOp fIx (fVar 1) (fOp fIx (fVar 0) (fC (.p (.int 1))))) fNilA)))) fSkip)
  (fSeq (fSet 3 (fCallB gTuple (fConsA (fLc true (fWk (fCall f_law_parts (fConsA (fVar 0) fNilA))) (.one 2) [2] fYes (fCall self (fConsA (fVar 2) (fConsA (fVar 1) fNilA)))) fNilA)))
  (fSeq (fIfS (fB (fOp (gIn false) (fOp fIx (fVar 0) (fC (.p (.int 0)))) (fLst true (fConsA (fC (.p (.str "least"))) (fConsA (fC (.p (.str "most"))) (fConsA (fC (.p (.str "add"))) fNilA)))))) (fRet (fTup (fConsA (fOp fIx (fVar 0) (fC (.p (.int 0)))) (fConsA (fVar 3) fNilA)))) fSkip)
  (fRet (fIf (fB (fOp gEq (fOp fIx (fVar 0) (fC (.p (.int 0)))) (fC (.p (.str "middle"))))) (fOp gAdd (fSl true (fVar 0) fNoO (fSomeO (fC (.p (.int 1))))) (fVar 3)) (fOp gAdd (fSl true (fVar 0) fNoO (fSomeO (fUn gNeg (fC (.p (.int 1)))))) (fVar 3))))))))
def f_law_renamed : Nat → FN
  | 0 => fun _ _ => .bad
  | n + 1 => defF 4 (b_law_renamed (f_law_renamed n))
abbrev b_tops_heard : FS :=
  (fRet (fLc true (fWk (fCall (f_branches 10) (fConsA (fOp fIx (fOp fIx (fVar 0) (fC (.p (.int 1)))) (fVar 1)) fNilA))) (.one 2) [2] fYes (fOp fIx (fOp fIx (fVar 0) (fC (.p (.int 0)))) (fVar 2))))
def f_tops_heard : FN := defF 3 (b_tops_heard)
abbrev b_check_rows (A : Ad) : FS :=
  (fSeq (fSet 2 (fC (.p (.int 1))))
  (fSeq (fFor (fWk (fCall f_tops_heard (fConsA (fVar 0) (fConsA (fVar 1) fNilA)))) (gNm 3) (fAug 2 gIMul (fOp gAdd (fVar 3) (fC (.p (.int 1))))))
  (fIfS (fB (fOp gGt (fVar 2) (fC c_MOST_ROWS))) (fRaise A.e_Refused (fVar 2)) fSkip)))
def f_check_rows (A : Ad) : FN := defF 4 (b_check_rows A)
abbrev b_row_at : FS :=
  (fRet (fCallB gTuple (fConsA (fLc true (fZip (fConsA (fVar 1) (fConsA (fVar 0) fNilA))) (.many [3, 4]) [3, 4] fYes (fOp gMod (fOp gDiv (fVar 2) (fVar 3)) (fOp gAdd (fVar 4) (fC (.p (.int 1)))))) fNilA)))
def f_row_at : FN := defF 5 (b_row_at)
abbrev b_word : FS :=
  (fSeq (fIfS (fB (fOp gIsN (fVar 0) (fC (.p .none)))) (fRet (fIf (fB (fOp gIsN (fVar 1) (fC (.p .none)))) (fC (.p (.str "none"))) (fC (.p (.str "falls"))))) fSkip)
  (fRet (fIf (fB (fOp gIsN (fVar 1) (fC (.p .none)))) (fC (.p (.str "rises"))) (fC (.p (.str "both"))))))
def f_word : FN := defF 2 (b_word)
abbrev b_law_steps : FS :=
  (fSeq (fPar 3 4 (fConsA (fLst false fNilA) (fConsA (fOp fIx (fOp fIx (fVar 0) (fC (.p (.int 0)))) (fOp fIx (fCall (f_law_branches 10) (fConsA (fOp fIx (fOp fIx (fVar 0) (fC (.p (.int 1)))) (fVar 1)) fNilA)) (fVar 2))) fNilA)))
  (fSeq (fFor (fWk (fCall f_law_rows (fConsA (fVar 0) (fConsA (fVar 1) fNilA)))) (gNm 5) (fIfS (fB (fOp gLt (fOp fIx (fVar 5) (fVar 2)) (fVar 4))) (fSeq (fSet 6 (fOp gAdd (fOp gAdd (fSl true (fVar 5) fNoO (fSomeO (fVar 2))) (fTup (fConsA (fOp gAdd (fOp fIx (fVar 5) (fVar 2)) (fC (.p (.int 1)))) fNilA))) (fSl true (fVar 5) (fSomeO (fOp gAdd (fVar 2) (fC (.p (.int 1))))) fNoO)))
  (fDrop (fMt gAppend (fVar 3) (fConsA (fTup (fConsA (fVar 5) (fConsA (fOp gSub (fCall f_law_wants (fConsA (fVar 0) (fConsA (fVar 1) (fConsA (fVar 6) fNilA)))) (fCall f_law_wants (fConsA (fVar 0) (fConsA (fVar 1) (fConsA (fVar 5) fNilA))))) fNilA))) fNilA)))) fSkip))
  (fRet (fVar 3))))
def f_law_steps : FN := defF 7 (b_law_steps)
abbrev b_law_word : FS :=
  (fSeq (fPar 3 4 (fConsA (fOp gNe (fLc true (fWk (fVar 0)) (.many [1, 2]) [1, 2] (fB (fOp gGt (fVar 2) (fC (.p (.int 0))))) (fC (.p (.int 1)))) (fLst true fNilA)) (fConsA (fOp gNe (fLc true (fWk (fVar 0)) (.many [1, 2]) [1, 2] (fB (fOp gLt (fVar 2) (fC (.p (.int 0))))) (fC (.p (.int 1)))) (fLst true fNilA)) fNilA)))
  (fRet (fIf (fAndT (fTru (fVar 3)) (fTru (fVar 4))) (fC (.p (.str "both"))) (fIf (fTru (fVar 3)) (fC (.p (.str "rises"))) (fIf (fTru (fVar 4)) (fC (.p (.str "falls"))) (fC (.p (.str "none"))))))))
def f_law_word : FN := defF 5 (b_law_word)
abbrev b_law_shows : FS :=
  (fSeq (fSet 5 (fLc true (fWk (fVar 0)) (.many [3, 4]) [3, 4] (fB (fOp gGt (fOp gMul (fVar 4) (fVar 2)) (fC (.p (.int 0))))) (fCallB gRepr (fConsA (fVar 3) fNilA))))
  (fRet (fIf (fB (fOp gEq (fVar 5) (fLst true fNilA))) (fOp gIsN (fVar 1) (fC (.p .none))) (fOp (gIn false) (fCallB gRepr (fConsA (fVar 1) fNilA)) (fVar 5)))))
def f_law_shows : FN := defF 6 (b_law_shows)
abbrev b_law_between : FS :=
  (fSeq (fSet 4 (fLst true (fConsA (fTup fNilA) fNilA)))
  (fSeq (fFor (fWk (fCall (f_law_branches 10) (fConsA (fOp fIx (fOp fIx (fVar 0) (fC (.p (.int 1)))) (fVar 1)) fNilA))) (gNm 5) (fSeq (fSet 6 (fLst true fNilA))
  (fSeq (fFor (fWk (fVar 4)) (gNm 7) (fSet 6 (fOp gAdd (fVar 6) (fLc true (fRng2 (fConsA (fOp fIx (fVar 2) (fVar 5)) (fConsA (fOp gAdd (fOp fIx (fVar 3) (fVar 5)) (fC (.p (.int 1)))) fNilA))) (.one 8) [8] fYes (fOp gAdd (fVar 7) (fTup (fConsA (fVar 8) fNilA)))))))
  (fSet 4 (fVar 6)))))
  (fRet (fVar 4))))
def f_law_between : FN := defF 9 (b_law_between)
end
end PD
set_option linter.all false
set_option maxRecDepth 100000
set_option maxHeartbeats 4000000
namespace K01
open PySem PySem.Spec PyProof.Rows L2 NB RZ SV PD
def topS (i : Nat) : Stmt := PySem.Challenge.pw_newsbehind_k01_rules_and_what_they_tell.main.body.getD i (.Pass ⟨0, 0, 0, 0⟩)
structure Bl (mg : Str → Option Value) : Prop where
  b_abs : mg "abs" = none
  b_bool : mg "bool" = none
  b_enumerate : mg "enumerate" = none
  b_int : mg "int" = none
  b_isinstance : mg "isinstance" = none
  b_len : mg "len" = none
  b_list : mg "list" = none
  b_max : mg "max" = none
  b_min : mg "min" = none
  b_range : mg "range" = none
  b_repr : mg "repr" = none
  b_sorted : mg "sorted" = none
  b_str : mg "str" = none
  b_sum : mg "sum" = none
  b_tuple : mg "tuple" = none
structure Cns (K : PySem.W.Frag) (w : World) (mg : Str → Option Value) (A : Ad) : Prop where
  c_LEAF_WORDS : GC K mg "LEAF_WORDS" c_LEAF_WORDS
  c_LIST_WORDS : GC K mg "LIST_WORDS" c_LIST_WORDS
  c_MOST_BRANCHES : GC K mg "MOST_BRANCHES" c_MOST_BRANCHES
  c_MOST_LEVELS : GC K mg "MOST_LEVELS" c_MOST_LEVELS
  c_MOST_NUMBER : GC K mg "MOST_NUMBER" c_MOST_NUMBER
  c_MOST_RULES : GC K mg "MOST_RULES" c_MOST_RULES
  e_NUMBER_COUNTS : DC K w mg "NUMBER_COUNTS" t_NUMBER_COUNTS
  e_TELLING : DC K w mg "TELLING" (t_TELLING A)
section
variable {P : Program} {W_ : World} {K : PySem.W.Frag} {mg : Str → Option Value} {base : Heap}
/-! #### is_integer -/
abbrev s_is_integer : Stmt := topS 5
theorem sc_is_integer : FnScope ["value"] ["value"] (defScope s_is_integer) := ⟨rfl, rfl, rfl, by decide +kernel, rfl, by decide +kernel, by decide +kernel⟩
theorem cal_is_integer {f : Addr} {fd : FuncData} {A : Ad} (F : Fun K "is_integer" "is_integer" s_is_integer f fd) (g : mg "is_integer" = some (.ref f)) (B : Bl mg) (Cs : Cns K W_ mg A) : Cal P W_ K mg base 1 "is_integer" ["value"] s_is_integer (f_is_integer) := by
  have bb := F.binds (ps := ["value"]) fun _ _ _ _ _ _ us hl => match us, hl with | [_], _ => rfl
  refine ⟨f, fd, fn_sv (N := ["value"]) (ps := ["value"]) (k := 0) (fb := b_is_integer) F sc_is_integer fun cdv A_ outer s_ H E hr => ?_, g, F.kp, bb, F⟩
  have hu : (A_.deeper (envOfC "is_integer" (defScope s_is_integer) s_.heap.objs.size f cdv)).units + 64 < cLine := hr.units
  exact (rss_one (rs_ret (re_and (re_isi .int (fun ha => pe_callB call_isi rfl B.b_isinstance boot_isinstance ha) (fun a b => pa_cons a (pa_cons b pa_nil)) (re_var (pv 0)) (pe_bltn rfl B.b_int (u := .type "int") (by decide +kernel) rfl)) (re_one (re_not (re_isi .bool (fun ha => pe_callB call_isi rfl B.b_isinstance boot_isinstance ha) (fun a b => pa_cons a (pa_cons b pa_nil)) (re_var (pv 0)) (pe_bltn rfl B.b_bool (u := .type "bool") (by decide +kernel) rfl)))))))
/-! #### is_integer_in -/
abbrev s_is_integer_in : Stmt := topS 6
theorem sc_is_integer_in : FnScope ["value", "low", "high"] ["value", "low", "high"] (defScope s_is_integer_in) := ⟨rfl, rfl, rfl, by decide +kernel, rfl, by decide +kernel, by decide +kernel⟩
theorem cal_is_integer_in {f : Addr} {fd : FuncData} {A : Ad} (F : Fun K "is_integer_in" "is_integer_in" s_is_integer_in f fd) (g : mg "is_integer_in" = some (.ref f)) (B : Bl mg) (Cs : Cns K W_ mg A) (C_is_integer : Cal P W_ K mg base 1 "is_integer" ["value"] s_is_integer f_is_integer) : Cal P W_ K mg base 2 "is_integer_in" ["value", "low", "high"] s_is_integer_in (f_is_integer_in) := by
  have bb := F.binds (ps := ["value", "low", "high"]) fun _ _ _ _ _ _ us hl => match us, hl with | [_, _, _], _ => rfl
  refine ⟨f, fd, fn_sv (N := ["value", "low", "high"]) (ps := ["value", "low", "high"]) (k := 1) (fb := b_is_integer_in) F sc_is_integer_in fun cdv A_ outer s_ H E hr => ?_, g, F.kp, bb, F⟩
  have hu : (A_.deeper (envOfC "is_integer_in" (defScope s_is_integer_in) s_.heap.objs.size f cdv)).units + 64 < cLine := hr.units
  exact (rss_one (rs_ret (re_and (re_callC C_is_integer (hr.mono (by decide)) rfl (ra_cons (re_var (pv 0)) ra_nil) (al_cons al_nil)) (re_one (re_chn op_le op_le opk_le opk_le (re_var (pv 1)) (re_var (pv 0)) (re_var (pv 2)))))))
/-! #### least_number -/
abbrev s_least_number : Stmt := topS 11
theorem sc_least_number : FnScope ["word", "numbers"] ["word", "numbers"] (defScope s_least_number) := ⟨rfl, rfl, rfl, by decide +kernel, rfl, by decide +kernel, by decide +kernel⟩
theorem cal_least_number {f : Addr} {fd : FuncData} {A : Ad} (F : Fun K "least_number" "least_number" s_least_number f fd) (g : mg "least_number" = some (.ref f)) (B : Bl mg) (Cs : Cns K W_ mg A) : Cal P W_ K mg base 1 "least_number" ["word", "numbers"] s_least_number (f_least_number) := by
  have bb := F.binds (ps := ["word", "numbers"]) fun _ _ _ _ _ _ us hl => match us, hl with | [_, _], _ => rfl
  refine ⟨f, fd, fn_sv (N := ["word", "numbers"]) (ps := ["word", "numbers"]) (k := 0) (fb := b_least_number) F sc_least_number fun cdv A_ outer s_ H E hr => ?_, g, F.kp, bb, F⟩
  have hu : (A_.deeper (envOfC "least_number" (defScope s_least_number) s_.heap.objs.size f cdv)).units + 64 < cLine := hr.units
  exact (rss_cons (rs_if (rt_cmp (op_eqD hu) opk_eq (re_var (pv 0)) re_str (nomark _)) (rss_one (rs_ret re_int)) rss_nil)
  (rss_cons (rs_if (PW.pt (rw_and (rt_cmp (op_eqD hu) opk_eq (re_var (pv 0)) re_str (nomark _)) (rw_and1 (rt_cmp (op_eqD hu) opk_eq (re_callB (fun ha => pe_callB call_lenA rfl B.b_len boot_len ha) callk_len (ra_cons (re_var (pv 1)) ra_nil)) re_int (nomark _))))) (rss_one (rs_ret (re_ix (re_var (pv 1)) re_int (fun _ _ => rfl)))) rss_nil)
  (rss_one (rs_ret re_int))))
/-! #### inner_rules -/
abbrev s_inner_rules : Stmt := topS 12
theorem sc_inner_rules : FnScope ["rule", "word"] ["rule"] (defScope s_inner_rules) := ⟨rfl, rfl, rfl, by decide +kernel, rfl, by decide +kernel, by decide +kernel⟩
theorem cal_inner_rules {f : Addr} {fd : FuncData} {A : Ad} (F : Fun K "inner_rules" "inner_rules" s_inner_rules f fd) (g : mg "inner_rules" = some (.ref f)) (B : Bl mg) (Cs : Cns K W_ mg A) : Cal P W_ K mg base 1 "inner_rules" ["rule"] s_inner_rules (f_inner_rules) := by
  have bb := F.binds (ps := ["rule"]) fun _ _ _ _ _ _ us hl => match us, hl with | [_], _ => rfl
  refine ⟨f, fd, fn_sv (N := ["rule", "word"]) (ps := ["rule"]) (k := 0) (fb := b_inner_rules) F sc_inner_rules fun cdv A_ outer s_ H E hr => ?_, g, F.kp, bb, F⟩
  have hu : (A_.deeper (envOfC "inner_rules" (defScope s_inner_rules) s_.heap.objs.size f cdv)).units + 64 < cLine := hr.units
  exact (rss_cons (rs_set (i := 1) sc_inner_rules.nd rfl (by first | exact Or.inl rfl | exact Or.inr rfl) (re_ix (re_var (pv 0)) re_int (fun _ _ => rfl)))
  (rss_cons (rs_if (rt_cmp op_in_seq (opk_in false) (re_var (pv 1)) (re_glob Cs.c_LEAF_WORDS rfl) (by rfl)) (rss_one (rs_ret (re_tup ra_nil))) rss_nil)
  (rss_cons (rs_if (rt_cmp op_in_seq (opk_in false) (re_var (pv 1)) (re_glob Cs.c_LIST_WORDS rfl) (by rfl)) (rss_one (rs_ret (re_ix (re_var (pv 0)) re_int (fun _ _ => rfl)))) rss_nil)
  (rss_cons (rs_if (rt_cmp (op_eqD hu) opk_eq (re_var (pv 1)) re_str (nomark _)) (rss_one (rs_ret (re_sl true (re_var (pv 0)) (ro_some re_int) ro_none))) rss_nil)
  (rss_one (rs_ret (re_sl true (re_var (pv 0)) (ro_some (re_un un_neg unk_neg re_int)) ro_none)))))))
/-! #### _numbers_fit -/
abbrev s_numbers_fit : Stmt := topS 14
theorem sc_numbers_fit : FnScope ["word", "numbers", "fewest", "most", "at", "number"] ["word", "numbers"] (defScope s_numbers_fit) := ⟨rfl, rfl, rfl, by decide +kernel, rfl, by decide +kernel, by decide +kernel⟩
theorem cal_numbers_fit {f : Addr} {fd : FuncData} {A : Ad} (F : Fun K "_numbers_fit" "_numbers_fit" s_numbers_fit f fd) (g : mg "_numbers_fit" = some (.ref f)) (B : Bl mg) (Cs : Cns K W_ mg A) (C_is_integer_in : Cal P W_ K mg base 2 "is_integer_in" ["value", "low", "high"] s_is_integer_in f_is_integer_in) (C_least_number : Cal P W_ K mg base 1 "least_number" ["word", "numbers"] s_least_number f_least_number) : Cal P W_ K mg base 3 "_numbers_fit" ["word", "numbers"] s_numbers_fit (f_numbers_fit) := by
  have bb := F.binds (ps := ["word", "numbers"]) fun _ _ _ _ _ _ us hl => match us, hl with | [_, _], _ => rfl
  refine ⟨f, fd, fn_sv (N := ["word", "numbers", "fewest", "most", "at", "number"]) (ps := ["word", "numbers"]) (k := 2) (fb := b_numbers_fit) F sc_numbers_fit fun cdv A_ outer s_ H E hr => ?_, g, F.kp, bb, F⟩
  have hu : (A_.deeper (envOfC "_numbers_fit" (defScope s_numbers_fit) s_.heap.objs.size f cdv)).units + 64 < cLine := hr.units
  exact (rss_cons (rs_asg (re_ixKd Cs.e_NUMBER_COUNTS rfl (re_var (pv 0)) (fun _ _ => rfl)) (rg_tp rfl (rgs_cons (rg_nm (i := 2) sc_numbers_fit.nd rfl (by first | exact Or.inl rfl | exact Or.inr rfl)) (rgs_cons (rg_nm (i := 3) sc_numbers_fit.nd rfl (by first | exact Or.inl rfl | exact Or.inr rfl)) rgs_nil))))
  (rss_cons (rs_if (rt_not (rt_chn op_le op_le opk_le opk_le (re_var (pv 2)) (re_callB (fun ha => pe_callB call_lenA rfl B.b_len boot_len ha) callk_len (ra_cons (re_var (pv 1)) ra_nil)) (re_var (pv 3)))) (rss_one (rs_ret re_bl)) rss_nil)
  (rss_cons (rs_for PassesOwn.never rfl (ri_enum rfl B.b_enumerate (ra_cons (re_var (pv 1)) ra_nil)) (rg_tp rfl (rgs_cons (rg_nm (i := 4) sc_numbers_fit.nd rfl (by first | exact Or.inl rfl | exact Or.inr rfl)) (rgs_cons (rg_nm (i := 5) sc_numbers_fit.nd rfl (by first | exact Or.inl rfl | exact Or.inr rfl)) rgs_nil))) (rss_one (rs_if (rt_not (rt_tru (re_callC C_is_integer_in (hr.mono (by decide)) rfl (ra_cons (re_var (pv 5)) (ra_cons (re_callC C_least_number (hr.mono (by decide)) rfl (ra_cons (re_var (pv 0)) (ra_cons (re_sl true (re_var (pv 1)) ro_none (ro_some (re_var (pv 4)))) ra_nil)) (al_cons (al_cons al_nil))) (ra_cons (re_glob Cs.c_MOST_NUMBER rfl) ra_nil))) (al_cons (al_cons (al_cons al_nil)))))) (rss_one (rs_ret re_bl)) rss_nil)))
  (rss_one (rs_ret re_bl)))))
/-! #### _has_form -/
abbrev s_has_form : Stmt := topS 15
theorem sc_has_form : FnScope ["value", "word"] ["value"] (defScope s_has_form) := ⟨rfl, rfl, rfl, by decide +kernel, rfl, by decide +kernel, by decide +kernel⟩
theorem cal_has_form {f : Addr} {fd : FuncData} {A : Ad} (F : Fun K "_has_form" "_has_form" s_has_form f fd) (g : mg "_has_form" = some (.ref f)) (B : Bl mg) (Cs : Cns K W_ mg A) (C_is_integer_in : Cal P W_ K mg base 2 "is_integer_in" ["value", "low", "high"] s_is_integer_in f_is_integer_in) (C_numbers_fit : Cal P W_ K mg base 3 "_numbers_fit" ["word", "numbers"] s_numbers_fit f_numbers_fit) : Cal P W_ K mg base 4 "_has_form" ["value"] s_has_form (f_has_form) := by
  have bb := F.binds (ps := ["value"]) fun _ _ _ _ _ _ us hl => match us, hl with | [_], _ => rfl
  refine ⟨f, fd, fn_sv (N := ["value", "word"]) (ps := ["value"]) (k := 3) (fb := b_has_form) F sc_has_form fun cdv A_ outer s_ H E hr => ?_, g, F.kp, bb, F⟩
  have hu : (A_.deeper (envOfC "_has_form" (defScope s_has_form) s_.heap.objs.size f cdv)).units + 64 < cLine := hr.units
  exact (rss_cons (rs_if (PW.pt (rw_or (rt_not (rt_tru (re_isi .tuple (fun ha => pe_callB call_isi rfl B.b_isinstance boot_isinstance ha) (fun a b => pa_cons a (pa_cons b pa_nil)) (re_var (pv 0)) (pe_bltn rfl B.b_tuple (u := .type "tuple") (by decide +kernel) rfl)))) (rw_or (rt_cmp (op_eqD hu) opk_eq (re_callB (fun ha => pe_callB call_lenA rfl B.b_len boot_len ha) callk_len (ra_cons (re_var (pv 0)) ra_nil)) re_int (nomark _)) (rw_or1 (rt_not (rt_tru (re_isi .str (fun ha => pe_callB call_isi rfl B.b_isinstance boot_isinstance ha) (fun a b => pa_cons a (pa_cons b pa_nil)) (re_ix (re_var (pv 0)) re_int (fun _ _ => rfl)) (pe_bltn rfl B.b_str (u := .type "str") (by decide +kernel) rfl)))))))) (rss_one (rs_ret re_bl)) rss_nil)
  (rss_cons (rs_set (i := 1) sc_has_form.nd rfl (by first | exact Or.inl rfl | exact Or.inr rfl) (re_ix (re_var (pv 0)) re_int (fun _ _ => rfl)))
  (rss_cons (rs_if (rt_cmp op_in_seq (opk_in false) (re_var (pv 1)) (re_glob Cs.c_LEAF_WORDS rfl) (by rfl)) (rss_one (rs_ret (re_and (re_cmp (op_eqD hu) opk_eq (re_callB (fun ha => pe_callB call_lenA rfl B.b_len boot_len ha) callk_len (ra_cons (re_var (pv 0)) ra_nil)) re_int (nomark _)) (re_one (re_callC C_is_integer_in (hr.mono (by decide)) rfl (ra_cons (re_ix (re_var (pv 0)) re_int (fun _ _ => rfl)) (ra_cons re_int (ra_cons (re_glob Cs.c_MOST_NUMBER rfl) ra_nil))) (al_cons (al_cons (al_cons al_nil)))))))) rss_nil)
  (rss_cons (rs_if (rt_cmp op_in_seq (opk_in false) (re_var (pv 1)) (re_glob Cs.c_LIST_WORDS rfl) (by rfl)) (rss_one (rs_ret (re_and (re_cmp (op_eqD hu) opk_eq (re_callB (fun ha => pe_callB call_lenA rfl B.b_len boot_len ha) callk_len (ra_cons (re_var (pv 0)) ra_nil)) re_int (nomark _)) (re_and (re_isi .tuple (fun ha => pe_callB call_isi rfl B.b_isinstance boot_isinstance ha) (fun a b => pa_cons a (pa_cons b pa_nil)) (re_ix (re_var (pv 0)) re_int (fun _ _ => rfl)) (pe_bltn rfl B.b_tuple (u := .type "tuple") (by decide +kernel) rfl)) (re_one (re_cmp op_gt opk_gt (re_callB (fun ha => pe_callB call_lenA rfl B.b_len boot_len ha) callk_len (ra_cons (re_ix (re_var (pv 0)) re_int (fun _ _ => rfl)) ra_nil)) re_int (nomark _))))))) rss_nil)
  (rss_cons (rs_if (rt_cmp (op_eqD hu) opk_eq (re_var (pv 1)) re_str (nomark _)) (rss_one (rs_ret (re_cmp (op_eqD hu) opk_eq (re_callB (fun ha => pe_callB call_lenA rfl B.b_len boot_len ha) callk_len (ra_cons (re_var (pv 0)) ra_nil)) re_int (nomark _)))) rss_nil)
  (rss_cons (rs_if (rt_cmp (op_eqD hu) opk_eq (re_var (pv 1)) re_str (nomark _)) (rss_one (rs_ret (re_and (re_cmp (op_eqD hu) opk_eq (re_callB (fun ha => pe_callB call_lenA rfl B.b_len boot_len ha) callk_len (ra_cons (re_var (pv 0)) ra_nil)) re_int (nomark _)) (re_and (re_isi .tuple (fun ha => pe_callB call_isi rfl B.b_isinstance boot_isinstance ha) (fun a b => pa_cons a (pa_cons b pa_nil)) (re_ix (re_var (pv 0)) re_int (fun _ _ => rfl)) (pe_bltn rfl B.b_tuple (u := .type "tuple") (by decide +kernel) rfl)) (re_one (re_callC C_numbers_fit (hr.mono (by decide)) rfl (ra_cons (re_var (pv 1)) (ra_cons (re_ix (re_var (pv 0)) re_int (fun _ _ => rfl)) ra_nil)) (al_cons (al_cons al_nil)))))))) rss_nil)
  (rss_one (rs_ret (re_and (re_inKd Cs.e_NUMBER_COUNTS rfl (re_var (pv 1))) (re_one (re_callC C_numbers_fit (hr.mono (by decide)) rfl (ra_cons (re_var (pv 1)) (ra_cons (re_sl true (re_var (pv 0)) (ro_some re_int) (ro_some (re_un un_neg unk_neg re_int))) ra_nil)) (al_cons (al_cons al_nil)))))))))))))
/-! #### is_rule -/
abbrev s_is_rule : Stmt := topS 16
theorem sc_is_rule : FnScope ["value", "waiting", "seen", "heard", "part", "level", "inner"] ["value"] (defScope s_is_rule) := ⟨rfl, rfl, rfl, by decide +kernel, rfl, by decide +kernel, by decide +kernel⟩
theorem cal_is_rule {f : Addr} {fd : FuncData} {A : Ad} (F : Fun K "is_rule" "is_rule" s_is_rule f fd) (g : mg "is_rule" = some (.ref f)) (B : Bl mg) (Cs : Cns K W_ mg A) (C_has_form : Cal P W_ K mg base 4 "_has_form" ["value"] s_has_form f_has_form) (C_inner_rules : Cal P W_ K mg base 1 "inner_rules" ["rule"] s_inner_rules f_inner_rules) : Cal P W_ K mg base 5 "is_rule" ["value"] s_is_rule (f_is_rule) := by
  have bb := F.binds (ps := ["value"]) fun _ _ _ _ _ _ us hl => match us, hl with | [_], _ => rfl
  refine ⟨f, fd, fn_sv (N := ["value", "waiting", "seen", "heard", "part", "level", "inner"]) (ps := ["value"]) (k := 4) (fb := b_is_rule) F sc_is_rule fun cdv A_ outer s_ H E hr => ?_, g, F.kp, bb, F⟩
  have hu : (A_.deeper (envOfC "is_rule" (defScope s_is_rule) s_.heap.objs.size f cdv)).units + 64 < cLine := hr.units
  exact (rss_cons (rs_set (i := 1) sc_is_rule.nd rfl (by first | exact Or.inl rfl | exact Or.inr rfl) (re_lst false (ra_cons (re_tup (ra_cons (re_var (pv 0)) (ra_cons re_int ra_nil))) ra_nil)))
  (rss_cons (rs_set (i := 2) sc_is_rule.nd rfl (by first | exact Or.inl rfl | exact Or.inr rfl) re_int)
  (rss_cons (rs_set (i := 3) sc_is_rule.nd rfl (by first | exact Or.inl rfl | exact Or.inr rfl) re_int)
  (rss_cons (rs_while PassesOwn.never (rt_tru (re_var (pv 1))) (rss_cons (rs_asg (re_mt0 (fun ho => pe_bm0 PySem.F.plainAttrs_list PySem.F.slot_list_pop PySem.F.type_list_pop mt_pop ho) mtk_pop (re_var (pv 1))) (rg_tp rfl (rgs_cons (rg_nm (i := 4) sc_is_rule.nd rfl (by first | exact Or.inl rfl | exact Or.inr rfl)) (rgs_cons (rg_nm (i := 5) sc_is_rule.nd rfl (by first | exact Or.inl rfl | exact Or.inr rfl)) rgs_nil))))
  (rss_cons (rs_aug (i := 2) sc_is_rule.nd rfl (by first | exact Or.inl rfl | exact Or.inr rfl) re_int iop_add opk_iadd)
  (rss_cons (rs_if (PW.pt (rw_or (rt_cmp op_gt opk_gt (re_var (pv 5)) (re_glob Cs.c_MOST_LEVELS rfl) (nomark _)) (rw_or (rt_cmp op_gt opk_gt (re_op op_addAll opk_add (re_var (pv 2)) (re_callB (fun ha => pe_callB call_lenA rfl B.b_len boot_len ha) callk_len (ra_cons (re_var (pv 1)) ra_nil))) (re_glob Cs.c_MOST_RULES rfl) (nomark _)) (rw_or1 (rt_not (rt_tru (re_callC C_has_form (hr.mono (by decide)) rfl (ra_cons (re_var (pv 4)) ra_nil) (al_cons al_nil)))))))) (rss_one (rs_ret re_bl)) rss_nil)
  (rss_cons (rs_if (rt_cmp (op_eqD hu) opk_eq (re_ix (re_var (pv 4)) re_int (fun _ _ => rfl)) re_str (nomark _)) (rss_one (rs_aug (i := 3) sc_is_rule.nd rfl (by first | exact Or.inl rfl | exact Or.inr rfl) re_int iop_add opk_iadd)) rss_nil)
  (rss_one (rs_for PassesOwn.never rfl (ri_seq (re_callC C_inner_rules (hr.mono (by decide)) rfl (ra_cons (re_var (pv 4)) ra_nil) (al_cons al_nil))) (rg_nm (i := 6) sc_is_rule.nd rfl (by first | exact Or.inl rfl | exact Or.inr rfl)) (rss_one (rs_expr (re_mt (fun ho ha => pe_bm PySem.F.plainAttrs_list PySem.F.slot_list_append PySem.F.type_list_append mt_append ho ha) mtk_append (re_var (pv 1)) (ra_cons (re_tup (ra_cons (re_var (pv 6)) (ra_cons (re_op op_addAll opk_add (re_var (pv 5)) re_int) ra_nil))) ra_nil)))))))))))
  (rss_one (rs_ret (re_cmp op_le opk_le (re_var (pv 3)) (re_glob Cs.c_MOST_BRANCHES rfl) (nomark _))))))))
/-! #### branches -/
abbrev s_branches : Stmt := topS 17
theorem sc_branches : FnScope ["rule", "houses", "part"] ["rule"] (defScope s_branches) := ⟨rfl, rfl, rfl, by decide +kernel, rfl, by decide +kernel, by decide +kernel⟩
theorem cal_branches {f : Addr} {fd : FuncData} {A : Ad} (F : Fun K "branches" "branches" s_branches f fd) (g : mg "branches" = some (.ref f)) (B : Bl mg) (Cs : Cns K W_ mg A) (C_inner_rules : Cal P W_ K mg base 1 "inner_rules" ["rule"] s_inner_rules f_inner_rules) (n : Nat) : Cal P W_ K mg base (2 + n) "branches" ["rule"] s_branches (f_branches n) := by
  have bb := F.binds (ps := ["rule"]) fun _ _ _ _ _ _ us hl => match us, hl with | [_], _ => rfl
  induction n with
  | zero => exact ⟨f, fd, fn_bad F sc_branches, g, F.kp, bb, F⟩
  | succ n G =>
    refine ⟨f, fd, fn_sv (N := ["rule", "houses", "part"]) (ps := ["rule"]) (k := 2 + n) (fb := b_branches (f_branches n)) F sc_branches fun cdv A_ outer s_ H E hr => ?_, g, F.kp, bb, F⟩
    have hu : (A_.deeper (envOfC "branches" (defScope s_branches) s_.heap.objs.size f cdv)).units + 64 < cLine := hr.units
    have hr0 := hr
    exact (rss_cons (rs_if (rt_cmp (op_eqD hu) opk_eq (re_ix (re_var (pv 0)) re_int (fun _ _ => rfl)) re_str (nomark _)) (rss_one (rs_ret (re_tup (ra_cons (re_ix (re_var (pv 0)) re_int (fun _ _ => rfl)) ra_nil)))) rss_nil)
  (rss_cons (rs_set (i := 1) sc_branches.nd rfl (by first | exact Or.inl rfl | exact Or.inr rfl) (re_lst false ra_nil))
  (rss_cons (rs_for PassesOwn.never rfl (ri_seq (re_callC C_inner_rules (hr0.mono (by omega)) rfl (ra_cons (re_var (pv 0)) ra_nil) (al_cons al_nil))) (rg_nm (i := 2) sc_branches.nd rfl (by first | exact Or.inl rfl | exact Or.inr rfl)) (rss_one (rs_expr (re_mt (fun ho ha => pe_bm PySem.F.plainAttrs_list PySem.F.slot_list_extend PySem.F.type_list_extend mt_extendA ho ha) mtk_extend (re_var (pv 1)) (ra_cons (re_callC G hr rfl (ra_cons (re_var (pv 2)) ra_nil) (al_cons al_nil)) ra_nil)))))
  (rss_one (rs_ret (re_callB (fun ha => pe_callTy call_tuple_of rfl B.b_tuple boot_tuple ha) callk_tuple (ra_cons (re_var (pv 1)) ra_nil)))))))
/-! #### _least -/
abbrev s_least : Stmt := topS 18
theorem sc_least : FnScope ["rule", "worths"] ["rule", "worths"] (defScope s_least) := ⟨rfl, rfl, rfl, by decide +kernel, rfl, by decide +kernel, by decide +kernel⟩
theorem cal_least {f : Addr} {fd : FuncData} {A : Ad} (F : Fun K "_least" "_least" s_least f fd) (g : mg "_least" = some (.ref f)) (B : Bl mg) (Cs : Cns K W_ mg A) : Cal P W_ K mg base 1 "_least" ["rule", "worths"] s_least (f_least) := by
  have bb := F.binds (ps := ["rule", "worths"]) fun _ _ _ _ _ _ us hl => match us, hl with | [_, _], _ => rfl
  refine ⟨f, fd, fn_sv (N := ["rule", "worths"]) (ps := ["rule", "worths"]) (k := 0) (fb := b_least) F sc_least fun cdv A_ outer s_ H E hr => ?_, g, F.kp, bb, F⟩
  have hu : (A_.deeper (envOfC "_least" (defScope s_least) s_.heap.objs.size f cdv)).units + 64 < cLine := hr.units
  exact (rss_one (rs_ret (re_callB (fun ha => pe_callB (call_minA rfl) rfl B.b_min boot_min ha) callk_min (ra_cons (re_var (pv 1)) ra_nil))))
/-! #### _most -/
abbrev s_most : Stmt := topS 19
theorem sc_most : FnScope ["rule", "worths"] ["rule", "worths"] (defScope s_most) := ⟨rfl, rfl, rfl, by decide +kernel, rfl, by decide +kernel, by decide +kernel⟩
theorem cal_most {f : Addr} {fd : FuncData} {A : Ad} (F : Fun K "_most" "_most" s_most f fd) (g : mg "_most" = some (.ref f)) (B : Bl mg) (Cs : Cns K W_ mg A) : Cal P W_ K mg base 1 "_most" ["rule", "worths"] s_most (f_most) := by
  have bb := F.binds (ps := ["rule", "worths"]) fun _ _ _ _ _ _ us hl => match us, hl with | [_, _], _ => rfl
  refine ⟨f, fd, fn_sv (N := ["rule", "worths"]) (ps := ["rule", "worths"]) (k := 0) (fb := b_most) F sc_most fun cdv A_ outer s_ H E hr => ?_, g, F.kp, bb, F⟩
  have hu : (A_.deeper (envOfC "_most" (defScope s_most) s_.heap.objs.size f cdv)).units + 64 < cLine := hr.units
  exact (rss_one (rs_ret (re_callB (fun ha => pe_callB (call_maxA rfl) rfl B.b_max boot_max ha) callk_max (ra_cons (re_var (pv 1)) ra_nil))))
/-! #### _middle -/
abbrev s_middle : Stmt := topS 20
theorem sc_middle : FnScope ["rule", "worths"] ["rule", "worths"] (defScope s_middle) := ⟨rfl, rfl, rfl, by decide +kernel, rfl, by decide +kernel, by decide +kernel⟩
theorem cal_middle {f : Addr} {fd : FuncData} {A : Ad} (F : Fun K "_middle" "_middle" s_middle f fd) (g : mg "_middle" = some (.ref f)) (B : Bl mg) (Cs : Cns K W_ mg A) : Cal P W_ K mg base 1 "_middle" ["rule", "worths"] s_middle (f_middle) := by
  have bb := F.binds (ps := ["rule", "worths"]) fun _ _ _ _ _ _ us hl => match us, hl with | [_, _], _ => rfl
  refine ⟨f, fd, fn_sv (N := ["rule", "worths"]) (ps := ["rule", "worths"]) (k := 0) (fb := b_middle) F sc_middle fun cdv A_ outer s_ H E hr => ?_, g, F.kp, bb, F⟩
  have hu : (A_.deeper (envOfC "_middle" (defScope s_middle) s_.heap.objs.size f cdv)).units + 64 < cLine := hr.units
  exact (rss_one (rs_ret (re_ix (re_callB (fun ha => pe_callB cr_sortedI rfl B.b_sorted boot_sorted ha) (callk_sorted true) (ra_cons (re_var (pv 1)) ra_nil)) re_int (fun _ _ => rfl))))
/-! #### _sum -/
abbrev s_sum : Stmt := topS 21
theorem sc_sum : FnScope ["rule", "worths"] ["rule", "worths"] (defScope s_sum) := ⟨rfl, rfl, rfl, by decide +kernel, rfl, by decide +kernel, by decide +kernel⟩
theorem cal_sum {f : Addr} {fd : FuncData} {A : Ad} (F : Fun K "_sum" "_sum" s_sum f fd) (g : mg "_sum" = some (.ref f)) (B : Bl mg) (Cs : Cns K W_ mg A) : Cal P W_ K mg base 1 "_sum" ["rule", "worths"] s_sum (f_sum) := by
  have bb := F.binds (ps := ["rule", "worths"]) fun _ _ _ _ _ _ us hl => match us, hl with | [_, _], _ => rfl
  refine ⟨f, fd, fn_sv (N := ["rule", "worths"]) (ps := ["rule", "worths"]) (k := 0) (fb := b_sum) F sc_sum fun cdv A_ outer s_ H E hr => ?_, g, F.kp, bb, F⟩
  have hu : (A_.deeper (envOfC "_sum" (defScope s_sum) s_.heap.objs.size f cdv)).units + 64 < cLine := hr.units
  exact (rss_one (rs_ret (re_callB (fun ha => pe_callB (cr_sum rfl) rfl B.b_sum boot_sum ha) callk_sum (ra_cons (re_var (pv 1)) ra_nil))))
/-! #### _times -/
abbrev s_times : Stmt := topS 22
theorem sc_times : FnScope ["rule", "worths"] ["rule", "worths"] (defScope s_times) := ⟨rfl, rfl, rfl, by decide +kernel, rfl, by decide +kernel, by decide +kernel⟩
theorem cal_times {f : Addr} {fd : FuncData} {A : Ad} (F : Fun K "_times" "_times" s_times f fd) (g : mg "_times" = some (.ref f)) (B : Bl mg) (Cs : Cns K W_ mg A) : Cal P W_ K mg base 1 "_times" ["rule", "worths"] s_times (f_times) := by
  have bb := F.binds (ps := ["rule", "worths"]) fun _ _ _ _ _ _ us hl => match us, hl with | [_, _], _ => rfl
  refine ⟨f, fd, fn_sv (N := ["rule", "worths"]) (ps := ["rule", "worths"]) (k := 0) (fb := b_times) F sc_times fun cdv A_ outer s_ H E hr => ?_, g, F.kp, bb, F⟩
  have hu : (A_.deeper (envOfC "_times" (defScope s_times) s_.heap.objs.size f cdv)).units + 64 < cLine := hr.units
  exact (rss_one (rs_ret (re_op op_mulAll opk_mul (re_ix (re_var (pv 0)) re_int (fun _ _ => rfl)) (re_ix (re_var (pv 1)) re_int (fun _ _ => rfl)))))
/-! #### _part -/
abbrev s_part : Stmt := topS 23
theorem sc_part : FnScope ["rule", "worths"] ["rule", "worths"] (defScope s_part) := ⟨rfl, rfl, rfl, by decide +kernel, rfl, by decide +kernel, by decide +kernel⟩
theorem cal_part {f : Addr} {fd : FuncData} {A : Ad} (F : Fun K "_part" "_part" s_part f fd) (g : mg "_part" = some (.ref f)) (B : Bl mg) (Cs : Cns K W_ mg A) : Cal P W_ K mg base 1 "_part" ["rule", "worths"] s_part (f_part) := by
  have bb := F.binds (ps := ["rule", "worths"]) fun _ _ _ _ _ _ us hl => match us, hl with | [_, _], _ => rfl
  refine ⟨f, fd, fn_sv (N := ["rule", "worths"]) (ps := ["rule", "worths"]) (k := 0) (fb := b_part) F sc_part fun cdv A_ outer s_ H E hr => ?_, g, F.kp, bb, F⟩
  have hu : (A_.deeper (envOfC "_part" (defScope s_part) s_.heap.objs.size f cdv)).units + 64 < cLine := hr.units
  exact (rss_one (rs_ret (re_op op_fdiv opk_div (re_ix (re_var (pv 1)) re_int (fun _ _ => rfl)) (re_ix (re_var (pv 0)) re_int (fun _ _ => rfl)))))
/-! #### _clip -/
abbrev s_clip : Stmt := topS 24
theorem sc_clip : FnScope ["rule", "worths"] ["rule", "worths"] (defScope s_clip) := ⟨rfl, rfl, rfl, by decide +kernel, rfl, by decide +kernel, by decide +kernel⟩
theorem cal_clip {f : Addr} {fd : FuncData} {A : Ad} (F : Fun K "_clip" "_clip" s_clip f fd) (g : mg "_clip" = some (.ref f)) (B : Bl mg) (Cs : Cns K W_ mg A) : Cal P W_ K mg base 1 "_clip" ["rule", "worths"] s_clip (f_clip) := by
  have bb := F.binds (ps := ["rule", "worths"]) fun _ _ _ _ _ _ us hl => match us, hl with | [_, _], _ => rfl
  refine ⟨f, fd, fn_sv (N := ["rule", "worths"]) (ps := ["rule", "worths"]) (k := 0) (fb := b_clip) F sc_clip fun cdv A_ outer s_ H E hr => ?_, g, F.kp, bb, F⟩
  have hu : (A_.deeper (envOfC "_clip" (defScope s_clip) s_.heap.objs.size f cdv)).units + 64 < cLine := hr.units
  exact (rss_one (rs_ret (re_callB (fun ha => pe_callB (call_minA rfl) rfl B.b_min boot_min ha) callk_min (ra_cons (re_callB (fun ha => pe_callB (call_maxA rfl) rfl B.b_max boot_max ha) callk_max (ra_cons (re_ix (re_var (pv 1)) re_int (fun _ _ => rfl)) (ra_cons (re_ix (re_var (pv 0)) re_int (fun _ _ => rfl)) ra_nil))) (ra_cons (re_ix (re_var (pv 0)) re_int (fun _ _ => rfl)) ra_nil)))))
/-! #### _from -/
abbrev s_from : Stmt := topS 25
theorem sc_from : FnScope ["rule", "worths"] ["rule", "worths"] (defScope s_from) := ⟨rfl, rfl, rfl, by decide +kernel, rfl, by decide +kernel, by decide +kernel⟩
theorem cal_from {f : Addr} {fd : FuncData} {A : Ad} (F : Fun K "_from" "_from" s_from f fd) (g : mg "_from" = some (.ref f)) (B : Bl mg) (Cs : Cns K W_ mg A) : Cal P W_ K mg base 1 "_from" ["rule", "worths"] s_from (f_from) := by
  have bb := F.binds (ps := ["rule", "worths"]) fun _ _ _ _ _ _ us hl => match us, hl with | [_, _], _ => rfl
  refine ⟨f, fd, fn_sv (N := ["rule", "worths"]) (ps := ["rule", "worths"]) (k := 0) (fb := b_from) F sc_from fun cdv A_ outer s_ H E hr => ?_, g, F.kp, bb, F⟩
  have hu : (A_.deeper (envOfC "_from" (defScope s_from) s_.heap.objs.size f cdv)).units + 64 < cLine := hr.units
  exact (rss_one (rs_ret (re_callB (fun ha => pe_callB (call_maxA rfl) rfl B.b_max boot_max ha) callk_max (ra_cons (re_op op_sub opk_sub (re_ix (re_var (pv 0)) re_int (fun _ _ => rfl)) (re_ix (re_var (pv 1)) re_int (fun _ _ => rfl))) (ra_cons re_int ra_nil)))))
/-! #### _bar -/
abbrev s_bar : Stmt := topS 26
theorem sc_bar : FnScope ["rule", "worths"] ["rule", "worths"] (defScope s_bar) := ⟨rfl, rfl, rfl, by decide +kernel, rfl, by decide +kernel, by decide +kernel⟩
theorem cal_bar {f : Addr} {fd : FuncData} {A : Ad} (F : Fun K "_bar" "_bar" s_bar f fd) (g : mg "_bar" = some (.ref f)) (B : Bl mg) (Cs : Cns K W_ mg A) : Cal P W_ K mg base 1 "_bar" ["rule", "worths"] s_bar (f_bar) := by
  have bb := F.binds (ps := ["rule", "worths"]) fun _ _ _ _ _ _ us hl => match us, hl with | [_, _], _ => rfl
  refine ⟨f, fd, fn_sv (N := ["rule", "worths"]) (ps := ["rule", "worths"]) (k := 0) (fb := b_bar) F sc_bar fun cdv A_ outer s_ H E hr => ?_, g, F.kp, bb, F⟩
  have hu : (A_.deeper (envOfC "_bar" (defScope s_bar) s_.heap.objs.size f cdv)).units + 64 < cLine := hr.units
  exact (rss_one (rs_ret (re_if (rt_cmp op_ge opk_ge (re_ix (re_var (pv 1)) re_int (fun _ _ => rfl)) (re_ix (re_var (pv 0)) re_int (fun _ _ => rfl)) (nomark _)) (re_ix (re_var (pv 0)) re_int (fun _ _ => rfl)) (re_ix (re_var (pv 0)) re_int (fun _ _ => rfl)))))
/-! #### _row -/
abbrev s_row : Stmt := topS 27
theorem sc_row : FnScope ["rule", "worths"] ["rule", "worths"] (defScope s_row) := ⟨rfl, rfl, rfl, by decide +kernel, rfl, by decide +kernel, by decide +kernel⟩
theorem cal_row {f : Addr} {fd : FuncData} {A : Ad} (F : Fun K "_row" "_row" s_row f fd) (g : mg "_row" = some (.ref f)) (B : Bl mg) (Cs : Cns K W_ mg A) : Cal P W_ K mg base 1 "_row" ["rule", "worths"] s_row (f_row) := by
  have bb := F.binds (ps := ["rule", "worths"]) fun _ _ _ _ _ _ us hl => match us, hl with | [_, _], _ => rfl
  refine ⟨f, fd, fn_sv (N := ["rule", "worths"]) (ps := ["rule", "worths"]) (k := 0) (fb := b_row) F sc_row fun cdv A_ outer s_ H E hr => ?_, g, F.kp, bb, F⟩
  have hu : (A_.deeper (envOfC "_row" (defScope s_row) s_.heap.objs.size f cdv)).units + 64 < cLine := hr.units
  exact (rss_one (rs_ret (re_ix (re_ix (re_var (pv 0)) re_int (fun _ _ => rfl)) (re_callB (fun ha => pe_callB (call_minA rfl) rfl B.b_min boot_min ha) callk_min (ra_cons (re_ix (re_var (pv 1)) re_int (fun _ _ => rfl)) (ra_cons (re_op op_sub opk_sub (re_callB (fun ha => pe_callB call_lenA rfl B.b_len boot_len ha) callk_len (ra_cons (re_ix (re_var (pv 0)) re_int (fun _ _ => rfl)) ra_nil)) re_int) ra_nil))) (fun _ _ => rfl))))
/-! #### told_of -/
abbrev s_told_of : Stmt := topS 29
theorem sc_told_of : FnScope ["rule", "worths", "tell"] ["rule", "worths"] (defScope s_told_of) := ⟨rfl, rfl, rfl, by decide +kernel, rfl, by decide +kernel, by decide +kernel⟩
theorem cal_told_of {f : Addr} {fd : FuncData} {A : Ad} (F : Fun K "told_of" "told_of" s_told_of f fd) (g : mg "told_of" = some (.ref f)) (B : Bl mg) (Cs : Cns K W_ mg A) (T : Tbl P W_ K mg base 1 2 (tbl A)) : Cal P W_ K mg base 2 "told_of" ["rule", "worths"] s_told_of (f_told_of A) := by
  have bb := F.binds (ps := ["rule", "worths"]) fun _ _ _ _ _ _ us hl => match us, hl with | [_, _], _ => rfl
  refine ⟨f, fd, fn_sv (N := ["rule", "worths", "tell"]) (ps := ["rule", "worths"]) (k := 1) (fb := b_told_of A) F sc_told_of fun cdv A_ outer s_ H E hr => ?_, g, F.kp, bb, F⟩
  have hu : (A_.deeper (envOfC "told_of" (defScope s_told_of) s_.heap.objs.size f cdv)).units + 64 < cLine := hr.units
  exact (rss_cons (rs_set (i := 2) sc_told_of.nd rfl (by first | exact Or.inl rfl | exact Or.inr rfl) (re_ixKd Cs.e_TELLING rfl (re_ix (re_var (pv 0)) re_int (fun _ _ => rfl)) (fun _ _ => rfl)))
  (rss_one (rs_ret (re_callL (i := 2) T (hr.mono (by decide)) rfl (by first | exact Or.inl rfl | exact Or.inr (Or.inl rfl) | exact Or.inr (Or.inr rfl)) (ra_cons (re_var (pv 0)) (ra_cons (re_var (pv 1)) ra_nil)) (al_cons (al_cons al_nil))))))
/-! #### _told_from -/
abbrev s_told_from : Stmt := topS 30
theorem sc_told_from : FnScope ["rule", "heard", "at", "word", "worths", "part", "worth"] ["rule", "heard", "at"] (defScope s_told_from) := ⟨rfl, rfl, rfl, by decide +kernel, rfl, by decide +kernel, by decide +kernel⟩
theorem cal_told_from {f : Addr} {fd : FuncData} {A : Ad} (F : Fun K "_told_from" "_told_from" s_told_from f fd) (g : mg "_told_from" = some (.ref f)) (B : Bl mg) (Cs : Cns K W_ mg A) (C_inner_rules : Cal P W_ K mg base 1 "inner_rules" ["rule"] s_inner_rules f_inner_rules) (C_told_of : Cal P W_ K mg base 2 "told_of" ["rule", "worths"] s_told_of (f_told_of A)) (n : Nat) : Cal P W_ K mg base (3 + n) "_told_from" ["rule", "heard", "at"] s_told_from (f_told_from A n) := by
  have bb := F.binds (ps := ["rule", "heard", "at"]) fun _ _ _ _ _ _ us hl => match us, hl with | [_, _, _], _ => rfl
  induction n with
  | zero => exact ⟨f, fd, fn_bad F sc_told_from, g, F.kp, bb, F⟩
  | succ n G =>
    refine ⟨f, fd, fn_sv (N := ["rule", "heard", "at", "word", "worths", "part", "worth"]) (ps := ["rule", "heard", "at"]) (k := 3 + n) (fb := b_told_from A (f_told_from A n)) F sc_told_from fun cdv A_ outer s_ H E hr => ?_, g, F.kp, bb, F⟩
    have hu : (A_.deeper (envOfC "_told_from" (defScope s_told_from) s_.heap.objs.size f cdv)).units + 64 < cLine := hr.units
    have hr0 := hr
    exact (rss_cons (rs_set (i := 3) sc_told_from.nd rfl (by first | exact Or.inl rfl | exact Or.inr rfl) (re_ix (re_var (pv 0)) re_int (fun _ _ => rfl)))
  (rss_cons (rs_if (rt_cmp (op_eqD hu) opk_eq (re_var (pv 3)) re_str (nomark _)) (rss_one (rs_ret (re_tup (ra_cons (re_ix (re_var (pv 0)) re_int (fun _ _ => rfl)) (ra_cons (re_var (pv 2)) ra_nil))))) rss_nil)
  (rss_cons (rs_if (rt_cmp (op_eqD hu) opk_eq (re_var (pv 3)) re_str (nomark _)) (rss_one (rs_ret (re_tup (ra_cons (re_ix (re_var (pv 1)) (re_var (pv 2)) (fun _ _ => rfl)) (ra_cons (re_op op_addAll opk_add (re_var (pv 2)) re_int) ra_nil))))) rss_nil)
  (rss_cons (rs_set (i := 4) sc_told_from.nd rfl (by first | exact Or.inl rfl | exact Or.inr rfl) (re_lst false ra_nil))
  (rss_cons (rs_for PassesOwn.never rfl (ri_seq (re_callC C_inner_rules (hr0.mono (by omega)) rfl (ra_cons (re_var (pv 0)) ra_nil) (al_cons al_nil))) (rg_nm (i := 5) sc_told_from.nd rfl (by first | exact Or.inl rfl | exact Or.inr rfl)) (rss_cons (rs_asg (re_callC G hr rfl (ra_cons (re_var (pv 5)) (ra_cons (re_var (pv 1)) (ra_cons (re_var (pv 2)) ra_nil))) (al_cons (al_cons (al_cons al_nil)))) (rg_tp rfl (rgs_cons (rg_nm (i := 6) sc_told_from.nd rfl (by first | exact Or.inl rfl | exact Or.inr rfl)) (rgs_cons (rg_nm (i := 2) sc_told_from.nd rfl (by first | exact Or.inl rfl | exact Or.inr rfl)) rgs_nil))))
  (rss_one (rs_expr (re_mt (fun ho ha => pe_bm PySem.F.plainAttrs_list PySem.F.slot_list_append PySem.F.type_list_append mt_append ho ha) mtk_append (re_var (pv 4)) (ra_cons (re_var (pv 6)) ra_nil))))))
  (rss_one (rs_ret (re_tup (ra_cons (re_callC C_told_of (hr0.mono (by omega)) rfl (ra_cons (re_var (pv 0)) (ra_cons (re_var (pv 4)) ra_nil)) (al_cons (al_cons al_nil))) (ra_cons (re_var (pv 2)) ra_nil))))))))))
/-! #### told -/
abbrev s_told : Stmt := topS 31
theorem sc_told : FnScope ["rule", "heard"] ["rule", "heard"] (defScope s_told) := ⟨rfl, rfl, rfl, by decide +kernel, rfl, by decide +kernel, by decide +kernel⟩
theorem cal_told {f : Addr} {fd : FuncData} {A : Ad} (F : Fun K "told" "told" s_told f fd) (g : mg "told" = some (.ref f)) (B : Bl mg) (Cs : Cns K W_ mg A) (C_told_from : Cal P W_ K mg base 13 "_told_from" ["rule", "heard", "at"] s_told_from (f_told_from A 10)) : Cal P W_ K mg base 14 "told" ["rule", "heard"] s_told (f_told A) := by
  have bb := F.binds (ps := ["rule", "heard"]) fun _ _ _ _ _ _ us hl => match us, hl with | [_, _], _ => rfl
  refine ⟨f, fd, fn_sv (N := ["rule", "heard"]) (ps := ["rule", "heard"]) (k := 13) (fb := b_told A) F sc_told fun cdv A_ outer s_ H E hr => ?_, g, F.kp, bb, F⟩
  have hu : (A_.deeper (envOfC "told" (defScope s_told) s_.heap.objs.size f cdv)).units + 64 < cLine := hr.units
  exact (rss_one (rs_ret (re_ix (re_callC C_told_from (hr.mono (by decide)) rfl (ra_cons (re_var (pv 0)) (ra_cons (re_var (pv 1)) (ra_cons re_int ra_nil))) (al_cons (al_cons (al_cons al_nil)))) re_int (fun _ _ => rfl))))
/-! #### _law_draw -/
abbrev s_law_draw : Stmt := topS 33
theorem sc_law_draw : FnScope ["script", "salt", "cell", "cells", "blend"] ["script", "salt"] (defScope s_law_draw) := ⟨rfl, rfl, rfl, by decide +kernel, rfl, by decide +kernel, by decide +kernel⟩
theorem cal_law_draw {f : Addr} {fd : FuncData} {A : Ad} (F : Fun K "_law_draw" "_law_draw" s_law_draw f fd) (g : mg "_law_draw" = some (.ref f)) (B : Bl mg) (Cs : Cns K W_ mg A) : Cal P W_ K mg base 1 "_law_draw" ["script", "salt"] s_law_draw (f_law_draw) := by
  have bb := F.binds (ps := ["script", "salt"]) fun _ _ _ _ _ _ us hl => match us, hl with | [_, _], _ => rfl
  refine ⟨f, fd, fn_svK (N := ["script", "salt", "cell", "cells", "blend"]) (ps := ["script", "salt"]) (k := 0) (fb := b_law_draw) F sc_law_draw fun cdv A_ outer s_ H E hr => ?_, g, F.kp, bb, F⟩
  have hu : (A_.deeper (envOfC "_law_draw" (defScope s_law_draw) s_.heap.objs.size f cdv)).units + 64 < cLine := hr.units
  exact (rss_cons (rs_setLc (i := 3) (own := [("cell", 2)]) (t := (.one 2)) rfl sc_law_draw.nd rfl rfl (sw_true rfl rfl rfl (by decide +kernel)) (ri_seq (re_sl true (re_var (pv 0)) ro_none (ro_some re_int))) (blkOk_by (N := ["script", "salt", "cell", "cells", "blend"]) (sc := defScope s_law_draw) (by decide +kernel)) (by decide) (fun _ _ _ _ _ => pg_name (i := 2) sc_law_draw.nd rfl (by first | exact Or.inl rfl | exact Or.inr rfl)) (fun _ _ _ _ _ => rts_nil) (fun _ _ _ _ _ => (re_callB (fun ha => pe_callB call_abs rfl B.b_abs boot_abs ha) callk_abs (ra_cons (re_callB (fun ha => pe_callTy call_int1 rfl B.b_int boot_int ha) callk_int (ra_cons (re_var (pv 2)) ra_nil)) ra_nil))))
  (rss_cons (rs_set (i := 4) sc_law_draw.nd rfl (by first | exact Or.inl rfl | exact Or.inr rfl) (re_op op_addAll opk_add re_int (re_op op_mulAll opk_mul re_int (re_var (pv 1)))))
  (rss_cons (rs_for PassesOwn.never rfl (ri_seq (re_var (pv 3))) (rg_nm (i := 2) sc_law_draw.nd rfl (by first | exact Or.inl rfl | exact Or.inr rfl)) (rss_one (rs_set (i := 4) sc_law_draw.nd rfl (by first | exact Or.inl rfl | exact Or.inr rfl) (re_op op_mod opk_mod (re_callB (fun ha => pe_callTy call_int1 rfl B.b_int boot_int ha) callk_int (ra_cons (re_op op_addAll opk_add (re_op op_addAll opk_add (re_op op_mulAll opk_mul (re_var (pv 4)) re_int) (re_op op_mod opk_mod (re_var (pv 2)) re_int)) re_int) ra_nil)) re_int))))
  (rss_one (rs_ret (re_lst false (ra_cons (re_rev false (re_lc (own := [("cell", 2)]) (t := (.one 2)) rfl sc_law_draw.nd (ri_seq (re_var (pv 3))) (blkOk_by (N := ["script", "salt", "cell", "cells", "blend"]) (sc := defScope s_law_draw) (by decide +kernel)) (by decide) (fun _ _ _ _ _ => pg_name (i := 2) sc_law_draw.nd rfl (by first | exact Or.inl rfl | exact Or.inr rfl)) (fun _ _ _ _ _ => (rts_one (rt_cmp op_ge opk_ge (re_var (pv 2)) (re_op op_pow opk_pow re_int re_int) (nomark _)))) (fun _ _ _ _ _ => (re_var (pv 2))))) (ra_cons (re_var (pv 4)) ra_nil))))))))
/-! #### _law_any -/
abbrev s_law_any : Stmt := topS 34
theorem sc_law_any : FnScope ["deal", "bound", "rest"] ["deal", "bound"] (defScope s_law_any) := ⟨rfl, rfl, rfl, by decide +kernel, rfl, by decide +kernel, by decide +kernel⟩
theorem cal_law_any {f : Addr} {fd : FuncData} {A : Ad} (F : Fun K "_law_any" "_law_any" s_law_any f fd) (g : mg "_law_any" = some (.ref f)) (B : Bl mg) (Cs : Cns K W_ mg A) : Cal P W_ K mg base 1 "_law_any" ["deal", "bound"] s_law_any (f_law_any) := by
  have bb := F.binds (ps := ["deal", "bound"]) fun _ _ _ _ _ _ us hl => match us, hl with | [_, _], _ => rfl
  refine ⟨f, fd, fn_sv (N := ["deal", "bound", "rest"]) (ps := ["deal", "bound"]) (k := 0) (fb := b_law_any) F sc_law_any fun cdv A_ outer s_ H E hr => ?_, g, F.kp, bb, F⟩
  have hu : (A_.deeper (envOfC "_law_any" (defScope s_law_any) s_.heap.objs.size f cdv)).units + 64 < cLine := hr.units
  exact (rss_cons (rs_while PassesOwn.never (PW.pt (rw_and (rt_cmp (op_neD hu) opk_ne (re_ix (re_var (pv 0)) re_int (fun _ _ => rfl)) (re_lst true ra_nil) (nomark _)) (rw_and1 (rt_cmp (op_eqD hu) opk_eq (re_ix (re_ix (re_var (pv 0)) re_int (fun _ _ => rfl)) (re_un un_neg unk_neg re_int) (fun _ _ => rfl)) re_int (nomark _))))) (rss_one (rs_expr (re_mt0 (fun ho => pe_bm0 PySem.F.plainAttrs_list PySem.F.slot_list_pop PySem.F.type_list_pop mt_pop ho) mtk_pop (re_ix (re_var (pv 0)) re_int (fun _ _ => rfl))))))
  (rss_cons (rs_if (rt_cmp (op_neD hu) opk_ne (re_ix (re_var (pv 0)) re_int (fun _ _ => rfl)) (re_lst true ra_nil) (nomark _)) (rss_cons (rs_set (i := 2) sc_law_any.nd rfl (by first | exact Or.inl rfl | exact Or.inr rfl) (re_callB (fun ha => pe_callTy call_int1 rfl B.b_int boot_int ha) callk_int (ra_cons (re_mt0 (fun ho => pe_bm0 PySem.F.plainAttrs_list PySem.F.slot_list_pop PySem.F.type_list_pop mt_pop ho) mtk_pop (re_ix (re_var (pv 0)) re_int (fun _ _ => rfl))) ra_nil)))
  (rss_cons (rs_expr (re_mt (fun ho ha => pe_bm PySem.F.plainAttrs_list PySem.F.slot_list_append PySem.F.type_list_append mt_append ho ha) mtk_append (re_ix (re_var (pv 0)) re_int (fun _ _ => rfl)) (ra_cons (re_op op_fdiv opk_div (re_var (pv 2)) (re_var (pv 1))) ra_nil)))
  (rss_one (rs_ret (re_op op_mod opk_mod (re_var (pv 2)) (re_var (pv 1))))))) rss_nil)
  (rss_cons (rs_asg (re_op op_mod opk_mod (re_callB (fun ha => pe_callTy call_int1 rfl B.b_int boot_int ha) callk_int (ra_cons (re_op op_addAll opk_add (re_op op_mulAll opk_mul (re_ix (re_var (pv 0)) re_int (fun _ _ => rfl)) re_int) re_int) ra_nil)) re_int) (rg_sb (re_var (pv 0)) re_int))
  (rss_one (rs_ret (re_op op_mod opk_mod (re_callB (fun ha => pe_callTy call_int1 rfl B.b_int boot_int ha) callk_int (ra_cons (re_op op_fdiv opk_div (re_ix (re_var (pv 0)) re_int (fun _ _ => rfl)) re_int) ra_nil)) (re_var (pv 1))))))))
/-! #### _law_of -/
abbrev s_law_of : Stmt := topS 35
theorem sc_law_of : FnScope ["deal", "some"] ["deal", "some"] (defScope s_law_of) := ⟨rfl, rfl, rfl, by decide +kernel, rfl, by decide +kernel, by decide +kernel⟩
theorem cal_law_of {f : Addr} {fd : FuncData} {A : Ad} (F : Fun K "_law_of" "_law_of" s_law_of f fd) (g : mg "_law_of" = some (.ref f)) (B : Bl mg) (Cs : Cns K W_ mg A) (C_law_any : Cal P W_ K mg base 1 "_law_any" ["deal", "bound"] s_law_any f_law_any) : Cal P W_ K mg base 2 "_law_of" ["deal", "some"] s_law_of (f_law_of) := by
  have bb := F.binds (ps := ["deal", "some"]) fun _ _ _ _ _ _ us hl => match us, hl with | [_, _], _ => rfl
  refine ⟨f, fd, fn_sv (N := ["deal", "some"]) (ps := ["deal", "some"]) (k := 1) (fb := b_law_of) F sc_law_of fun cdv A_ outer s_ H E hr => ?_, g, F.kp, bb, F⟩
  have hu : (A_.deeper (envOfC "_law_of" (defScope s_law_of) s_.heap.objs.size f cdv)).units + 64 < cLine := hr.units
  exact (rss_one (rs_ret (re_ix (re_var (pv 1)) (re_callC C_law_any (hr.mono (by decide)) rfl (ra_cons (re_var (pv 0)) (ra_cons (re_callB (fun ha => pe_callB call_lenA rfl B.b_len boot_len ha) callk_len (ra_cons (re_var (pv 1)) ra_nil)) ra_nil)) (al_cons (al_cons al_nil))) (fun _ _ => rfl))))
/-! #### _law_mixed -/
abbrev s_law_mixed : Stmt := topS 36
theorem sc_law_mixed : FnScope ["deal", "some", "left", "found"] ["deal", "some"] (defScope s_law_mixed) := ⟨rfl, rfl, rfl, by decide +kernel, rfl, by decide +kernel, by decide +kernel⟩
theorem cal_law_mixed {f : Addr} {fd : FuncData} {A : Ad} (F : Fun K "_law_mixed" "_law_mixed" s_law_mixed f fd) (g : mg "_law_mixed" = some (.ref f)) (B : Bl mg) (Cs : Cns K W_ mg A) (C_law_any : Cal P W_ K mg base 1 "_law_any" ["deal", "bound"] s_law_any f_law_any) : Cal P W_ K mg base 2 "_law_mixed" ["deal", "some"] s_law_mixed (f_law_mixed) := by
  have bb := F.binds (ps := ["deal", "some"]) fun _ _ _ _ _ _ us hl => match us, hl with | [_, _], _ => rfl
  refine ⟨f, fd, fn_sv (N := ["deal", "some", "left", "found"]) (ps := ["deal", "some"]) (k := 1) (fb := b_law_mixed) F sc_law_mixed fun cdv A_ outer s_ H E hr => ?_, g, F.kp, bb, F⟩
  have hu : (A_.deeper (envOfC "_law_mixed" (defScope s_law_mixed) s_.heap.objs.size f cdv)).units + 64 < cLine := hr.units
  exact (rss_cons (rs_par (i := 2) (j := 3) rfl sc_law_mixed.nd rfl rfl (by decide) rfl rfl (ra_cons (re_callB (fun ha => pe_callTy call_list_of rfl B.b_list boot_list ha) (callk_list false) (ra_cons (re_var (pv 1)) ra_nil)) (ra_cons (re_lst false ra_nil) ra_nil)) rfl)
  (rss_cons (rs_while PassesOwn.never (rt_cmp (op_neD hu) opk_ne (re_var (pv 2)) (re_lst true ra_nil) (nomark _)) (rss_one (rs_expr (re_mt (fun ho ha => pe_bm PySem.F.plainAttrs_list PySem.F.slot_list_append PySem.F.type_list_append mt_append ho ha) mtk_append (re_var (pv 3)) (ra_cons (re_mt (fun ho ha => pe_bm PySem.F.plainAttrs_list PySem.F.slot_list_pop PySem.F.type_list_pop mt_popAt ho ha) mtk_popAt (re_var (pv 2)) (ra_cons (re_callC C_law_any (hr.mono (by decide)) rfl (ra_cons (re_var (pv 0)) (ra_cons (re_callB (fun ha => pe_callB call_lenA rfl B.b_len boot_len ha) callk_len (ra_cons (re_var (pv 2)) ra_nil)) ra_nil)) (al_cons (al_cons al_nil))) ra_nil)) ra_nil)))))
  (rss_one (rs_ret (re_var (pv 3))))))
/-! #### _law_rule -/
abbrev s_law_rule_k01 : Stmt := topS 37
theorem sc_law_rule_k01 : FnScope ["deal", "n", "top", "deep", "any_row", "form", "turn", "parts", "inner", "low", "row"] ["deal", "n", "top", "deep", "any_row"] (defScope s_law_rule_k01) := ⟨rfl, rfl, rfl, by decide +kernel, rfl, by decide +kernel, by decide +kernel⟩
theorem cal_law_rule_k01 {f : Addr} {fd : FuncData} {A : Ad} (F : Fun K "_law_rule" "_law_rule" s_law_rule_k01 f fd) (g : mg "_law_rule" = some (.ref f)) (B : Bl mg) (Cs : Cns K W_ mg A) (C_law_any : Cal P W_ K mg base 1 "_law_any" ["deal", "bound"] s_law_any f_law_any) (C_law_of : Cal P W_ K mg base 2 "_law_of" ["deal", "some"] s_law_of f_law_of) (n : Nat) : Cal P W_ K mg base (3 + n) "_law_rule" ["deal", "n", "top", "deep", "any_row"] s_law_rule_k01 (f_law_rule_k01 n) := by
  have bb := F.binds (ps := ["deal", "n", "top", "deep", "any_row"]) fun _ _ _ _ _ _ us hl => match us, hl with | [_, _, _, _, _], _ => rfl
  induction n with
  | zero => exact ⟨f, fd, fn_bad F sc_law_rule_k01, g, F.kp, bb, F⟩
  | succ n G =>
    refine ⟨f, fd, fn_sv (N := ["deal", "n", "top", "deep", "any_row", "form", "turn", "parts", "inner", "low", "row"]) (ps := ["deal", "n", "top", "deep", "any_row"]) (k := 3 + n) (fb := b_law_rule_k01 (f_law_rule_k01 n)) F sc_law_rule_k01 fun cdv A_ outer s_ H E hr => ?_, g, F.kp, bb, F⟩
    have hu : (A_.deeper (envOfC "_law_rule" (defScope s_law_rule_k01) s_.heap.objs.size f cdv)).units + 64 < cLine := hr.units
    have hr0 := hr
    exact (rss_cons (rs_set (i := 5) sc_law_rule_k01.nd rfl (by first | exact Or.inl rfl | exact Or.inr rfl) (re_if (rt_cmp op_gt opk_gt (re_var (pv 3)) re_int (nomark _)) (re_callC C_law_any (hr0.mono (by omega)) rfl (ra_cons (re_var (pv 0)) (ra_cons re_int ra_nil)) (al_cons (al_cons al_nil))) (re_callC C_law_any (hr0.mono (by omega)) rfl (ra_cons (re_var (pv 0)) (ra_cons re_int ra_nil)) (al_cons (al_cons al_nil)))))
  (rss_cons (rs_if (rt_cmp (op_eqD hu) opk_eq (re_var (pv 5)) re_int (nomark _)) (rss_one (rs_ret (re_tup (ra_cons re_str (ra_cons (re_callC C_law_any (hr0.mono (by omega)) rfl (ra_cons (re_var (pv 0)) (ra_cons (re_op op_addAll opk_add (re_var (pv 2)) re_int) ra_nil)) (al_cons (al_cons al_nil))) ra_nil))))) rss_nil)
  (rss_cons (rs_if (rt_cmp op_lt opk_lt (re_var (pv 5)) re_int (nomark _)) (rss_one (rs_ret (re_tup (ra_cons re_str (ra_cons (re_callC C_law_any (hr0.mono (by omega)) rfl (ra_cons (re_var (pv 0)) (ra_cons (re_var (pv 1)) ra_nil)) (al_cons (al_cons al_nil))) ra_nil))))) rss_nil)
  (rss_cons (rs_if (rt_cmp op_lt opk_lt (re_var (pv 5)) re_int (nomark _)) (rss_cons (rs_set (i := 7) sc_law_rule_k01.nd rfl (by first | exact Or.inl rfl | exact Or.inr rfl) (re_callB (fun ha => pe_callTy call_tuple_of rfl B.b_tuple boot_tuple ha) callk_tuple (ra_cons (re_lc (own := [("turn", 6)]) (t := (.one 6)) rfl sc_law_rule_k01.nd (ri_range1 rfl B.b_range (ra_cons (re_op op_addAll opk_add re_int (re_callC C_law_any (hr0.mono (by omega)) rfl (ra_cons (re_var (pv 0)) (ra_cons re_int ra_nil)) (al_cons (al_cons al_nil)))) ra_nil)) (blkOk_by (N := ["deal", "n", "top", "deep", "any_row", "form", "turn", "parts", "inner", "low", "row"]) (sc := defScope s_law_rule_k01) (by decide +kernel)) (by decide) (fun _ _ _ _ _ => pg_name (i := 6) sc_law_rule_k01.nd rfl (by first | exact Or.inl rfl | exact Or.inr rfl)) (fun _ _ _ _ _ => rts_nil) (fun _ _ _ _ _ => (re_callC G hr rfl (ra_cons (re_var (pv 0)) (ra_cons (re_var (pv 1)) (ra_cons (re_var (pv 2)) (ra_cons (re_op op_sub opk_sub (re_var (pv 3)) re_int) (ra_cons (re_var (pv 4)) ra_nil))))) (al_cons (al_cons (al_cons (al_cons (al_cons al_nil)))))))) ra_nil)))
  (rss_one (rs_ret (re_tup (ra_cons (re_callC C_law_of (hr0.mono (by omega)) rfl (ra_cons (re_var (pv 0)) (ra_cons (re_lst true (ra_cons re_str (ra_cons re_str (ra_cons re_str ra_nil)))) ra_nil)) (al_cons (al_cons al_nil))) (ra_cons (re_var (pv 7)) ra_nil)))))) rss_nil)
  (rss_cons (rs_if (PW.pt (rw_and (rt_cmp (op_eqD hu) opk_eq (re_var (pv 5)) re_int (nomark _)) (rw_and1 (rt_cmp (op_eqD hu) opk_eq (re_var (pv 3)) re_int (nomark _))))) (rss_one (rs_ret (re_op op_addAll opk_add (re_tup (ra_cons re_str ra_nil)) (re_callB (fun ha => pe_callTy call_tuple_of rfl B.b_tuple boot_tuple ha) callk_tuple (ra_cons (re_lc (own := [("turn", 6)]) (t := (.one 6)) rfl sc_law_rule_k01.nd (ri_range1 rfl B.b_range (ra_cons re_int ra_nil)) (blkOk_by (N := ["deal", "n", "top", "deep", "any_row", "form", "turn", "parts", "inner", "low", "row"]) (sc := defScope s_law_rule_k01) (by decide +kernel)) (by decide) (fun _ _ _ _ _ => pg_name (i := 6) sc_law_rule_k01.nd rfl (by first | exact Or.inl rfl | exact Or.inr rfl)) (fun _ _ _ _ _ => rts_nil) (fun _ _ _ _ _ => (re_callC G hr rfl (ra_cons (re_var (pv 0)) (ra_cons (re_var (pv 1)) (ra_cons (re_var (pv 2)) (ra_cons re_int (ra_cons (re_var (pv 4)) ra_nil))))) (al_cons (al_cons (al_cons (al_cons (al_cons al_nil)))))))) ra_nil))))) rss_nil)
  (rss_cons (rs_set (i := 8) sc_law_rule_k01.nd rfl (by first | exact Or.inl rfl | exact Or.inr rfl) (re_callC G hr rfl (ra_cons (re_var (pv 0)) (ra_cons (re_var (pv 1)) (ra_cons (re_var (pv 2)) (ra_cons (re_op op_sub opk_sub (re_var (pv 3)) re_int) (ra_cons (re_var (pv 4)) ra_nil))))) (al_cons (al_cons (al_cons (al_cons (al_cons al_nil)))))))
  (rss_cons (rs_if (rt_cmp (op_eqD hu) opk_eq (re_var (pv 5)) re_int (nomark _)) (rss_one (rs_ret (re_tup (ra_cons re_str (ra_cons (re_callC C_law_any (hr0.mono (by omega)) rfl (ra_cons (re_var (pv 0)) (ra_cons re_int ra_nil)) (al_cons (al_cons al_nil))) (ra_cons (re_var (pv 8)) ra_nil)))))) rss_nil)
  (rss_cons (rs_if (rt_cmp (op_eqD hu) opk_eq (re_var (pv 5)) re_int (nomark _)) (rss_one (rs_ret (re_tup (ra_cons re_str (ra_cons (re_op op_addAll opk_add re_int (re_callC C_law_any (hr0.mono (by omega)) rfl (ra_cons (re_var (pv 0)) (ra_cons re_int ra_nil)) (al_cons (al_cons al_nil)))) (ra_cons (re_var (pv 8)) ra_nil)))))) rss_nil)
  (rss_cons (rs_if (rt_cmp (op_eqD hu) opk_eq (re_var (pv 5)) re_int (nomark _)) (rss_cons (rs_set (i := 9) sc_law_rule_k01.nd rfl (by first | exact Or.inl rfl | exact Or.inr rfl) (re_callC C_law_any (hr0.mono (by omega)) rfl (ra_cons (re_var (pv 0)) (ra_cons (re_op op_addAll opk_add (re_var (pv 2)) re_int) ra_nil)) (al_cons (al_cons al_nil))))
  (rss_one (rs_ret (re_tup (ra_cons re_str (ra_cons (re_var (pv 9)) (ra_cons (re_op op_addAll opk_add (re_var (pv 9)) (re_callC C_law_any (hr0.mono (by omega)) rfl (ra_cons (re_var (pv 0)) (ra_cons re_int ra_nil)) (al_cons (al_cons al_nil)))) (ra_cons (re_var (pv 8)) ra_nil)))))))) rss_nil)
  (rss_cons (rs_if (rt_cmp (op_eqD hu) opk_eq (re_var (pv 5)) re_int (nomark _)) (rss_one (rs_ret (re_tup (ra_cons re_str (ra_cons (re_callC C_law_any (hr0.mono (by omega)) rfl (ra_cons (re_var (pv 0)) (ra_cons (re_op op_addAll opk_add (re_var (pv 2)) re_int) ra_nil)) (al_cons (al_cons al_nil))) (ra_cons (re_callC C_law_any (hr0.mono (by omega)) rfl (ra_cons (re_var (pv 0)) (ra_cons (re_op op_addAll opk_add (re_var (pv 2)) re_int) ra_nil)) (al_cons (al_cons al_nil))) (ra_cons (re_callC C_law_any (hr0.mono (by omega)) rfl (ra_cons (re_var (pv 0)) (ra_cons (re_op op_addAll opk_add (re_var (pv 2)) re_int) ra_nil)) (al_cons (al_cons al_nil))) (ra_cons (re_var (pv 8)) ra_nil)))))))) rss_nil)
  (rss_cons (rs_if (rt_cmp (op_eqD hu) opk_eq (re_var (pv 5)) re_int (nomark _)) (rss_cons (rs_setLc (i := 10) (own := [("turn", 6)]) (t := (.one 6)) rfl sc_law_rule_k01.nd rfl rfl (sw_true rfl rfl rfl (by decide +kernel)) (ri_range1 rfl B.b_range (ra_cons (re_op op_addAll opk_add re_int (re_callC C_law_any (hr0.mono (by omega)) rfl (ra_cons (re_var (pv 0)) (ra_cons (re_callB (fun ha => pe_callB (call_minA rfl) rfl B.b_min boot_min ha) callk_min (ra_cons (re_op op_addAll opk_add (re_var (pv 2)) re_int) (ra_cons re_int ra_nil))) ra_nil)) (al_cons (al_cons al_nil)))) ra_nil)) (blkOk_by (N := ["deal", "n", "top", "deep", "any_row", "form", "turn", "parts", "inner", "low", "row"]) (sc := defScope s_law_rule_k01) (by decide +kernel)) (by decide) (fun _ _ _ _ _ => pg_name (i := 6) sc_law_rule_k01.nd rfl (by first | exact Or.inl rfl | exact Or.inr rfl)) (fun _ _ _ _ _ => rts_nil) (fun _ _ _ _ _ => (re_callC C_law_any (hr0.mono (by omega)) rfl (ra_cons (re_var (pv 0)) (ra_cons (re_op op_addAll opk_add (re_var (pv 2)) re_int) ra_nil)) (al_cons (al_cons al_nil)))))
  (rss_one (rs_ret (re_tup (ra_cons re_str (ra_cons (re_callB (fun ha => pe_callTy call_tuple_of rfl B.b_tuple boot_tuple ha) callk_tuple (ra_cons (re_if (rt_tru (re_var (pv 4))) (re_var (pv 10)) (re_callB (fun ha => pe_callB cr_sortedI rfl B.b_sorted boot_sorted ha) (callk_sorted true) (ra_cons (re_var (pv 10)) ra_nil))) ra_nil)) (ra_cons (re_var (pv 8)) ra_nil))))))) rss_nil)
  (rss_one (rs_ret (re_tup (ra_cons re_str (ra_cons (re_callC C_law_any (hr0.mono (by omega)) rfl (ra_cons (re_var (pv 0)) (ra_cons (re_op op_addAll opk_add (re_var (pv 2)) re_int) ra_nil)) (al_cons (al_cons al_nil))) (ra_cons (re_var (pv 8)) ra_nil)))))))))))))))))
/-! #### _law_parts -/
abbrev s_law_parts : Stmt := topS 38
theorem sc_law_parts : FnScope ["rule"] ["rule"] (defScope s_law_parts) := ⟨rfl, rfl, rfl, by decide +kernel, rfl, by decide +kernel, by decide +kernel⟩
theorem cal_law_parts {f : Addr} {fd : FuncData} {A : Ad} (F : Fun K "_law_parts" "_law_parts" s_law_parts f fd) (g : mg "_law_parts" = some (.ref f)) (B : Bl mg) (Cs : Cns K W_ mg A) : Cal P W_ K mg base 1 "_law_parts" ["rule"] s_law_parts (f_law_parts) := by
  have bb := F.binds (ps := ["rule"]) fun _ _ _ _ _ _ us hl => match us, hl with | [_], _ => rfl
  refine ⟨f, fd, fn_sv (N := ["rule"]) (ps := ["rule"]) (k := 0) (fb := b_law_parts) F sc_law_parts fun cdv A_ outer s_ H E hr => ?_, g, F.kp, bb, F⟩
  have hu : (A_.deeper (envOfC "_law_parts" (defScope s_law_parts) s_.heap.objs.size f cdv)).units + 64 < cLine := hr.units
  exact (rss_cons (rs_if (rt_cmp op_in_seq (opk_in false) (re_ix (re_var (pv 0)) re_int (fun _ _ => rfl)) (re_lst true (ra_cons re_str (ra_cons re_str ra_nil))) (by rfl)) (rss_one (rs_ret (re_lst true ra_nil))) rss_nil)
  (rss_cons (rs_if (rt_cmp op_in_seq (opk_in false) (re_ix (re_var (pv 0)) re_int (fun _ _ => rfl)) (re_lst true (ra_cons re_str (ra_cons re_str (ra_cons re_str ra_nil)))) (by rfl)) (rss_one (rs_ret (re_callB (fun ha => pe_callTy call_list_of rfl B.b_list boot_list ha) (callk_list true) (ra_cons (re_ix (re_var (pv 0)) re_int (fun _ _ => rfl)) ra_nil)))) rss_nil)
  (rss_one (rs_ret (re_if (rt_cmp (op_eqD hu) opk_eq (re_ix (re_var (pv 0)) re_int (fun _ _ => rfl)) re_str (nomark _)) (re_callB (fun ha => pe_callTy call_list_of rfl B.b_list boot_list ha) (callk_list true) (ra_cons (re_sl true (re_var (pv 0)) (ro_some re_int) ro_none) ra_nil)) (re_lst true (ra_cons (re_ix (re_var (pv 0)) (re_un un_neg unk_neg re_int) (fun _ _ => rfl)) ra_nil)))))))
/-! #### _law_branches -/
abbrev s_law_branches : Stmt := topS 39
theorem sc_law_branches : FnScope ["rule", "found", "part"] ["rule"] (defScope s_law_branches) := ⟨rfl, rfl, rfl, by decide +kernel, rfl, by decide +kernel, by decide +kernel⟩
theorem cal_law_branches {f : Addr} {fd : FuncData} {A : Ad} (F : Fun K "_law_branches" "_law_branches" s_law_branches f fd) (g : mg "_law_branches" = some (.ref f)) (B : Bl mg) (Cs : Cns K W_ mg A) (C_law_parts : Cal P W_ K mg base 1 "_law_parts" ["rule"] s_law_parts f_law_parts) (n : Nat) : Cal P W_ K mg base (2 + n) "_law_branches" ["rule"] s_law_branches (f_law_branches n) := by
  have bb := F.binds (ps := ["rule"]) fun _ _ _ _ _ _ us hl => match us, hl with | [_], _ => rfl
  induction n with
  | zero => exact ⟨f, fd, fn_bad F sc_law_branches, g, F.kp, bb, F⟩
  | succ n G =>
    refine ⟨f, fd, fn_sv (N := ["rule", "found", "part"]) (ps := ["rule"]) (k := 2 + n) (fb := b_law_branches (f_law_branches n)) F sc_law_branches fun cdv A_ outer s_ H E hr => ?_, g, F.kp, bb, F⟩
    have hu : (A_.deeper (envOfC "_law_branches" (defScope s_law_branches) s_.heap.objs.size f cdv)).units + 64 < cLine := hr.units
    have hr0 := hr
    exact (rss_cons (rs_set (i := 1) sc_law_branches.nd rfl (by first | exact Or.inl rfl | exact Or.inr rfl) (re_if (rt_cmp (op_eqD hu) opk_eq (re_ix (re_var (pv 0)) re_int (fun _ _ => rfl)) re_str (nomark _)) (re_lst true (ra_cons (re_ix (re_var (pv 0)) re_int (fun _ _ => rfl)) ra_nil)) (re_lst true ra_nil)))
  (rss_cons (rs_for PassesOwn.never rfl (ri_seq (re_callC C_law_parts (hr0.mono (by omega)) rfl (ra_cons (re_var (pv 0)) ra_nil) (al_cons al_nil))) (rg_nm (i := 2) sc_law_branches.nd rfl (by first | exact Or.inl rfl | exact Or.inr rfl)) (rss_one (rs_set (i := 1) sc_law_branches.nd rfl (by first | exact Or.inl rfl | exact Or.inr rfl) (re_op op_addAll opk_add (re_var (pv 1)) (re_callC G hr rfl (ra_cons (re_var (pv 2)) ra_nil) (al_cons al_nil))))))
  (rss_one (rs_ret (re_var (pv 1))))))
/-! #### _law_made -/
abbrev s_law_made : Stmt := topS 40
theorem sc_law_made : FnScope ["rule", "some", "word", "a"] ["rule", "some"] (defScope s_law_made) := ⟨rfl, rfl, rfl, by decide +kernel, rfl, by decide +kernel, by decide +kernel⟩
theorem cal_law_made {f : Addr} {fd : FuncData} {A : Ad} (F : Fun K "_law_made" "_law_made" s_law_made f fd) (g : mg "_law_made" = some (.ref f)) (B : Bl mg) (Cs : Cns K W_ mg A) : Cal P W_ K mg base 1 "_law_made" ["rule", "some"] s_law_made (f_law_made) := by
  have bb := F.binds (ps := ["rule", "some"]) fun _ _ _ _ _ _ us hl => match us, hl with | [_, _], _ => rfl
  refine ⟨f, fd, fn_sv (N := ["rule", "some", "word", "a"]) (ps := ["rule", "some"]) (k := 0) (fb := b_law_made) F sc_law_made fun cdv A_ outer s_ H E hr => ?_, g, F.kp, bb, F⟩
  have hu : (A_.deeper (envOfC "_law_made" (defScope s_law_made) s_.heap.objs.size f cdv)).units + 64 < cLine := hr.units
  exact (rss_cons (rs_par (i := 2) (j := 3) rfl sc_law_made.nd rfl rfl (by decide) rfl rfl (ra_cons (re_ix (re_var (pv 0)) re_int (fun _ _ => rfl)) (ra_cons (re_ix (re_var (pv 1)) re_int (fun _ _ => rfl)) ra_nil)) rfl)
  (rss_cons (rs_if (rt_cmp op_in_seq (opk_in false) (re_var (pv 2)) (re_lst true (ra_cons re_str (ra_cons re_str (ra_cons re_str (ra_cons re_str ra_nil))))) (by rfl)) (rss_one (rs_ret (re_if (rt_cmp (op_eqD hu) opk_eq (re_var (pv 2)) re_str (nomark _)) (re_callB (fun ha => pe_callB (call_minA rfl) rfl B.b_min boot_min ha) callk_min (ra_cons (re_var (pv 1)) ra_nil)) (re_if (rt_cmp (op_eqD hu) opk_eq (re_var (pv 2)) re_str (nomark _)) (re_callB (fun ha => pe_callB (call_maxA rfl) rfl B.b_max boot_max ha) callk_max (ra_cons (re_var (pv 1)) ra_nil)) (re_if (rt_cmp (op_eqD hu) opk_eq (re_var (pv 2)) re_str (nomark _)) (re_callB (fun ha => pe_callB (cr_sum rfl) rfl B.b_sum boot_sum ha) callk_sum (ra_cons (re_var (pv 1)) ra_nil)) (re_ix (re_callB (fun ha => pe_callB cr_sortedI rfl B.b_sorted boot_sorted ha) (callk_sorted true) (ra_cons (re_var (pv 1)) ra_nil)) re_int (fun _ _ => rfl))))))) rss_nil)
  (rss_cons (rs_if (rt_cmp op_in_seq (opk_in false) (re_var (pv 2)) (re_lst true (ra_cons re_str (ra_cons re_str ra_nil))) (by rfl)) (rss_one (rs_ret (re_if (rt_cmp (op_eqD hu) opk_eq (re_var (pv 2)) re_str (nomark _)) (re_op op_mulAll opk_mul (re_ix (re_var (pv 0)) re_int (fun _ _ => rfl)) (re_var (pv 3))) (re_op op_fdiv opk_div (re_var (pv 3)) (re_ix (re_var (pv 0)) re_int (fun _ _ => rfl)))))) rss_nil)
  (rss_cons (rs_if (rt_cmp (op_eqD hu) opk_eq (re_var (pv 2)) re_str (nomark _)) (rss_one (rs_ret (re_if (rt_cmp op_lt opk_lt (re_var (pv 3)) (re_ix (re_var (pv 0)) re_int (fun _ _ => rfl)) (nomark _)) (re_ix (re_var (pv 0)) re_int (fun _ _ => rfl)) (re_if (rt_cmp op_gt opk_gt (re_var (pv 3)) (re_ix (re_var (pv 0)) re_int (fun _ _ => rfl)) (nomark _)) (re_ix (re_var (pv 0)) re_int (fun _ _ => rfl)) (re_var (pv 3)))))) rss_nil)
  (rss_cons (rs_if (rt_cmp (op_eqD hu) opk_eq (re_var (pv 2)) re_str (nomark _)) (rss_one (rs_ret (re_if (rt_cmp op_lt opk_lt (re_var (pv 3)) (re_ix (re_var (pv 0)) re_int (fun _ _ => rfl)) (nomark _)) (re_op op_sub opk_sub (re_ix (re_var (pv 0)) re_int (fun _ _ => rfl)) (re_var (pv 3))) re_int))) rss_nil)
  (rss_cons (rs_if (rt_cmp (op_eqD hu) opk_eq (re_var (pv 2)) re_str (nomark _)) (rss_one (rs_ret (re_if (rt_cmp op_ge opk_ge (re_var (pv 3)) (re_ix (re_var (pv 0)) re_int (fun _ _ => rfl)) (nomark _)) (re_ix (re_var (pv 0)) re_int (fun _ _ => rfl)) (re_ix (re_var (pv 0)) re_int (fun _ _ => rfl))))) rss_nil)
  (rss_one (rs_ret (re_if (rt_cmp op_lt opk_lt (re_var (pv 3)) (re_callB (fun ha => pe_callB call_lenA rfl B.b_len boot_len ha) callk_len (ra_cons (re_ix (re_var (pv 0)) re_int (fun _ _ => rfl)) ra_nil)) (nomark _)) (re_ix (re_ix (re_var (pv 0)) re_int (fun _ _ => rfl)) (re_var (pv 3)) (fun _ _ => rfl)) (re_ix (re_ix (re_var (pv 0)) re_int (fun _ _ => rfl)) (re_un un_neg unk_neg re_int) (fun _ _ => rfl)))))))))))
/-! #### _law_told -/
abbrev s_law_told : Stmt := topS 41
theorem sc_law_told : FnScope ["rule", "heard", "some", "at", "part", "many"] ["rule", "heard"] (defScope s_law_told) := ⟨rfl, rfl, rfl, by decide +kernel, rfl, by decide +kernel, by decide +kernel⟩
theorem cal_law_told {f : Addr} {fd : FuncData} {A : Ad} (F : Fun K "_law_told" "_law_told" s_law_told f fd) (g : mg "_law_told" = some (.ref f)) (B : Bl mg) (Cs : Cns K W_ mg A) (C_law_parts : Cal P W_ K mg base 1 "_law_parts" ["rule"] s_law_parts f_law_parts) (C_law_branches : Cal P W_ K mg base 12 "_law_branches" ["rule"] s_law_branches (f_law_branches 10)) (C_law_made : Cal P W_ K mg base 1 "_law_made" ["rule", "some"] s_law_made f_law_made) (n : Nat) : Cal P W_ K mg base (13 + n) "_law_told" ["rule", "heard"] s_law_told (f_law_told n) := by
  have bb := F.binds (ps := ["rule", "heard"]) fun _ _ _ _ _ _ us hl => match us, hl with | [_, _], _ => rfl
  induction n with
  | zero => exact ⟨f, fd, fn_bad F sc_law_told, g, F.kp, bb, F⟩
  | succ n G =>
    refine ⟨f, fd, fn_sv (N := ["rule", "heard", "some", "at", "part", "many"]) (ps := ["rule", "heard"]) (k := 13 + n) (fb := b_law_told (f_law_told n)) F sc_law_told fun cdv A_ outer s_ H E hr => ?_, g, F.kp, bb, F⟩
    have hu : (A_.deeper (envOfC "_law_told" (defScope s_law_told) s_.heap.objs.size f cdv)).units + 64 < cLine := hr.units
    have hr0 := hr
    exact (rss_cons (rs_if (rt_cmp op_in_seq (opk_in false) (re_ix (re_var (pv 0)) re_int (fun _ _ => rfl)) (re_lst true (ra_cons re_str (ra_cons re_str ra_nil))) (by rfl)) (rss_one (rs_ret (re_if (rt_cmp (op_eqD hu) opk_eq (re_ix (re_var (pv 0)) re_int (fun _ _ => rfl)) re_str (nomark _)) (re_ix (re_var (pv 0)) re_int (fun _ _ => rfl)) (re_ix (re_var (pv 1)) re_int (fun _ _ => rfl))))) rss_nil)
  (rss_cons (rs_par (i := 2) (j := 3) rfl sc_law_told.nd rfl rfl (by decide) rfl rfl (ra_cons (re_lst false ra_nil) (ra_cons re_int ra_nil)) rfl)
  (rss_cons (rs_for PassesOwn.never rfl (ri_seq (re_callC C_law_parts (hr0.mono (by omega)) rfl (ra_cons (re_var (pv 0)) ra_nil) (al_cons al_nil))) (rg_nm (i := 4) sc_law_told.nd rfl (by first | exact Or.inl rfl | exact Or.inr rfl)) (rss_cons (rs_set (i := 5) sc_law_told.nd rfl (by first | exact Or.inl rfl | exact Or.inr rfl) (re_callB (fun ha => pe_callB call_lenA rfl B.b_len boot_len ha) callk_len (ra_cons (re_callC C_law_branches (hr0.mono (by omega)) rfl (ra_cons (re_var (pv 4)) ra_nil) (al_cons al_nil)) ra_nil)))
  (rss_cons (rs_expr (re_mt (fun ho ha => pe_bm PySem.F.plainAttrs_list PySem.F.slot_list_append PySem.F.type_list_append mt_append ho ha) mtk_append (re_var (pv 2)) (ra_cons (re_callC G hr rfl (ra_cons (re_var (pv 4)) (ra_cons (re_sl true (re_var (pv 1)) (ro_some (re_var (pv 3))) (ro_some (re_op op_addAll opk_add (re_var (pv 3)) (re_var (pv 5))))) ra_nil)) (al_cons (al_cons al_nil))) ra_nil)))
  (rss_one (rs_set (i := 3) sc_law_told.nd rfl (by first | exact Or.inl rfl | exact Or.inr rfl) (re_op op_addAll opk_add (re_var (pv 3)) (re_var (pv 5))))))))
  (rss_one (rs_ret (re_callC C_law_made (hr0.mono (by omega)) rfl (ra_cons (re_var (pv 0)) (ra_cons (re_var (pv 2)) ra_nil)) (al_cons (al_cons al_nil))))))))
/-! #### _law_odd_rules -/
abbrev s_law_odd_rules : Stmt := topS 42
theorem sc_law_odd_rules : FnScope ["deep", "turn", "at", "wide", "found"] [] (defScope s_law_odd_rules) := ⟨rfl, rfl, rfl, by decide +kernel, rfl, by decide +kernel, by decide +kernel⟩
theorem cal_law_odd_rules {f : Addr} {fd : FuncData} {A : Ad} (F : Fun K "_law_odd_rules" "_law_odd_rules" s_law_odd_rules f fd) (g : mg "_law_odd_rules" = some (.ref f)) (B : Bl mg) (Cs : Cns K W_ mg A) : Cal P W_ K mg base 1 "_law_odd_rules" [] s_law_odd_rules (f_law_odd_rules) := by
  have bb := F.binds (ps := []) fun _ _ _ _ _ _ us hl => match us, hl with | [], _ => rfl
  refine ⟨f, fd, fn_sv (N := ["deep", "turn", "at", "wide", "found"]) (ps := []) (k := 0) (fb := b_law_odd_rules) F sc_law_odd_rules fun cdv A_ outer s_ H E hr => ?_, g, F.kp, bb, F⟩
  have hu : (A_.deeper (envOfC "_law_odd_rules" (defScope s_law_odd_rules) s_.heap.objs.size f cdv)).units + 64 < cLine := hr.units
  exact (rss_cons (rs_set (i := 0) sc_law_odd_rules.nd rfl (by first | exact Or.inl rfl | exact Or.inr rfl) (re_tup (ra_cons re_str (ra_cons re_int ra_nil))))
  (rss_cons (rs_for PassesOwn.never rfl (ri_range1 rfl B.b_range (ra_cons re_int ra_nil)) (rg_nm (i := 1) sc_law_odd_rules.nd rfl (by first | exact Or.inl rfl | exact Or.inr rfl)) (rss_one (rs_set (i := 0) sc_law_odd_rules.nd rfl (by first | exact Or.inl rfl | exact Or.inr rfl) (re_tup (ra_cons re_str (ra_cons re_int (ra_cons (re_var (pv 0)) ra_nil)))))))
  (rss_cons (rs_set (i := 3) sc_law_odd_rules.nd rfl (by first | exact Or.inl rfl | exact Or.inr rfl) (re_tup (ra_cons re_str (ra_cons (re_callB (fun ha => pe_callTy call_tuple_of rfl B.b_tuple boot_tuple ha) callk_tuple (ra_cons (re_lc (own := [("at", 2)]) (t := (.one 2)) rfl sc_law_odd_rules.nd (ri_range1 rfl B.b_range (ra_cons re_int ra_nil)) (blkOk_by (N := ["deep", "turn", "at", "wide", "found"]) (sc := defScope s_law_odd_rules) (by decide +kernel)) (by decide) (fun _ _ _ _ _ => pg_name (i := 2) sc_law_odd_rules.nd rfl (by first | exact Or.inl rfl | exact Or.inr rfl)) (fun _ _ _ _ _ => rts_nil) (fun _ _ _ _ _ => (re_tup (ra_cons re_str (ra_cons (re_var (pv 2)) ra_nil))))) ra_nil)) ra_nil))))
  (rss_cons (rs_set (i := 4) sc_law_odd_rules.nd rfl (by first | exact Or.inl rfl | exact Or.inr rfl) (re_lst true (ra_cons re_non (ra_cons (re_tup ra_nil) (ra_cons (re_tup (ra_cons re_str ra_nil)) (ra_cons (re_tup (ra_cons re_str (ra_cons (re_un un_neg unk_neg re_int) ra_nil))) (ra_cons (re_tup (ra_cons re_str (ra_cons re_int ra_nil))) (ra_cons (re_tup (ra_cons re_str (ra_cons re_bl ra_nil))) (ra_cons (re_tup (ra_cons re_str (ra_cons re_str ra_nil))) (ra_cons (re_lst true (ra_cons re_str (ra_cons re_int ra_nil))) (ra_cons (re_tup (ra_cons re_str (ra_cons re_non ra_nil))) (ra_cons (re_tup (ra_cons re_str (ra_cons (re_tup ra_nil) ra_nil))) (ra_cons (re_tup (ra_cons re_str (ra_cons (re_lst true (ra_cons (re_tup (ra_cons re_str (ra_cons re_int ra_nil))) ra_nil)) ra_nil))) (ra_cons (re_tup (ra_cons re_str (ra_cons re_int ra_nil))) ra_nil))))))))))))))
  (rss_cons (rs_set (i := 4) sc_law_odd_rules.nd rfl (by first | exact Or.inl rfl | exact Or.inr rfl) (re_op op_addAll opk_add (re_var (pv 4)) (re_lst true (ra_cons (re_tup (ra_cons re_str (ra_cons (re_tup (ra_cons re_str (ra_cons re_int ra_nil))) (ra_cons (re_tup (ra_cons re_str (ra_cons re_int ra_nil))) ra_nil)))) (ra_cons (re_tup (ra_cons re_str (ra_cons (re_tup (ra_cons re_str (ra_cons re_int ra_nil))) (ra_cons re_int ra_nil)))) (ra_cons (re_tup (ra_cons re_str (ra_cons re_int (ra_cons (re_tup (ra_cons re_str (ra_cons re_int ra_nil))) ra_nil)))) (ra_cons (re_tup (ra_cons re_str (ra_cons re_int (ra_cons re_int (ra_cons (re_tup (ra_cons re_str (ra_cons re_int ra_nil))) ra_nil))))) (ra_cons (re_tup (ra_cons re_str (ra_cons re_int ra_nil))) (ra_cons (re_tup (ra_cons re_str (ra_cons re_int (ra_cons re_int (ra_cons (re_tup (ra_cons re_str (ra_cons re_int ra_nil))) ra_nil))))) ra_nil)))))))))
  (rss_one (rs_ret (re_op op_addAll opk_add (re_var (pv 4)) (re_lst true (ra_cons (re_tup (ra_cons re_str (ra_cons (re_tup ra_nil) (ra_cons (re_tup (ra_cons re_str (ra_cons re_int ra_nil))) ra_nil)))) (ra_cons (re_tup (ra_cons re_str (ra_cons (re_lst true (ra_cons re_int ra_nil)) (ra_cons (re_tup (ra_cons re_str (ra_cons re_int ra_nil))) ra_nil)))) (ra_cons (re_tup (ra_cons re_str (ra_cons (re_op op_mulAll opk_mul (re_tup (ra_cons re_int ra_nil)) re_int) (ra_cons (re_tup (ra_cons re_str (ra_cons re_int ra_nil))) ra_nil)))) (ra_cons (re_tup (ra_cons re_str (ra_cons (re_tup (ra_cons (re_tup (ra_cons re_str (ra_cons re_int ra_nil))) (ra_cons re_non ra_nil))) ra_nil))) (ra_cons (re_var (pv 0)) (ra_cons (re_var (pv 3)) (ra_cons re_int (ra_cons re_str (ra_cons (re_tup (ra_cons re_str (ra_cons re_int (ra_cons re_int ra_nil)))) ra_nil))))))))))))))))))
end
end K01
set_option linter.all false
set_option maxRecDepth 100000
set_option maxHeartbeats 4000000
namespace PD
open PySem PySem.Spec PyProof.Rows L2 NB RZ SV
noncomputable section
abbrev b_law_k01 (A : Ad) : FS :=
  (fSeq (fSet 1 (fCall f_law_draw (fConsA (fVar 0) (fConsA (fC (.p (.int 1))) fNilA))))
  (fSeq (fFor (fRng1 (fConsA (fC (.p (.int 4))) fNilA)) (gNm 2) (fSeq (fSet 3 (fCall (f_law_rule_k01 4) (fConsA (fVar 1) (fConsA (fC (.p (.int 5))) (fConsA (fCall f_law_of (fConsA (fVar 1) (fConsA (fLst true (fConsA (fC (.p (.int 3))) (fConsA (fC (.p (.int 9))) (fConsA (fC (.p (.int 900))) fNilA)))) fNilA))) (fConsA (fCall f_law_any (fConsA (fVar 1) (fConsA (fC (.p (.int 4))) fNilA))) (fConsA (fC (.p (.bool true))) fNilA)))))))
  (fSeq (fIfS (fOrT (fB (fOp gIsn (fCallK [0] f_is_rule (fConsA (fVar 3) fNilA)) (fC (.p (.bool true))))) (fB (fOp gNe (fCallB gRepr (fConsA (fCallK [0] (f_branches 10) (fConsA (fVar 3) fNilA)) fNilA)) (fCallB gRepr (fConsA (fCallB gTuple (fConsA (fCall (f_law_branches 10) (fConsA (fVar 3) fNilA)) fNilA)) fNilA))))) (fRet (fC (.p (.bool false)))) fSkip)
  (fSeq (fFor (fRng1 (fConsA (fC (.p (.int 4))) fNilA)) (gNm 4) (fSeq (fSet 6 (fCallB gTuple (fConsA (fLc true (fWk (fCall (f_law_branches 10) (fConsA (fVar 3) fNilA))) (.one 5) [5] fYes (fCall f_law_any (fConsA (fVar 1) (fConsA (fCall f_law_of (fConsA (fVar 1) (fConsA (fLst true (fConsA (fC (.p (.int 2))) (fConsA (fC (.p (.int 8))) (fConsA (fC (.p (.int 1001))) fNilA)))) fNilA))) fNilA)))) fNilA)))
  (fIfS (fB (fOp gNe (fCallB gRepr (fConsA (fCallK [1, 0] (f_told A) (fConsA (fVar 6) (fConsA (fVar 3) fNilA))) fNilA)) (fCallB gRepr (fConsA (fCall (f_law_told 10) (fConsA (fVar 3) (fConsA (fCallB (gList true) (fConsA (fVar 6) fNilA)) fNilA))) fNilA)))) (fRet (fC (.p (.bool false)))) fSkip)))
  (fSeq (fSet 7 (fCall f_law_of (fConsA (fVar 1) (fConsA (fCall f_law_odd_rules fNilA) fNilA))))
  (fIfS (fOrT (fB (fOp gIsn (fCall f_is_rule (fConsA (fVar 7) fNilA)) (fC (.p (.bool false))))) (fOrT (fB (fOp gIsn (fCall f_is_rule (fConsA (fTup (fConsA (fC (.p (.str "most"))) (fConsA (fTup (fConsA (fVar 3) (fConsA (fVar 7) fNilA))) fNilA))) fNilA)) (fC (.p (.bool false))))) (fB (fOp gIsn (fCall f_is_rule (fConsA (fCallB (gList true) (fConsA (fVar 3) fNilA)) fNilA)) (fC (.p (.bool false))))))) (fRet (fC (.p (.bool false)))) fSkip))))))
  (fSeq (fSet 8 (fTup (fConsA (fC (.p (.str "hear"))) (fConsA (fC (.p (.int 0))) fNilA))))
  (fSeq (fFor (fRng1 (fConsA (fC (.p (.int 7))) fNilA)) (gNm 2) (fSet 8 (fTup (fConsA (fC (.p (.str "part"))) (fConsA (fC (.p (.int 1))) (fConsA (fVar 8) fNilA))))))
  (fSeq (fIfS (fOrT (fB (fOp gIsn (fCall f_is_rule (fConsA (fTup (fConsA (fC (.p (.str "least"))) (fConsA (fOp gMul (fTup (fConsA (fTup (fConsA (fC (.p (.str "is"))) (fConsA (fC (.p (.int 1))) fNilA))) fNilA)) (fC (.p (.int 59)))) fNilA))) fNilA)) (fC (.p (.bool true))))) (fB (fOp gIsn (fCall f_is_rule (fConsA (fTup (fConsA (fC (.p (.str "least"))) (fConsA (fOp gMul (fTup (fConsA (fTup (fConsA (fC (.p (.str "is"))) (fConsA (fC (.p (.int 1))) fNilA))) fNilA)) (fC (.p (.int 60)))) fNilA))) fNilA)) (fC (.p (.bool false)))))) (fRet (fC (.p (.bool false)))) fSkip)
  (fSeq (fIfS (fB (fOp gIsn (fCall f_is_rule (fConsA (fTup (fConsA (fC (.p (.str "row"))) (fConsA (fOp gMul (fTup (fConsA (fC (.p (.int 1000))) fNilA)) (fC (.p (.int 64)))) (fConsA (fTup (fConsA (fC (.p (.str "is"))) (fConsA (fC (.p (.int 0))) fNilA))) fNilA)))) fNilA)) (fC (.p (.bool true))))) (fRet (fC (.p (.bool false)))) fSkip)
  (fRet (fAndV (fOp gIs (fCall f_is_rule (fConsA (fVar 8) fNilA)) (fC (.p (.bool true)))) (fOp gIs (fCall f_is_rule (fConsA (fTup (fConsA (fC (.p (.str "add"))) (fConsA (fCallB gTuple (fConsA (fLc true (fRng1 (fConsA (fC (.p (.int 12))) fNilA)) (.one 9) [9] fYes (fTup (fConsA (fC (.p (.str "hear"))) (fConsA (fVar 9) fNilA)))) fNilA)) fNilA))) fNilA)) (fC (.p (.bool true))))))))))))
def f_law_k01 (A : Ad) : FN := defF 10 (b_law_k01 A)
end
end PD
set_option linter.all false
set_option maxRecDepth 100000
set_option maxHeartbeats 4000000
namespace K01
open PySem PySem.Spec PyProof.Rows L2 NB RZ SV PD
section
variable {P : Program} {W_ : World} {K : PySem.W.Frag} {mg : Str → Option Value} {base : Heap}
/-! #### law -/
abbrev s_law_k01 : Stmt := topS 43
theorem sc_law_k01 : FnScope ["script", "deal", "turn", "rule", "look", "one", "heard", "bad", "deep", "at"] ["script"] (defScope s_law_k01) := ⟨rfl, rfl, rfl, by decide +kernel, rfl, by decide +kernel, by decide +kernel⟩
theorem law_rd {f : Addr} {fd : FuncData} {A : Ad} (F : Fun K "law" "law" s_law_k01 f fd) (B : Bl mg) (Cs : Cns K W_ mg A) (C_law_draw : Cal P W_ K mg base 1 "_law_draw" ["script", "salt"] s_law_draw f_law_draw) (C_law_rule_k01 : Cal P W_ K mg base 7 "_law_rule" ["deal", "n", "top", "deep", "any_row"] s_law_rule_k01 (f_law_rule_k01 4)) (C_law_of : Cal P W_ K mg base 2 "_law_of" ["deal", "some"] s_law_of f_law_of) (C_law_any : Cal P W_ K mg base 1 "_law_any" ["deal", "bound"] s_law_any f_law_any) (C_is_rule : Cal P W_ K mg base 5 "is_rule" ["value"] s_is_rule f_is_rule) (C_branches : Cal P W_ K mg base 12 "branches" ["rule"] s_branches (f_branches 10)) (C_law_branches : Cal P W_ K mg base 12 "_law_branches" ["rule"] s_law_branches (f_law_branches 10)) (C_told : Cal P W_ K mg base 14 "told" ["rule", "heard"] s_told (f_told A)) (C_law_told : Cal P W_ K mg base 23 "_law_told" ["rule", "heard"] s_law_told (f_law_told 10)) (C_law_odd_rules : Cal P W_ K mg base 1 "_law_odd_rules" [] s_law_odd_rules f_law_odd_rules) : FnA callerA P W_ K mg base CX0 f fd ["script"] (spOf0 K 1 (f_law_k01 A)) := by
  refine fn_svA0 (N := ["script", "deal", "turn", "rule", "look", "one", "heard", "bad", "deep", "at"]) (ps := ["script"]) (k := 23) (fb := b_law_k01 A) F sc_law_k01 ⟨rfl, by decide, by decide⟩ fun cdv outer s_ H E hcd hr => ?_
  have hu : (callerA.deeper (envOfC "law" (defScope s_law_k01) s_.heap.objs.size f cdv)).units + 64 < cLine := hr.units
  have hu6 : (callerA.deeper (envOfC "law" (defScope s_law_k01) s_.heap.objs.size f cdv)).units + 70 < cLine := by have := hr.un; omega
  have hgd : (callerA.deeper (envOfC "law" (defScope s_law_k01) s_.heap.objs.size f cdv)).guards = some [] := rfl
  exact (rss_cons (rs_set (i := 1) sc_law_k01.nd rfl (by first | exact Or.inl rfl | exact Or.inr rfl) (re_callC C_law_draw (hr.mono (by decide)) rfl (ra_cons (re_var (pv 0)) (ra_cons re_int ra_nil)) (al_cons (al_cons al_nil))))
  (rss_cons (rs_for PassesOwn.never rfl (ri_range1 rfl B.b_range (ra_cons re_int ra_nil)) (rg_nm (i := 2) sc_law_k01.nd rfl (by first | exact Or.inl rfl | exact Or.inr rfl)) (rss_cons (rs_set (i := 3) sc_law_k01.nd rfl (by first | exact Or.inl rfl | exact Or.inr rfl) (re_callC C_law_rule_k01 (hr.mono (by decide)) rfl (ra_cons (re_var (pv 1)) (ra_cons re_int (ra_cons (re_callC C_law_of (hr.mono (by decide)) rfl (ra_cons (re_var (pv 1)) (ra_cons (re_lst true (ra_cons re_int (ra_cons re_int (ra_cons re_int ra_nil)))) ra_nil)) (al_cons (al_cons al_nil))) (ra_cons (re_callC C_law_any (hr.mono (by decide)) rfl (ra_cons (re_var (pv 1)) (ra_cons re_int ra_nil)) (al_cons (al_cons al_nil))) (ra_cons re_bl ra_nil))))) (al_cons (al_cons (al_cons (al_cons (al_cons al_nil)))))))
  (rss_cons (rs_if (PW.pt (rw_or (rt_cmp op_isnot_bl opk_isn (re_callK (n := 0) (ks := ["value"]) (perm := [0]) C_is_rule (hr.mono (by decide)) rfl (rk_cons (re_var (pv 3)) rk_nil) (al_cons al_nil) (fun {l} hl => match l, hl with | [_], _ => rfl) (fun _ _ _ _ _ _ ws hl => match ws, hl with | [_], _ => rfl)) re_bl (nomark _)) (rw_or1 (rt_cmp (op_neD hu) opk_ne (re_callB (fun ha => pe_callB (call_reprD hgd hu6) rfl B.b_repr boot_repr ha) callk_repr (ra_cons (re_callK (n := 0) (ks := ["rule"]) (perm := [0]) C_branches (hr.mono (by decide)) rfl (rk_cons (re_var (pv 3)) rk_nil) (al_cons al_nil) (fun {l} hl => match l, hl with | [_], _ => rfl) (fun _ _ _ _ _ _ ws hl => match ws, hl with | [_], _ => rfl)) ra_nil)) (re_callB (fun ha => pe_callB (call_reprD hgd hu6) rfl B.b_repr boot_repr ha) callk_repr (ra_cons (re_callB (fun ha => pe_callTy call_tuple_of rfl B.b_tuple boot_tuple ha) callk_tuple (ra_cons (re_callC C_law_branches (hr.mono (by decide)) rfl (ra_cons (re_var (pv 3)) ra_nil) (al_cons al_nil)) ra_nil)) ra_nil)) (nomark _))))) (rss_one (rs_ret re_bl)) rss_nil)
  (rss_cons (rs_for PassesOwn.never rfl (ri_range1 rfl B.b_range (ra_cons re_int ra_nil)) (rg_nm (i := 4) sc_law_k01.nd rfl (by first | exact Or.inl rfl | exact Or.inr rfl)) (rss_cons (rs_set (i := 6) sc_law_k01.nd rfl (by first | exact Or.inl rfl | exact Or.inr rfl) (re_callB (fun ha => pe_callTy call_tuple_of rfl B.b_tuple boot_tuple ha) callk_tuple (ra_cons (re_lc (own := [("one", 5)]) (t := (.one 5)) rfl sc_law_k01.nd (ri_seq (re_callC C_law_branches (hr.mono (by decide)) rfl (ra_cons (re_var (pv 3)) ra_nil) (al_cons al_nil))) (blkOk_by (N := ["script", "deal", "turn", "rule", "look", "one", "heard", "bad", "deep", "at"]) (sc := defScope s_law_k01) (by decide +kernel)) (by decide) (fun _ _ _ _ _ => pg_name (i := 5) sc_law_k01.nd rfl (by first | exact Or.inl rfl | exact Or.inr rfl)) (fun _ _ _ _ _ => rts_nil) (fun _ _ _ _ _ => (re_callC C_law_any (hr.mono (by decide)) rfl (ra_cons (re_var (pv 1)) (ra_cons (re_callC C_law_of (hr.mono (by decide)) rfl (ra_cons (re_var (pv 1)) (ra_cons (re_lst true (ra_cons re_int (ra_cons re_int (ra_cons re_int ra_nil)))) ra_nil)) (al_cons (al_cons al_nil))) ra_nil)) (al_cons (al_cons al_nil))))) ra_nil)))
  (rss_one (rs_if (rt_cmp (op_neD hu) opk_ne (re_callB (fun ha => pe_callB (call_reprD hgd hu6) rfl B.b_repr boot_repr ha) callk_repr (ra_cons (re_callK (n := 0) (ks := ["heard", "rule"]) (perm := [1, 0]) C_told (hr.mono (by decide)) rfl (rk_cons (re_var (pv 6)) (rk_cons (re_var (pv 3)) rk_nil)) (al_cons (al_cons al_nil)) (fun {l} hl => match l, hl with | [_, _], _ => rfl) (fun _ _ _ _ _ _ ws hl => match ws, hl with | [_, _], _ => rfl)) ra_nil)) (re_callB (fun ha => pe_callB (call_reprD hgd hu6) rfl B.b_repr boot_repr ha) callk_repr (ra_cons (re_callC C_law_told (hr.mono (by decide)) rfl (ra_cons (re_var (pv 3)) (ra_cons (re_callB (fun ha => pe_callTy call_list_of rfl B.b_list boot_list ha) (callk_list true) (ra_cons (re_var (pv 6)) ra_nil)) ra_nil)) (al_cons (al_cons al_nil))) ra_nil)) (nomark _)) (rss_one (rs_ret re_bl)) rss_nil))))
  (rss_cons (rs_set (i := 7) sc_law_k01.nd rfl (by first | exact Or.inl rfl | exact Or.inr rfl) (re_callC C_law_of (hr.mono (by decide)) rfl (ra_cons (re_var (pv 1)) (ra_cons (re_callC0 C_law_odd_rules (hr.mono (by decide)) rfl) ra_nil)) (al_cons (al_cons al_nil))))
  (rss_one (rs_if (PW.pt (rw_or (rt_cmp op_isnot_bl opk_isn (re_callC C_is_rule (hr.mono (by decide)) rfl (ra_cons (re_var (pv 7)) ra_nil) (al_cons al_nil)) re_bl (nomark _)) (rw_or (rt_cmp op_isnot_bl opk_isn (re_callC C_is_rule (hr.mono (by decide)) rfl (ra_cons (re_tup (ra_cons re_str (ra_cons (re_tup (ra_cons (re_var (pv 3)) (ra_cons (re_var (pv 7)) ra_nil))) ra_nil))) ra_nil) (al_cons al_nil)) re_bl (nomark _)) (rw_or1 (rt_cmp op_isnot_bl opk_isn (re_callC C_is_rule (hr.mono (by decide)) rfl (ra_cons (re_callB (fun ha => pe_callTy call_list_of rfl B.b_list boot_list ha) (callk_list true) (ra_cons (re_var (pv 3)) ra_nil)) ra_nil) (al_cons al_nil)) re_bl (nomark _)))))) (rss_one (rs_ret re_bl)) rss_nil)))))))
  (rss_cons (rs_set (i := 8) sc_law_k01.nd rfl (by first | exact Or.inl rfl | exact Or.inr rfl) (re_tup (ra_cons re_str (ra_cons re_int ra_nil))))
  (rss_cons (rs_for PassesOwn.never rfl (ri_range1 rfl B.b_range (ra_cons re_int ra_nil)) (rg_nm (i := 2) sc_law_k01.nd rfl (by first | exact Or.inl rfl | exact Or.inr rfl)) (rss_one (rs_set (i := 8) sc_law_k01.nd rfl (by first | exact Or.inl rfl | exact Or.inr rfl) (re_tup (ra_cons re_str (ra_cons re_int (ra_cons (re_var (pv 8)) ra_nil)))))))
  (rss_cons (rs_if (PW.pt (rw_or (rt_cmp op_isnot_bl opk_isn (re_callC C_is_rule (hr.mono (by decide)) rfl (ra_cons (re_tup (ra_cons re_str (ra_cons (re_op op_mulAll opk_mul (re_tup (ra_cons (re_tup (ra_cons re_str (ra_cons re_int ra_nil))) ra_nil)) re_int) ra_nil))) ra_nil) (al_cons al_nil)) re_bl (nomark _)) (rw_or1 (rt_cmp op_isnot_bl opk_isn (re_callC C_is_rule (hr.mono (by decide)) rfl (ra_cons (re_tup (ra_cons re_str (ra_cons (re_op op_mulAll opk_mul (re_tup (ra_cons (re_tup (ra_cons re_str (ra_cons re_int ra_nil))) ra_nil)) re_int) ra_nil))) ra_nil) (al_cons al_nil)) re_bl (nomark _))))) (rss_one (rs_ret re_bl)) rss_nil)
  (rss_cons (rs_if (rt_cmp op_isnot_bl opk_isn (re_callC C_is_rule (hr.mono (by decide)) rfl (ra_cons (re_tup (ra_cons re_str (ra_cons (re_op op_mulAll opk_mul (re_tup (ra_cons re_int ra_nil)) re_int) (ra_cons (re_tup (ra_cons re_str (ra_cons re_int ra_nil))) ra_nil)))) ra_nil) (al_cons al_nil)) re_bl (nomark _)) (rss_one (rs_ret re_bl)) rss_nil)
  (rss_one (rs_ret (re_and (re_cmp op_is_bl opk_is (re_callC C_is_rule (hr.mono (by decide)) rfl (ra_cons (re_var (pv 8)) ra_nil) (al_cons al_nil)) re_bl (nomark _)) (re_one (re_cmp op_is_bl opk_is (re_callC C_is_rule (hr.mono (by decide)) rfl (ra_cons (re_tup (ra_cons re_str (ra_cons (re_callB (fun ha => pe_callTy call_tuple_of rfl B.b_tuple boot_tuple ha) callk_tuple (ra_cons (re_lc (own := [("at", 9)]) (t := (.one 9)) rfl sc_law_k01.nd (ri_range1 rfl B.b_range (ra_cons re_int ra_nil)) (blkOk_by (N := ["script", "deal", "turn", "rule", "look", "one", "heard", "bad", "deep", "at"]) (sc := defScope s_law_k01) (by decide +kernel)) (by decide) (fun _ _ _ _ _ => pg_name (i := 9) sc_law_k01.nd rfl (by first | exact Or.inl rfl | exact Or.inr rfl)) (fun _ _ _ _ _ => rts_nil) (fun _ _ _ _ _ => (re_tup (ra_cons re_str (ra_cons (re_var (pv 9)) ra_nil))))) ra_nil)) ra_nil))) ra_nil) (al_cons al_nil)) re_bl (nomark _))))))))))))
end
end K01
set_option linter.all false
set_option maxRecDepth 100000
set_option maxHeartbeats  1000000
namespace SV
open PySem PySem.Spec PyProof.Rows L2 NB RZ
def kQu2 (P : D → Sto → Prop) (b : Bool) (S : Sto) : Prop := P (dBl b) S
theorem kQu2_ (P : D → Sto → Prop) (b : Bool) (S : Sto) : kQu2 P b S = (P (dBl b) S) := rfl
def kQu1 (bs : Bool) (A : Addr) (t : Tgt) (te : FE) (E : En) (P : D → Sto → Prop) (its : Wk) (S : Sto) : Prop := if hasTab S A = true then Ok (quN bs its t te E its.fuel 0 S) (kQu2 P) else False
theorem kQu1_ (bs : Bool) (A : Addr) (t : Tgt) (te : FE) (E : En) (P : D → Sto → Prop) (its : Wk) (S : Sto) : kQu1 bs A t te E P its S = (if hasTab S A = true then Ok (quN bs its t te E its.fuel 0 S) (kQu2 P) else False) := rfl
theorem fQu_ok {bs : Bool} {A : Addr} {it : FI} {t : Tgt} {vs : List Nat} {te : FE} {E : En} {S : Sto} {P : D → Sto → Prop} : Ok (fQu bs A it t vs te E S) P = (Ok (it E S) (kQu1 bs A t te (wipeE E vs) P)) := by
  unfold fQu kQu1
  rw [ok_bind]
  congr 1
  funext its S1
  by_cases c : hasTab S1 A = true
  · rw [if_pos c, if_pos c, ok_bind]; rfl
  · rw [if_neg c, if_neg c]; rfl
/-- all or any of data -/
theorem qu_data {X : Type} {bs : Bool} {xs : List X} {g : X → D} {t : Tgt} {te : FE} {E : En} {S : Sto} {f : X → Bool} (h : ∀ x ∈ xs, ∃ E1, t.put (g x) E = some E1 ∧ te E1 S = .ok (.p (.bool (f x))) S) :
    quN bs (.fix (xs.map g)) t te E (Wk.fix (xs.map g)).fuel 0 S = .ok (if bs then xs.any f else xs.all f) S := by
  have key : ∀ n i, n + i = xs.length → quN bs (.fix (xs.map g)) t te E (n + 1) i S = .ok (if bs then (xs.drop i).any f else (xs.drop i).all f) S := by
    intro n
    induction n with
    | zero =>
      intro i hi
      have e : xs.drop i = [] := List.drop_eq_nil_of_le (by omega)
      have e2 : nxt (.fix (xs.map g)) i S = some none := by
        show some ((xs.map g)[i]?) = _
        rw [List.getElem?_eq_none_iff.mpr (by rw [List.length_map]; omega)]
      unfold quN
      rw [e2, e]
      cases bs <;> rfl
    | succ n ih =>
      intro i hi
      have hlt : i < xs.length := by omega
      have e2 : nxt (.fix (xs.map g)) i S = some (some (g xs[i])) := by
        show some ((xs.map g)[i]?) = _
        rw [List.getElem?_map, List.getElem?_eq_getElem hlt]; rfl
      obtain ⟨E1, p1, p2⟩ := h xs[i] (List.getElem_mem hlt)
      have e3 : xs.drop i = xs[i] :: xs.drop (i + 1) := List.drop_eq_getElem_cons hlt
      unfold quN
      rw [e2]
      dsimp only
      rw [p1]
      dsimp only
      rw [p2]
      dsimp only
      rw [ih (i + 1) (by omega), e3]
      clear e3 ih e2
      generalize List.drop (i + 1) xs = r
      cases bs <;> cases hf : f xs[i] <;> simp [hf]
  have := key xs.length 0 (by omega)
  rw [List.drop_zero] at this
  rw [← this]
  show quN _ _ _ _ _ ((xs.map g).length + 1) _ _ = _
  rw [List.length_map]
def tyP : PyData → Option Ty
  | .none => some .non | .bool _ => some .bool | .int _ => some .int | .str _ => some .str | .list _ => some .list | .tuple _ => some .tuple | .dict _ => none
theorem isi_p {v : PyData} {c t : Ty} {S : Sto} (h : tyP v = some t) : gIsi c (.p v) S = .ok (.p (.bool (isB t c))) S := by
  unfold gIsi
  have : tyOf (.p v) S = some t := by cases v <;> simp [tyP] at h <;> subst h <;> rfl
  rw [this]
  rfl
end SV
set_option linter.all false
set_option maxRecDepth 100000
set_option maxHeartbeats 4000000
namespace SM
open PySem PySem.Spec PyProof.Rows L2 NB RZ SV PD
local macro_rules | `(tactic| walk_at "sv") => `(tactic| simp only [fC_ok, kOp2_, kOp1_, fOp_ok, kUn_, fUn_ok, fNilA_ok, kCons2_, kCons1_, fConsA_ok, kTup_, fTup_ok, kLst_, fLst_ok, kTru_, fTru_ok, kB_, fB_ok, kNotT_, fNotT_ok, kAndT_, fAndT_ok, kOrT_, fOrT_ok, kIf_, fIf_ok, kAndV_, kOrV_, fAndV_ok, fOrV_ok, kCallB_, fCallB_ok, kCall_, fCall_ok, kCallK_, fCallK_ok, kRev_, fRev_ok, fNoO_ok, fSomeO_ok, kSl3_, kSl2_, kSl1_, fSl_ok, kCh3_, kCh2_, kCh1_, kCh0_, fChain_ok, kMt2_, kMt1_, fMt_ok, fSkip_ok, fSeq_ok, kSet_, fSet_ok, kDrop_, fDrop_ok, kRet_, fRet_ok, fRetN_ok, kIfS_, fIfS_ok, fBrk_ok, fCt_ok, kAug2_, kAug1_, kAsg2_, kAsg1_, fAsg_ok, fPar_ok, gNm_ok, gN0_ok, kC0_, gC0_ok, kSb3_, kSb2_, kSb1_, gSb_ok, kFor_, fFor_ok, kWk_, fWk_ok, kRng1_, fRng1_ok, kRng2_, fRng2_ok, kEnum_, fEnum_ok, kZip_, fZip_ok, kLc2_, kLc1_, fLc_ok, fYes_ok, kQu2_, kQu1_, fQu_ok, leave_same, defK_k, kFinK_ret, kFinK_nx, fVar0_ok, fVarS_ok, defF_ok, kSeq_nx, kSeq_ret, kSeq_brk, kSeq_ct, kSomeO_int, kPar_two, kFin_ret, kFin_nx, add_ii, sub_ii, lt_ii, le_ii, gt_ii, ge_ii, eq_ii, ne_ii, iadd_ii, gBool_b, gTru_b, gNot_b, gNeg_i, gInt_i, gAbs_i, min_ii, max_ii, len_l, len_t, tup_t, tup_l, lst_l, lst_t, newL_p, ix_t0, ix_t1, ix_t2, ix_t3, ix_l0, wk_t, wk_l, vT_t, mkT0, mkT1, mkT2, mkT3, mkT4, mkT5, newL0, newL1, newL2, newL3, sz0, sz1, sz2, sz3, sz4, sz5, tru_t, tru_l, rev_t, rev_l, ok_ok, startE, dBl, dInt, List.map_cons, List.map_nil, List.length_cons, List.length_nil, List.replicate_succ, List.replicate_zero, Nat.reduceAdd, Nat.reduceSub, Nat.reduceLeDiff, List.cons_append, List.nil_append, List.set_cons_zero, List.set_cons_succ, wipeE, Bool.not_true, Bool.not_false, ↓reduceIte, Bool.false_eq_true, decide_true, decide_false, Bool.and_true, Bool.and_false, Bool.true_and, Bool.false_and])
/-! ### the drawer -/
structure DealAtS (S : Sto) (d l : Nat) (ns : List Int) (b : Int) : Prop where
  ob : S[d]? = some (.lst [.ref l, .p (.int b)])
  li : S[l]? = some (.lst (ns.map fun n => .p (.int n)))
  ne : l ≠ d
  nn : ∀ n ∈ ns, 0 ≤ n
  ln : ns.length ≤ 48
  b0 : 0 ≤ b
  b1 : b < 2147483647
def DealS (S : Sto) (d l : Nat) : Prop := ∃ ns b, DealAtS S d l ns b
def KpS (d l : Nat) (S S' : Sto) : Prop := S'.length = S.length ∧ ∀ i, i ≠ d → i ≠ l → S'[i]? = S[i]?
theorem KpS.refl (d l : Nat) (S : Sto) : KpS d l S S := ⟨rfl, fun _ _ _ => rfl⟩
theorem KpS.trans {d l : Nat} {S S1 S2 : Sto} (a : KpS d l S S1) (b : KpS d l S1 S2) : KpS d l S S2 := ⟨b.1.trans a.1, fun i h1 h2 => (b.2 i h1 h2).trans (a.2 i h1 h2)⟩
theorem KpS.setL {d l : Nat} {S : Sto} {o : Ob} : KpS d l S (S.set l o) := ⟨by simp, fun i _ h => by rw [List.getElem?_set_ne (Ne.symm h)]⟩
theorem KpS.setD {d l : Nat} {S : Sto} {o : Ob} : KpS d l S (S.set d o) := ⟨by simp, fun i h _ => by rw [List.getElem?_set_ne (Ne.symm h)]⟩
theorem set_get {S : Sto} {r : Nat} {o o' : Ob} (h : S[r]? = some o) : (S.set r o')[r]? = some o' := by
  rw [List.getElem?_set_self (List.getElem?_eq_some_iff.mp h).1]
theorem DealAtS.put {S : Sto} {d l : Nat} {ns ms : List Int} {b : Int} (D : DealAtS S d l ns b) (h1 : ∀ n ∈ ms, 0 ≤ n) (h2 : ms.length ≤ 48) : DealAtS (S.set l (.lst (ms.map fun n => .p (.int n)))) d l ms b :=
  ⟨by rw [List.getElem?_set_ne D.ne]; exact D.ob, set_get D.li, D.ne, h1, h2, D.b0, D.b1⟩
theorem DealAtS.turn {S : Sto} {d l : Nat} {ns : List Int} {b c : Int} (D : DealAtS S d l ns b) (h0 : 0 ≤ c) (h1 : c < 2147483647) : DealAtS (S.set d (.lst [.ref l, .p (.int c)])) d l ns c :=
  ⟨set_get D.ob, by rw [List.getElem?_set_ne D.ne.symm]; exact D.li, D.ne, D.nn, D.ln, h0, h1⟩
theorem pures_ints (ns : List Int) : pures (ns.map fun n => .p (.int n)) = some (ns.map .int) := by
  rw [show (ns.map fun n => D.p (.int n)) = (ns.map PyData.int).map D.p by rw [List.map_map]; rfl, pures_map]
/-- a list of the store, an empty one: is it not that -/
theorem ne_nil {S : Sto} {l : Nat} {ns : List Int} (h : S[l]? = some (.lst (ns.map fun n => .p (.int n)))) : gNe (.ref l) (.p (.list [])) S = .ok (dBl (!ns.isEmpty)) S := by
  unfold gNe asP
  simp only [h, pures_ints, Option.map_some]
  rw [if_pos (by rw [shapedInts ns]; exact shapedInts []), eqvNil]
theorem eq_int (i j : Int) (S : Sto) : gEq (.p (.int i)) (.p (.int j)) S = .ok (dBl (i == j)) S := rfl
theorem mod_ok {x m : Int} (h : 0 < m) : 0 ≤ x % m ∧ x % m < m := ⟨Int.emod_nonneg _ (by omega), Int.emod_lt_of_pos _ h⟩
theorem ref_view {S : Sto} {r : Nat} {ds : List D} (h : S[r]? = some (.lst ds)) : viewS (.ref r) S = some ds ∧ viewL (.ref r) S = some ds ∧ isLst (.ref r) S = true ∧ refL (.ref r) S = some (r, ds) := by
  refine ⟨?_, ?_, ?_, ?_⟩ <;> simp only [viewS, viewT, viewL, isLst, refL, h, Option.isSome_some]
theorem ix_ref {S : Sto} {r : Nat} {ds : List D} {i : Int} {x : D} (h : S[r]? = some (.lst ds)) (e : atI ds i = some x) : fIx (.ref r) (.p (.int i)) S = .ok x S := by
  unfold fIx
  simp only [(ref_view h).1, e]
theorem pop_ref {S : Sto} {r : Nat} {ds : List D} {x : D} (h : S[r]? = some (.lst (ds ++ [x]))) : gPop (.ref r) [] S = .ok x (S.set r (.lst ds)) := by
  unfold gPop
  simp [(ref_view h).2.2.2]
theorem app_ref {S : Sto} {r : Nat} {ds : List D} {x : D} (h : S[r]? = some (.lst ds)) (l : ds.length < 400000) : gAppend (.ref r) [x] S = .ok (.p .none) (S.set r (.lst (ds ++ [x]))) := by
  unfold gAppend
  simp [(ref_view h).2.2.2, l]
theorem any_ok {S : Sto} {d l : Nat} {m : Int} (D : DealS S d l) (m1 : 1 ≤ m) (m2 : m ≤ 1000000) : Ok (f_law_any [.ref d, .p (.int m)] S) fun x S' => ∃ r, x = .p (.int r) ∧ 0 ≤ r ∧ r < m ∧ DealS S' d l ∧ KpS d l S S' := by
  obtain ⟨ns0, b0, D0⟩ := D
  have k1 : decide ((0 : Int) < 2147483647) = true := by decide
  have k2 : decide ((0 : Int) < 64 ∧ (64 : Int) < 1073741824) = true := by decide
  have k3 : decide (0 < m) = true := decide_eq_true (by omega)
  have k4 : decide (0 < m ∧ m < 1073741824) = true := decide_eq_true (by omega)
  refine def_ok (seq_cut (Q := fun E S1 => ∃ ns, E = [some (.ref d), some (.p (.int m)), none] ∧ DealAtS S1 d l ns b0 ∧ KpS d l S S1) ?_ ?_)
  · refine while_ok (m := ns0.length) (I := fun n E S1 => ∃ ns, n = ns.length ∧ E = [some (.ref d), some (.p (.int m)), none] ∧ DealAtS S1 d l ns b0 ∧ KpS d l S S1) (by have := D0.ln; unfold fuelOf; omega) ⟨ns0, rfl, rfl, D0, KpS.refl _ _ _⟩ ?_
    rintro n E S1 ⟨ns, rfl, rfl, D1, K1⟩
    rcases List.eq_nil_or_concat ns with e | ⟨pre, z, e⟩
    · subst e
      simp only [fAndT, fB, fOp, fLst, fVar, fC, fNilA, bind_ok, List.getElem?_cons_zero, ix_ref D1.ob (at0 _ _), List.length_nil, Nat.zero_le, if_true, newL, pures_nil, ne_nil D1.li, gBool, dBl, List.isEmpty_nil, Bool.not_true, Bool.false_eq_true, if_false, ok_ok]
      exact ⟨[], by trivial, D1, K1⟩
    · rw [List.concat_eq_append] at e
      subst e
      have hl : S1[l]? = some (.lst ((pre.map fun n => .p (.int n)) ++ [.p (.int z)])) := by rw [D1.li, List.map_append]; rfl
      have ie : (pre ++ [z]).isEmpty = false := by cases pre <;> rfl
      simp only [fAndT, fB, fOp, fLst, fVar, fC, fNilA, bind_ok, List.getElem?_cons_zero, ix_ref D1.ob (at0 _ _), List.length_nil, Nat.zero_le, if_true, newL, pures_nil, ne_nil D1.li, gBool, dBl, ie, Bool.not_false, fUn, gNeg, ix_ref hl (atLast _ _), eq_int, ok_ok]
      by_cases c : (z == 0) = true
      · rw [if_pos c]
        have D2 : DealAtS (S1.set l (.lst (pre.map fun n => .p (.int n)))) d l pre b0 := D1.put (fun x hx => D1.nn x (List.mem_append_left _ hx)) (by have := D1.ln; simp at this; omega)
        simp only [fDrop, fMt, fOp, fVar, fC, bind_ok, List.getElem?_cons_zero, ix_ref D1.ob (at0 _ _), (ref_view hl).2.2.1, if_true, fNilA, pop_ref hl, ok_ok]
        exact ⟨pre.length, by simp, pre, rfl, by trivial, D2, K1.trans KpS.setL⟩
      · rw [if_neg c]
        exact ⟨_, by trivial, D1, K1⟩
  · rintro E S1 ⟨ns, rfl, D1, K1⟩
    rcases List.eq_nil_or_concat ns with e | ⟨pre, z, e⟩
    · subst e
      have q1 := mod_ok (x := b0 * 40693 + 71) (m := 2147483647) (by decide)
      have D2 := D1.turn q1.1 q1.2
      have q2 := mod_ok (x := (b0 * 40693 + 71) % 2147483647 / 64) (m := m) (by omega)
      have bm : okMul b0 40693 = true := by unfold okMul; simp
      have e1 : setAt (.ref d) (.p (.int 1)) (.p (.int ((b0 * 40693 + 71) % 2147483647))) S1 = .ok () (S1.set d (.lst [.ref l, .p (.int ((b0 * 40693 + 71) % 2147483647))])) := by
        unfold setAt
        simp only [D1.ob]
        rfl
      simp only [fSeq, fIfS, fB, fOp, fLst, fVar, fC, fNilA, bind_ok, List.getElem?_cons_zero, List.getElem?_cons_succ, ix_ref D1.ob (at0 _ _), List.length_nil, Nat.zero_le, if_true, newL, pures_nil, ne_nil D1.li, gBool, dBl, List.isEmpty_nil, Bool.not_true, Bool.false_eq_true, if_false, fSkip,
        fAsg, fCallB, fConsA, gMul, gAdd, gInt, gMod, gIc, gDiv, bm, ix_ref D1.ob (at1 _ _ _), gSb, e1, fRet, ix_ref D2.ob (at1 _ _ _), decide_true, k1, k2, k3, ok_ok, finish_ret]
      rw [leave_len _ (K1.trans KpS.setD).1]
      exact ⟨_, rfl, q2.1, q2.2, ⟨[], _, D2⟩, K1.trans KpS.setD⟩
    · rw [List.concat_eq_append] at e
      subst e
      have hl : S1[l]? = some (.lst ((pre.map fun n => .p (.int n)) ++ [.p (.int z)])) := by rw [D1.li, List.map_append]; rfl
      have ie : (pre ++ [z]).isEmpty = false := by cases pre <;> rfl
      have D2 : DealAtS (S1.set l (.lst (pre.map fun n => .p (.int n)))) d l pre b0 := D1.put (fun x hx => D1.nn x (List.mem_append_left _ hx)) (by have := D1.ln; simp at this; omega)
      have z0 : 0 ≤ z := D1.nn z (by simp)
      have ln := D1.ln
      simp at ln
      have D3 : DealAtS ((S1.set l (.lst (pre.map fun n => .p (.int n)))).set l (.lst ((pre ++ [z / m]).map fun n => .p (.int n)))) d l (pre ++ [z / m]) b0 := D2.put (fun x hx => by
        rcases List.mem_append.mp hx with q | q
        · exact D2.nn x q
        · rw [List.mem_singleton.mp q]; exact Int.ediv_nonneg z0 (by omega)) (by simp; omega)
      have q2 := mod_ok (x := z) (m := m) (by omega)
      have ma : ((pre.map fun n => D.p (.int n)) ++ [.p (.int (z / m))]) = (pre ++ [z / m]).map fun n => D.p (.int n) := by rw [List.map_append]; rfl
      simp only [fSeq, fIfS, fB, fOp, fLst, fVar, fC, fNilA, bind_ok, List.getElem?_cons_zero, List.getElem?_cons_succ, ix_ref D1.ob (at0 _ _), List.length_nil, Nat.zero_le, if_true, newL, pures_nil, ne_nil D1.li, gBool, dBl, ie, Bool.not_false,
        fSet, fCallB, fConsA, fMt, (ref_view hl).2.2.1, pop_ref hl, gInt, List.set_cons_zero, List.set_cons_succ, fDrop, ix_ref D2.ob (at0 _ _), (ref_view D2.li).2.2.1, gDiv, gIc, k4,
        app_ref D2.li (x := .p (.int (z / m))) (by simp; omega), fRet, gMod, k3, ok_ok, finish_ret]
      rw [ma, leave_len _ ((K1.trans KpS.setL).trans KpS.setL).1]
      exact ⟨_, rfl, q2.1, q2.2, ⟨_, _, D3⟩, (K1.trans KpS.setL).trans KpS.setL⟩

/-! ### what a draw takes and gives -/
theorem any_k {S : Sto} {d l : Nat} {m : Int} {P : D → Sto → Prop} (Dl : DealS S d l) (m1 : 1 ≤ m) (m2 : m ≤ 1000000) (k : ∀ r S', 0 ≤ r → r < m → DealS S' d l → KpS d l S S' → P (.p (.int r)) S') : Ok (f_law_any [.ref d, .p (.int m)] S) P :=
  (any_ok Dl m1 m2).imp fun x S' ⟨r, e, h1, h2, h3, h4⟩ => by rw [e]; exact k r S' h1 h2 h3 h4
theorem of_k {S : Sto} {d l : Nat} {xs : List PyData} {P : D → Sto → Prop} (Dl : DealS S d l) (h0 : xs ≠ []) (h1 : xs.length ≤ 1000000) (k : ∀ (i : Nat) (x : PyData) (S' : Sto), xs[i]? = some x → DealS S' d l → KpS d l S S' → P (.p x) S') : Ok (f_law_of [.ref d, .p (.list xs)] S) P := by
  have hp := List.length_pos_iff.mpr h0
  unfold f_law_of
  walk_at "sv"
  refine any_k Dl (by omega) (by omega) fun r S' r0 r1 D' K' => ?_
  obtain ⟨j, rfl⟩ : ∃ j : Nat, r = j := ⟨r.toNat, by omega⟩
  have hj : xs[j]? = some (xs[j]'(by omega)) := by simp
  walk_at "sv"
  rw [ix_l (show atI xs (j : Int) = some (xs[j]'(by omega)) by unfold atI ixN; rw [if_pos (by omega), if_pos (by omega)]; simp), ok_ok]
  simp only [kRet_, kFin_ret]
  rw [leave_len _ K'.1, ok_ok]
  exact k j _ S' hj D' K'
/-- a drawn list of rules -/
theorem toDs_p (rs : List Rl) : (Rl.toDs rs).map D.p = rs.map fun r => D.p r.toD := by
  rw [Rl.toDs_map, List.map_map]; rfl
def ruleSpec (rule : FN) (d l : Nat) (N top : Int) (any : Bool) (deep : Nat) : Prop := ∀ S, DealS S d l → Ok (rule [.ref d, .p (.int N), .p (.int top), .p (.int deep), .p (.bool any)] S) fun x S' => ∃ r : Rl, x = .p r.toD ∧ r.Drawn N top any deep ∧ DealS S' d l ∧ KpS d l S S'
theorem ruleSpec.k {rule : FN} {d l : Nat} {N top : Int} {any : Bool} {deep : Nat} {S : Sto} {P : D → Sto → Prop} (h : ruleSpec rule d l N top any deep) (Dl : DealS S d l) (k : ∀ (r : Rl) S', r.Drawn N top any deep → DealS S' d l → KpS d l S S' → P (.p r.toD) S') :
    Ok (rule [.ref d, .p (.int N), .p (.int top), .p (.int deep), .p (.bool any)] S) P := (h S Dl).imp fun x S' ⟨r, e, h1, h2, h3⟩ => by rw [e]; exact k r S' h1 h2 h3
theorem rng_len (lo : Int) (n : Nat) : (rngD lo n).length = n := by simp [rngD]
/-- so many drawn rules -/
theorem rules_lc {rule : FN} {d l : Nat} {N top : Int} {any : Bool} {deep n : Nat} {te : FE} {E : En} {S : Sto} {P : List D → Sto → Prop} (h : ruleSpec rule d l N top any deep) (hn : n ≤ 1000) (Dl : DealS S d l)
    (he : ∀ i S (P : D → Sto → Prop), Ok (rule [.ref d, .p (.int N), .p (.int top), .p (.int deep), .p (.bool any)] S) P → Ok (te (E.set 6 (some (.p (.int i)))) S) P)
    (k : ∀ (rs : List Rl) S', rs.length = n → (∀ r ∈ rs, r.Drawn N top any deep) → DealS S' d l → KpS d l S S' → P ((Rl.toDs rs).map .p) S') :
    Ok (lcN (.fix (rngD 0 n)) (.one 6) fYes te E (Wk.fix (rngD 0 n)).fuel 0 [] S) P := by
  refine lc_ok (I := fun i acc S1 => ∃ rs : List Rl, rs.length = i ∧ acc = (Rl.toDs rs).map .p ∧ (∀ r ∈ rs, r.Drawn N top any deep) ∧ DealS S1 d l ∧ KpS d l S S1) (by rw [rng_len]; omega) ⟨[], rfl, rfl, by simp, Dl, KpS.refl _ _ _⟩ ?_ ?_
  · rintro i dd acc S1 hi ⟨rs, rfl, rfl, hr, D1, K1⟩
    refine ⟨_, rfl, ?_⟩
    rw [fYes_ok, if_pos rfl]
    have : ∃ j : Int, dd = .p (.int j) := by
      unfold rngD at hi
      rw [List.getElem?_map] at hi
      obtain ⟨a, _, e⟩ := Option.map_eq_some_iff.mp hi
      exact ⟨_, e.symm⟩
    obtain ⟨j, rfl⟩ := this
    refine he j S1 _ (h.k D1 fun r S' dr D' K' => ⟨rs ++ [r], by simp, ?_, ?_, D', K1.trans K'⟩)
    · rw [Rl.toDs_app]; simp [Rl.toDs]
    · intro x hx
      rcases List.mem_append.mp hx with q | q
      · exact hr x q
      · rw [List.mem_singleton.mp q]; exact dr
  · rintro acc S1 ⟨rs, e, rfl, hr, D1, K1⟩
    rw [rng_len] at e
    exact k rs S1 e hr D1 K1
/-- so many drawn numbers -/
theorem nums_lc {d l : Nat} {m : Int} {i0 n : Nat} {te : FE} {E : En} {S : Sto} {P : List D → Sto → Prop} (hn : n ≤ 1000) (m1 : 1 ≤ m) (m2 : m ≤ 1000000) (Dl : DealS S d l)
    (he : ∀ i S (P : D → Sto → Prop), Ok (f_law_any [.ref d, .p (.int m)] S) P → Ok (te (E.set i0 (some (.p (.int i)))) S) P)
    (k : ∀ (ns : List Int) S', ns.length = n → (∀ x ∈ ns, 0 ≤ x ∧ x < m) → DealS S' d l → KpS d l S S' → P ((ns.map PyData.int).map .p) S') :
    Ok (lcN (.fix (rngD 0 n)) (.one i0) fYes te E (Wk.fix (rngD 0 n)).fuel 0 [] S) P := by
  refine lc_ok (I := fun i acc S1 => ∃ ns : List Int, ns.length = i ∧ acc = (ns.map PyData.int).map .p ∧ (∀ x ∈ ns, 0 ≤ x ∧ x < m) ∧ DealS S1 d l ∧ KpS d l S S1) (by rw [rng_len]; omega) ⟨[], rfl, rfl, by simp, Dl, KpS.refl _ _ _⟩ ?_ ?_
  · rintro i dd acc S1 hi ⟨rs, rfl, rfl, hr, D1, K1⟩
    refine ⟨_, rfl, ?_⟩
    rw [fYes_ok, if_pos rfl]
    have : ∃ j : Int, dd = .p (.int j) := by
      unfold rngD at hi
      rw [List.getElem?_map] at hi
      obtain ⟨a, _, e⟩ := Option.map_eq_some_iff.mp hi
      exact ⟨_, e.symm⟩
    obtain ⟨j, rfl⟩ := this
    refine he j S1 _ (any_k D1 m1 m2 fun r S' r0 r1 D' K' => ⟨rs ++ [r], by simp, by simp, ?_, D', K1.trans K'⟩)
    intro x hx
    rcases List.mem_append.mp hx with q | q
    · exact hr x q
    · rw [List.mem_singleton.mp q]; exact ⟨r0, r1⟩
  · rintro acc S1 ⟨rs, e, rfl, hr, D1, K1⟩
    rw [rng_len] at e
    exact k rs S1 e hr D1 K1
theorem rng1_i {j : Int} {S : Sto} (h : -(2 ^ 62) < j ∧ j < 2 ^ 62) : wkRng1 [.p (.int j)] S = .ok (.fix (rngD 0 j.toNat)) S := by
  unfold wkRng1
  dsimp only
  rw [if_pos (by omega)]
theorem rng2_i {i j : Int} {S : Sto} (h : -(2 ^ 62) < i ∧ i < 2 ^ 62) (h2 : -(2 ^ 62) < j ∧ j < 2 ^ 62) : wkRng2 [.p (.int i), .p (.int j)] S = .ok (.fix (rngD i (j - i).toNat)) S := by
  unfold wkRng2
  dsimp only
  rw [if_pos (by omega)]
theorem add_tt {xs ys : List PyData} {S : Sto} (h : xs.length + ys.length ≤ sizeLine) : gAdd (.p (.tuple xs)) (.p (.tuple ys)) S = .ok (.p (.tuple (xs ++ ys))) S := by
  unfold gAdd viewT
  simp only [List.length_map, h, if_true, ← List.map_append, mkT_p]
theorem bi2 {b c : Bool} {A B : Prop} (h1 : b = true → c = true → A) (h2 : (b = false ∨ c = false) → B) : if b = true then (if c = true then A else B) else B := by
  cases b with
  | false => exact h2 (.inl rfl)
  | true => cases c with
    | false => exact h2 (.inr rfl)
    | true => exact h1 rfl rfl
theorem intsD_p (ns : List Int) : intsD ((ns.map PyData.int).map D.p) = some ns := by
  rw [List.map_map]; exact ints_map ns
theorem sorted_l {ns : List Int} {S : Sto} : gSorted true [.p (.list (ns.map PyData.int))] S = .ok (.p (.list ((isort ns).map PyData.int))) S := by
  unfold gSorted viewL
  simp only [Option.bind_some, intsD_p]
  rw [show (isort ns).map (fun i => D.p (.int i)) = ((isort ns).map PyData.int).map D.p by rw [List.map_map]; rfl, newL_p]
theorem rule_ok {d l : Nat} {N top : Int} {any : Bool} (n1 : 1 ≤ N) (n2 : N ≤ 1000) (t0 : 0 ≤ top) (t1 : top ≤ 50) : ∀ (n deep : Nat), deep + 1 ≤ n → ruleSpec (f_law_rule n) d l N top any deep
  | 0, _, h => by omega
  | n + 1, deep, hd => fun S Dl => by
    show Ok (defF 11 (b_law_rule (f_law_rule n)) _ S) _
    unfold b_law_rule
    walk_at "sv"
    have key : ∀ K : D → Sto → Prop, (∀ (form : Int) S1, 0 ≤ form → form < 14 → (deep = 0 → form < 4) → DealS S1 d l → KpS d l S S1 → K (.p (.int form)) S1) →
        if decide ((0 : Int) < deep) = true then Ok (f_law_any [.ref d, .p (.int 14)] S) K else Ok (f_law_any [.ref d, .p (.int 4)] S) K := fun K k => by
      by_cases c : deep = 0
      · rw [if_neg (by simp; omega)]
        exact any_k Dl (by decide) (by decide) fun r S1 r0 r1 D1 K1 => k r S1 r0 (by omega) (fun _ => r1) D1 K1
      · rw [if_pos (by simp; omega)]
        exact any_k Dl (by decide) (by decide) fun r S1 r0 r1 D1 K1 => k r S1 r0 r1 (fun e => absurd e c) D1 K1
    refine key _ fun form S1 f0 f1 f2 D1 K1 => ?_
    walk_at "sv"
    have fin : ∀ {r : Rl} {S2 : Sto}, r.Drawn N top any deep → DealS S2 d l → KpS d l S S2 → Ok (leave S (.p r.toD) S2) fun x S' => ∃ r : Rl, x = .p r.toD ∧ r.Drawn N top any deep ∧ DealS S' d l ∧ KpS d l S S' := fun {r S2} h1 h2 h3 => by
      rw [leave_len _ h3.1, ok_ok]
      exact ⟨r, rfl, h1, h2, h3⟩
    refine bi (fun c => ?_) (fun c => ?_)
    · refine any_k D1 (by omega) (by omega) fun r S2 r0 r1 D2 K2 => ?_
      walk_at "sv"
      exact fin (r := .is r) (Rl.Drawn.leafI _ ⟨r0, by omega⟩) D2 (K1.trans K2)
    have c0 : form ≠ 0 := by simpa using c
    refine bi (fun c => ?_) (fun c => ?_)
    · refine any_k D1 (by omega) (by omega) fun r S2 r0 r1 D2 K2 => ?_
      walk_at "sv"
      exact fin (r := .hear r) (Rl.Drawn.leafH _ ⟨r0, by omega⟩) D2 (K1.trans K2)
    have c1 : 4 ≤ form := by simpa using c
    obtain ⟨dp, rfl⟩ : ∃ dp, deep = dp + 1 := ⟨deep - 1, by have := f2; omega⟩
    have IH := rule_ok (d := d) (l := l) (any := any) n1 n2 t0 t1 n dp (by omega)
    have ed : ((dp + 1 : Nat) : Int) - 1 = (dp : Int) := by omega
    refine bi (fun c => ?_) (fun c => ?_)
    · refine any_k D1 (by omega) (by omega) fun r S2 r0 r1 D2 K2 => ?_
      walk_at "sv"
      rw [rng1_i (by omega)]
      walk_at "sv"
      refine rules_lc IH (by omega) D2 (fun i S3 P hq => ?_) fun rs S3 hl hr D3 K3 => ?_
      · walk_at "sv"
        rw [ed]; exact hq
      walk_at "sv"
      refine of_k D3 (by simp) (by simp) fun i x S4 hx D4 K4 => ?_
      walk_at "sv"
      have mk : ∀ k : LK, x = .str k.w → Ok (leave S (.p (.tuple [x, .tuple (Rl.toDs rs)])) S4) fun x S' => ∃ r : Rl, x = .p r.toD ∧ r.Drawn N top any (dp + 1) ∧ DealS S' d l ∧ KpS d l S S' := fun k e => by
        subst e
        have := fin (r := .lst k rs) (Rl.Drawn.lst (fun e => by rw [e] at hl; simp at hl; omega) (by omega) hr) D4 (((K1.trans K2).trans K3).trans K4)
        simpa only [Rl.toD] using this
      match i, hx with
      | 0, hx => exact mk .least (Option.some.inj hx).symm
      | 1, hx => exact mk .most (Option.some.inj hx).symm
      | 2, hx => exact mk .add (Option.some.inj hx).symm
      | i + 3, hx => simp at hx
    have c2 : 8 ≤ form := by simpa using c
    refine bi2 (fun c c3 => ?_) (fun cc => ?_)
    · have : dp = 0 := by simp at c3; omega
      subst this
      rw [rng1_i (by omega)]
      walk_at "sv"
      refine rules_lc IH (by decide) D1 (fun i S3 P hq => ?_) fun rs S3 hl hr D3 K3 => ?_
      · walk_at "sv"
        exact hq
      walk_at "sv"
      have hl3 : rs.length = 3 := hl
      match rs, hl3, hr with
      | [x, y, z], _, hr =>
        rw [add_tt (by rw [Rl.toDs_len, sizeLine_eq]; simp), ok_ok]
        walk_at "sv"
        have := fin (r := .mid x y z) (Rl.Drawn.mid (hr x (by simp)) (hr y (by simp)) (hr z (by simp))) D3 (K1.trans K3)
        simpa only [Rl.toD, Rl.toDs] using this
    have nf : ¬ (form = 8 ∧ dp = 0) := fun ⟨h1, h2⟩ => by
      rcases cc with q | q
      · simp [h1] at q
      · simp [h2] at q
    rw [ed]
    refine IH.k D1 fun inner S2 di D2 K2 => ?_
    have K12 := K1.trans K2
    walk_at "sv"
    -- one rule around the inner one
    have fu : ∀ {u : Un} {S3 : Sto}, u.ok N top any → DealS S3 d l → KpS d l S S3 → Ok (leave S (.p (.tuple (.str u.w :: (u.d ++ [inner.toD])))) S3) fun x S' => ∃ r : Rl, x = .p r.toD ∧ r.Drawn N top any (dp + 1) ∧ DealS S' d l ∧ KpS d l S S' := fun {u S3} h1 h2 h3 => by
      have := fin (r := .un u inner) (Rl.Drawn.un h1 di) h2 h3
      simpa only [Rl.toD] using this
    refine bi (fun c => ?_) (fun c => ?_)
    · refine any_k D2 (by decide) (by decide) fun r S3 r0 r1 D3 K3 => ?_
      walk_at "sv"
      exact fu (u := .times r) ⟨r0, r1⟩ D3 (K12.trans K3)
    refine bi (fun c => ?_) (fun c => ?_)
    · refine any_k D2 (by decide) (by decide) fun r S3 r0 r1 D3 K3 => ?_
      walk_at "sv"
      exact fu (u := .part (1 + r)) ⟨by omega, by omega⟩ D3 (K12.trans K3)
    refine bi (fun c => ?_) (fun c => ?_)
    · refine any_k D2 (by omega) (by omega) fun r S3 r0 r1 D3 K3 => ?_
      walk_at "sv"
      refine any_k D3 (by decide) (by decide) fun q S4 q0 q1 D4 K4 => ?_
      walk_at "sv"
      exact fu (u := .clip r (r + q)) ⟨r0, by omega, by omega, by omega⟩ D4 ((K12.trans K3).trans K4)
    refine bi (fun c => ?_) (fun c => ?_)
    · refine any_k D2 (by omega) (by omega) fun r S3 r0 r1 D3 K3 => ?_
      walk_at "sv"
      refine any_k D3 (by omega) (by omega) fun q S4 q0 q1 D4 K4 => ?_
      walk_at "sv"
      refine any_k D4 (by omega) (by omega) fun p S5 p0 p1 D5 K5 => ?_
      walk_at "sv"
      exact fu (u := .bar r q p) ⟨r0, by omega, q0, by omega, p0, by omega⟩ D5 (((K12.trans K3).trans K4).trans K5)
    refine bi (fun c => ?_) (fun c => ?_)
    · refine any_k D2 (by omega) (by omega) fun r S3 r0 r1 D3 K3 => ?_
      walk_at "sv"
      rw [rng1_i (by omega)]
      walk_at "sv"
      refine nums_lc (m := top + 1) (by omega) (by omega) (by omega) D3 (fun i S3 P hq => ?_) fun ns S4 hl hr D4 K4 => ?_
      · walk_at "sv"
        exact hq
      walk_at "sv"
      have ok1 : ∀ ms : List Int, ms.Perm ns → (any = false → ms.Pairwise (· ≤ ·)) → (Un.row ms).ok N top any := fun ms hp hs => by
        have hlm : ms.length = ns.length := hp.length_eq
        refine ⟨fun e => ?_, by omega, fun x hx => ?_, hs⟩
        · rw [e] at hlm; simp at hlm; omega
        · have := hr x (hp.mem_iff.mp hx); omega
      refine bi (fun c5 => ?_) (fun c5 => ?_)
      · exact fu (u := .row ns) (ok1 ns (.refl _) (fun e => by rw [c5] at e; cases e)) D4 ((K12.trans K3).trans K4)
      · rw [sorted_l, ok_ok]
        walk_at "sv"
        exact fu (u := .row (isort ns)) (ok1 _ (isort_perm ns) (fun _ => isort_sorted ns)) D4 ((K12.trans K3).trans K4)
    · refine any_k D2 (by omega) (by omega) fun r S3 r0 r1 D3 K3 => ?_
      walk_at "sv"
      exact fu (u := .frm r) ⟨r0, by omega⟩ D3 (K12.trans K3)

end SM
set_option linter.all false
set_option maxRecDepth 100000
set_option maxHeartbeats 4000000
namespace SM
open PySem PySem.Spec PyProof.Rows L2 NB RZ SV PD
local macro_rules | `(tactic| walk_at "sv") => `(tactic| simp only [fC_ok, kOp2_, kOp1_, fOp_ok, kUn_, fUn_ok, fNilA_ok, kCons2_, kCons1_, fConsA_ok, kTup_, fTup_ok, kLst_, fLst_ok, kTru_, fTru_ok, kB_, fB_ok, kNotT_, fNotT_ok, kAndT_, fAndT_ok, kOrT_, fOrT_ok, kIf_, fIf_ok, kAndV_, kOrV_, fAndV_ok, fOrV_ok, kCallB_, fCallB_ok, kCall_, fCall_ok, kCallK_, fCallK_ok, kRev_, fRev_ok, fNoO_ok, fSomeO_ok, kSl3_, kSl2_, kSl1_, fSl_ok, kCh3_, kCh2_, kCh1_, kCh0_, fChain_ok, kMt2_, kMt1_, fMt_ok, fSkip_ok, fSeq_ok, kSet_, fSet_ok, kDrop_, fDrop_ok, kRet_, fRet_ok, fRetN_ok, kIfS_, fIfS_ok, fBrk_ok, fCt_ok, kAug2_, kAug1_, kAsg2_, kAsg1_, fAsg_ok, fPar_ok, gNm_ok, gN0_ok, kC0_, gC0_ok, kSb3_, kSb2_, kSb1_, gSb_ok, kFor_, fFor_ok, kWk_, fWk_ok, kRng1_, fRng1_ok, kRng2_, fRng2_ok, kEnum_, fEnum_ok, kZip_, fZip_ok, kLc2_, kLc1_, fLc_ok, fYes_ok, kQu2_, kQu1_, fQu_ok, leave_same, defK_k, kFinK_ret, kFinK_nx, fVar0_ok, fVarS_ok, defF_ok, kSeq_nx, kSeq_ret, kSeq_brk, kSeq_ct, kSomeO_int, kPar_two, kFin_ret, kFin_nx, add_ii, sub_ii, lt_ii, le_ii, gt_ii, ge_ii, eq_ii, ne_ii, iadd_ii, gBool_b, gTru_b, gNot_b, gNeg_i, gInt_i, gAbs_i, min_ii, max_ii, len_l, len_t, tup_t, tup_l, lst_l, lst_t, newL_p, ix_t0, ix_t1, ix_t2, ix_t3, ix_l0, wk_t, wk_l, vT_t, mkT0, mkT1, mkT2, mkT3, mkT4, mkT5, newL0, newL1, newL2, newL3, sz0, sz1, sz2, sz3, sz4, sz5, tru_t, tru_l, rev_t, rev_l, ok_ok, startE, dBl, dInt, List.map_cons, List.map_nil, List.length_cons, List.length_nil, List.replicate_succ, List.replicate_zero, Nat.reduceAdd, Nat.reduceSub, Nat.reduceLeDiff, List.cons_append, List.nil_append, List.set_cons_zero, List.set_cons_succ, wipeE, Bool.not_true, Bool.not_false, ↓reduceIte, Bool.false_eq_true, decide_true, decide_false, Bool.and_true, Bool.and_false, Bool.true_and, Bool.false_and])
theorem flats_p : ∀ ys : List PyData, ys.all flatP = true → flats (ys.map D.p) = some ys
  | [], _ => rfl
  | y :: r, h => by
    simp only [List.all_cons, Bool.and_eq_true] at h
    simp [flats, h.1, flats_p r h.2]
theorem in_tt {neg : Bool} {a : PyData} {ys : List PyData} {S : Sto} (fa : flatP a = true) (fy : ys.all flatP = true) : gIn neg (.p a) (.p (.tuple ys)) S = .ok (.p (.bool (if neg then !(ys.any fun b => PyData.eqv b a) else ys.any fun b => PyData.eqv b a))) S := by
  unfold gIn viewS viewT
  simp only [fa, flats_p ys fy, dBl]
theorem in_tl {neg : Bool} {a : PyData} {ys : List PyData} {S : Sto} (fa : flatP a = true) (fy : ys.all flatP = true) : gIn neg (.p a) (.p (.list ys)) S = .ok (.p (.bool (if neg then !(ys.any fun b => PyData.eqv b a) else ys.any fun b => PyData.eqv b a))) S := by
  unfold gIn viewS viewT viewL
  simp only [fa, flats_p ys fy, dBl]
/-! ### the words of a rule -/
inductive Wd | is | hear | least | most | add | middle | times | part | clip | frm | bar | row
  deriving DecidableEq
def Wd.nm : Wd → Str
  | .is => "is" | .hear => "hear" | .least => "least" | .most => "most" | .add => "add" | .middle => "middle" | .times => "times" | .part => "part" | .clip => "clip" | .frm => "from" | .bar => "bar" | .row => "row"
theorem nm_beq (a b : Wd) : (a.nm == b.nm) = decide (a = b) := by cases a <;> cases b <;> decide +kernel
theorem nm_shaped (a : Wd) : SeqAt.shaped (.str a.nm) = true := by cases a <;> decide +kernel
theorem eq_ww (a b : Wd) (S : Sto) : gEq (.p (.str a.nm)) (.p (.str b.nm)) S = .ok (.p (.bool (decide (a = b)))) S := by
  unfold gEq asP
  simp only [nm_shaped, Bool.and_self, if_true, PyData.eqv, nm_beq, dBl]
theorem eqv_ww (a b : Wd) : PyData.eqv (.str a.nm) (.str b.nm) = decide (a = b) := by simp only [PyData.eqv, nm_beq]
/-- a word among words -/
theorem in_wl (a : Wd) (ws : List Wd) (S : Sto) : gIn false (.p (.str a.nm)) (.p (.list (ws.map fun w => .str w.nm))) S = .ok (.p (.bool (decide (a ∈ ws)))) S := by
  rw [in_tl rfl (by rw [List.all_map, List.all_eq_true]; intro _ _; rfl)]
  simp only [Bool.false_eq_true, if_false, List.any_map, Function.comp_def, eqv_ww]
  congr 3
  rw [Bool.eq_iff_iff]
  simp [List.any_eq_true]
theorem in_wt (a : Wd) (ws : List Wd) (S : Sto) : gIn false (.p (.str a.nm)) (.p (.tuple (ws.map fun w => .str w.nm))) S = .ok (.p (.bool (decide (a ∈ ws)))) S := by
  rw [in_tt rfl (by rw [List.all_map, List.all_eq_true]; intro _ _; rfl)]
  simp only [Bool.false_eq_true, if_false, List.any_map, Function.comp_def, eqv_ww]
  congr 3
  rw [Bool.eq_iff_iff]
  simp [List.any_eq_true]
def unWd : Un → Wd
  | .times _ => .times | .part _ => .part | .clip _ _ => .clip | .frm _ => .frm | .bar _ _ _ => .bar | .row _ => .row
def lkWd : LK → Wd
  | .least => .least | .most => .most | .add => .add
def rlWd : Rl → Wd
  | .is _ => .is | .hear _ => .hear | .lst k _ => lkWd k | .mid _ _ _ => .middle | .un u _ => unWd u
def rlRest : Rl → List PyData
  | .is w => [.int w] | .hear j => [.int j] | .lst _ ps => [.tuple (Rl.toDs ps)] | .mid a b c => [a.toD, b.toD, c.toD] | .un u a => u.d ++ [a.toD]
theorem toD_eq (r : Rl) : r.toD = .tuple (.str (rlWd r).nm :: rlRest r) := by
  cases r with
  | is w => simp only [Rl.toD, rlRest]; rfl
  | hear w => simp only [Rl.toD, rlRest]; rfl
  | lst k ps => simp only [Rl.toD, rlRest]; cases k <;> rfl
  | mid a b c => simp only [Rl.toD, rlRest]; rfl
  | un u a => simp only [Rl.toD, rlRest]; cases u <;> rfl
theorem eq_is (a : Wd) (S : Sto) : gEq (.p (.str a.nm)) (.p (.str "is")) S = .ok (.p (.bool (decide (a = .is)))) S := eq_ww a .is S
theorem eq_hear (a : Wd) (S : Sto) : gEq (.p (.str a.nm)) (.p (.str "hear")) S = .ok (.p (.bool (decide (a = .hear)))) S := eq_ww a .hear S
theorem eq_least (a : Wd) (S : Sto) : gEq (.p (.str a.nm)) (.p (.str "least")) S = .ok (.p (.bool (decide (a = .least)))) S := eq_ww a .least S
theorem eq_most (a : Wd) (S : Sto) : gEq (.p (.str a.nm)) (.p (.str "most")) S = .ok (.p (.bool (decide (a = .most)))) S := eq_ww a .most S
theorem eq_add (a : Wd) (S : Sto) : gEq (.p (.str a.nm)) (.p (.str "add")) S = .ok (.p (.bool (decide (a = .add)))) S := eq_ww a .add S
theorem eq_middle (a : Wd) (S : Sto) : gEq (.p (.str a.nm)) (.p (.str "middle")) S = .ok (.p (.bool (decide (a = .middle)))) S := eq_ww a .middle S
theorem eq_times (a : Wd) (S : Sto) : gEq (.p (.str a.nm)) (.p (.str "times")) S = .ok (.p (.bool (decide (a = .times)))) S := eq_ww a .times S
theorem eq_part (a : Wd) (S : Sto) : gEq (.p (.str a.nm)) (.p (.str "part")) S = .ok (.p (.bool (decide (a = .part)))) S := eq_ww a .part S
theorem eq_clip (a : Wd) (S : Sto) : gEq (.p (.str a.nm)) (.p (.str "clip")) S = .ok (.p (.bool (decide (a = .clip)))) S := eq_ww a .clip S
theorem eq_from (a : Wd) (S : Sto) : gEq (.p (.str a.nm)) (.p (.str "from")) S = .ok (.p (.bool (decide (a = .frm)))) S := eq_ww a .frm S
theorem eq_bar (a : Wd) (S : Sto) : gEq (.p (.str a.nm)) (.p (.str "bar")) S = .ok (.p (.bool (decide (a = .bar)))) S := eq_ww a .bar S
theorem eq_row (a : Wd) (S : Sto) : gEq (.p (.str a.nm)) (.p (.str "row")) S = .ok (.p (.bool (decide (a = .row)))) S := eq_ww a .row S
theorem in_leafL (a : Wd) (S : Sto) : gIn false (.p (.str a.nm)) (.p (.list [.str "is", .str "hear"])) S = .ok (.p (.bool (decide (a ∈ [Wd.is, .hear])))) S := in_wl a [.is, .hear] S
theorem in_leafT (a : Wd) (S : Sto) : gIn false (.p (.str a.nm)) (.p (.tuple [.str "is", .str "hear"])) S = .ok (.p (.bool (decide (a ∈ [Wd.is, .hear])))) S := in_wt a [.is, .hear] S
theorem in_listL (a : Wd) (S : Sto) : gIn false (.p (.str a.nm)) (.p (.list [.str "least", .str "most", .str "add"])) S = .ok (.p (.bool (decide (a ∈ [Wd.least, .most, .add])))) S := in_wl a [.least, .most, .add] S
theorem in_listT (a : Wd) (S : Sto) : gIn false (.p (.str a.nm)) (.p (.tuple [.str "least", .str "most", .str "add"])) S = .ok (.p (.bool (decide (a ∈ [Wd.least, .most, .add])))) S := in_wt a [.least, .most, .add] S
/-! ### a rule's parts -/
theorem sl_t {xs ys : List PyData} {lo hi : Option Int} {fz : Bool} {S : Sto} (h : SV.cutD xs lo hi = ys) : gSl fz (.p (.tuple xs)) lo hi S = .ok (.p (.tuple ys)) S := by
  unfold gSl viewT
  have : SV.cutD (xs.map D.p) lo hi = ys.map D.p := by rw [← h]; unfold SV.cutD; rw [List.length_map, List.map_take, List.map_drop]
  simp only [this, mkT_p]
theorem cut_from1 {α : Type} (x : α) (r : List α) : SV.cutD (x :: r) (some 1) none = r := by
  unfold SV.cutD
  have h1 : HT.sIx (x :: r).length 0 (some 1) = 1 := by
    rw [show (1 : Int) = ((1 : Nat) : Int) from rfl, HT.sIx_nat]
    simp
  rw [h1, HT.sIx_none]
  simp
theorem cut_last {α : Type} (r : List α) (x : α) : SV.cutD (r ++ [x]) (some (-1)) none = [x] := by
  unfold SV.cutD
  have h1 : HT.sIx (r ++ [x]).length 0 (some (-1)) = r.length := by
    rw [List.length_append, List.length_singleton]
    show (if (-1 : Int) < 0 then ((-1 : Int) + ((r.length + 1 : Nat) : Int)).toNat else min (-1 : Int).toNat (r.length + 1)) = r.length
    rw [if_pos (by decide)]
    omega
  rw [h1, HT.sIx_none]
  simp
theorem inner_k {r : Rl} {S : Sto} {P : D → Sto → Prop} (k : P (.p (.tuple (Rl.toDs r.parts))) S) : Ok (f_inner_rules [.p r.toD] S) P := by
  unfold f_inner_rules
  rw [toD_eq]
  walk_at "sv"
  rw [in_leafT, ok_ok]
  walk_at "sv"
  rw [in_listT, ok_ok]
  walk_at "sv"
  rw [eq_middle, ok_ok]
  walk_at "sv"
  cases r with
  | is w => exact k
  | hear w => exact k
  | lst c ps =>
    rw [if_neg (by cases c <;> simp [rlWd, lkWd]), if_pos (by cases c <;> simp [rlWd, lkWd])]
    simp only [rlRest, ix_t1, ok_ok]
    walk_at "sv"
    exact k
  | mid a b c =>
    rw [if_neg (by simp [rlWd]), if_neg (by simp [rlWd]), if_pos (by simp [rlWd])]
    rw [sl_t (cut_from1 _ _), ok_ok]
    walk_at "sv"
    simpa only [Rl.parts, Rl.toDs, rlRest] using k
  | un u a =>
    rw [if_neg (by cases u <;> simp [rlWd, unWd]), if_neg (by cases u <;> simp [rlWd, unWd]), if_neg (by cases u <;> simp [rlWd, unWd])]
    rw [sl_t (ys := [a.toD]) (by
      have := cut_last (PyData.str (rlWd (.un u a)).nm :: u.d) a.toD
      exact this), ok_ok]
    walk_at "sv"
    simpa only [Rl.parts, Rl.toDs] using k
/-! ### its branches -/
theorem app_get {S : Sto} {o : Ob} : (S ++ [o])[S.length]? = some o := by rw [List.getElem?_append_right (Nat.le_refl _)]; simp
theorem app_set {S : Sto} {o o' : Ob} : (S ++ [o]).set S.length o' = S ++ [o'] := by rw [List.set_append_right _ _ (Nat.le_refl _)]; simp
theorem ext_ref {S : Sto} {r : Nat} {ds : List D} {xs : List PyData} (h : S[r]? = some (.lst ds)) (l : ds.length + xs.length ≤ 400000) : gExtend (.ref r) [.p (.tuple xs)] S = .ok (.p .none) (S.set r (.lst (ds ++ xs.map .p))) := by
  unfold gExtend
  simp only [(ref_view h).2.2.2, viewS, viewT, List.length_map, l, if_true]
theorem tup_ref {S : Sto} {r : Nat} {xs : List PyData} (h : S[r]? = some (.lst (xs.map .p))) : gTuple [.ref r] S = .ok (.p (.tuple xs)) S := by
  unfold gTuple viewT
  simp only [(ref_view h).2.1, mkT_p]
theorem branches_k : ∀ (n : Nat) (r : Rl), r.dep + 1 ≤ n → r.cnt ≤ 100000 → ∀ {S : Sto} {P : D → Sto → Prop}, P (.p (.tuple (r.brs.map .int))) S → Ok (f_branches n [.p r.toD] S) P
  | 0, _, h, _, _, _, _ => by omega
  | n + 1, r, hd, hc, S, P, k => by
    show Ok (defF 3 (b_branches (f_branches n)) _ S) P
    unfold b_branches
    rw [show (D.p r.toD) = .p (.tuple (.str (rlWd r).nm :: rlRest r)) by rw [toD_eq]]
    walk_at "sv"
    rw [eq_hear, ok_ok]
    walk_at "sv"
    refine bi (fun c => ?_) (fun c => ?_)
    · cases r with
      | hear j =>
        simp only [rlRest, ix_t1, ok_ok]
        walk_at "sv"
        simpa only [Rl.brs, List.map_cons, List.map_nil] using k
      | is w => simp [rlWd] at c
      | lst q ps => cases q <;> simp [rlWd, lkWd] at c
      | mid a b c' => simp [rlWd] at c
      | un u a => cases u <;> simp [rlWd, unWd] at c
    · have nh : ∀ j, r ≠ .hear j := fun j e => by subst e; simp [rlWd] at c
      rw [newM, ok_ok]
      walk_at "sv"
      rw [show (D.p (.tuple (.str (rlWd r).nm :: rlRest r))) = .p r.toD by rw [toD_eq]]
      refine inner_k ?_
      walk_at "sv"
      have hbl := Rl.brs_parts r nh
      have hc2 := Rl.cnt_parts r
      refine for_ok (I := fun i E S1 => ∃ o, E = [some (.p r.toD), some (.ref S.length), o] ∧ S1 = S ++ [.lst ((((Rl.brsA (r.parts.take i))).map PyData.int).map .p)]) ⟨none, rfl, by simp [Rl.brsA]⟩ ?_ ?_
      · rintro i dd E S1 hi ⟨o, rfl, rfl⟩
        obtain ⟨p, hp, rfl⟩ : ∃ p, r.parts[i]? = some p ∧ dd = .p p.toD := by
          rw [toDs_p, List.getElem?_map] at hi
          obtain ⟨p, h1, h2⟩ := Option.map_eq_some_iff.mp hi
          exact ⟨p, h1, h2.symm⟩
        have hm := List.mem_of_getElem? hp
        have dp := Rl.part_dep hm
        have cp := Rl.part_cnt hm
        walk_at "sv"
        rw [if_pos (ref_view app_get).2.2.1]
        refine branches_k n p (by omega) (by omega) ?_
        walk_at "sv"
        have l1 := Rl.brsA_take_le r.parts i
        have l2 := Rl.brs_cnt p
        rw [ext_ref app_get (by simp; omega), ok_ok]
        walk_at "sv"
        rw [app_set, Rl.brsA_take hp]
        exact ⟨_, rfl, by simp⟩
      · rintro E S1 ⟨o, rfl, rfl⟩
        walk_at "sv"
        rw [List.length_map, Rl.toDs_len, List.take_length, ← hbl, tup_ref app_get, ok_ok]
        walk_at "sv"
        rw [leave_drop (by simp) (fre_p _ _ _ _), ok_ok]
        exact k

/-! ### the law's own parts and branches -/
theorem lparts_k {r : Rl} {S : Sto} {P : D → Sto → Prop} (k : P (.p (.list (Rl.toDs r.parts))) S) : Ok (f_law_parts [.p r.toD] S) P := by
  unfold f_law_parts
  rw [toD_eq]
  walk_at "sv"
  rw [in_leafL, ok_ok]
  walk_at "sv"
  rw [in_listL, ok_ok]
  walk_at "sv"
  rw [eq_middle, ok_ok]
  walk_at "sv"
  cases r with
  | is w => exact k
  | hear w => exact k
  | lst c ps =>
    rw [if_neg (by cases c <;> simp [rlWd, lkWd]), if_pos (by cases c <;> simp [rlWd, lkWd])]
    simp only [rlRest, ix_t1, ok_ok]
    walk_at "sv"
    exact k
  | mid a b c =>
    rw [if_neg (by simp [rlWd]), if_neg (by simp [rlWd]), if_pos (by simp [rlWd])]
    rw [sl_t (cut_from1 _ _), ok_ok]
    walk_at "sv"
    simpa only [Rl.parts, Rl.toDs, rlRest] using k
  | un u a =>
    rw [if_neg (by cases u <;> simp [rlWd, unWd]), if_neg (by cases u <;> simp [rlWd, unWd]), if_neg (by cases u <;> simp [rlWd, unWd])]
    rw [ix_t (x := a.toD) (by
      have := atLast (PyData.str (rlWd (.un u a)).nm :: u.d) a.toD
      exact this), ok_ok]
    walk_at "sv"
    simpa only [Rl.parts, Rl.toDs] using k
theorem add_ll {xs ys : List PyData} {S : Sto} (h : xs.length + ys.length ≤ sizeLine) : gAdd (.p (.list xs)) (.p (.list ys)) S = .ok (.p (.list (xs ++ ys))) S := by
  unfold gAdd viewT viewL
  simp only [List.length_map, h, if_true, ← List.map_append, newL_p]
theorem lbranches_k : ∀ (n : Nat) (r : Rl), r.dep + 1 ≤ n → r.cnt ≤ 100000 → ∀ {S : Sto} {P : D → Sto → Prop}, P (.p (.list (r.brs.map .int))) S → Ok (f_law_branches n [.p r.toD] S) P
  | 0, _, h, _, _, _, _ => by omega
  | n + 1, r, hd, hc, S, P, k => by
    show Ok (defF 3 (b_law_branches (f_law_branches n)) _ S) P
    unfold b_law_branches
    rw [show (D.p r.toD) = .p (.tuple (.str (rlWd r).nm :: rlRest r)) by rw [toD_eq]]
    walk_at "sv"
    rw [eq_hear, ok_ok]
    walk_at "sv"
    have hc2 := Rl.cnt_parts r
    have loop : ∀ b0 : List Int, r.brs = b0 ++ Rl.brsA r.parts → Ok (forN (.fix ((Rl.toDs r.parts).map .p)) (gNm 2) (fSet 1 (fOp gAdd (fVar 1) (fCall (f_law_branches n) (fConsA (fVar 2) fNilA)))) (Wk.fix ((Rl.toDs r.parts).map .p)).fuel 0 [some (.p r.toD), some (.p (.list (b0.map .int))), none] S) (kSeq (fRet (fVar 1)) (kFin S P)) := by
      intro b0 hb
      have hlen := Rl.brs_cnt r
      rw [hb] at hlen
      simp at hlen
      refine for_ok (I := fun i E S1 => ∃ o, E = [some (.p r.toD), some (.p (.list ((b0 ++ Rl.brsA (r.parts.take i)).map .int))), o] ∧ S1 = S) ⟨none, by simp [Rl.brsA], rfl⟩ ?_ ?_
      · rintro i dd E S1 hi ⟨o, rfl, rfl⟩
        obtain ⟨p, hp, rfl⟩ : ∃ p, r.parts[i]? = some p ∧ dd = .p p.toD := by
          rw [toDs_p, List.getElem?_map] at hi
          obtain ⟨p, h1, h2⟩ := Option.map_eq_some_iff.mp hi
          exact ⟨p, h1, h2.symm⟩
        have hm := List.mem_of_getElem? hp
        have dp := Rl.part_dep hm
        have cp := Rl.part_cnt hm
        walk_at "sv"
        refine lbranches_k n p (by omega) (by omega) ?_
        have l1 := Rl.brsA_take_le r.parts i
        have l2 := Rl.brs_cnt p
        walk_at "sv"
        rw [add_ll (by simp; rw [sizeLine_eq]; omega), ok_ok]
        walk_at "sv"
        rw [Rl.brsA_take hp]
        exact ⟨some (.p p.toD), by simp, trivial⟩
      · rintro E S1 ⟨o, rfl, rfl⟩
        walk_at "sv"
        rw [List.length_map, Rl.toDs_len, List.take_length, ← hb]
        exact k
    refine bi (fun c => ?_) (fun c => ?_)
    · cases r with
      | hear j =>
        simp only [rlRest, ix_t1, ok_ok]
        walk_at "sv"
        rw [show D.p (.tuple [.str (rlWd (.hear j)).nm, .int j]) = .p (Rl.hear j).toD by rw [toD_eq]; rfl]
        refine lparts_k ?_
        walk_at "sv"
        exact loop [j] (by simp [Rl.brs, Rl.parts, Rl.brsA])
      | is w => simp [rlWd] at c
      | lst q ps => cases q <;> simp [rlWd, lkWd] at c
      | mid a b c' => simp [rlWd] at c
      | un u a => cases u <;> simp [rlWd, unWd] at c
    · have nh : ∀ j, r ≠ .hear j := fun j e => by subst e; simp [rlWd] at c
      rw [show (D.p (.tuple (.str (rlWd r).nm :: rlRest r))) = .p r.toD by rw [toD_eq]]
      refine lparts_k ?_
      walk_at "sv"
      exact loop [] (by rw [Rl.brs_parts r nh]; rfl)

end SM
set_option linter.all false
set_option maxRecDepth 100000
set_option maxHeartbeats 4000000
namespace SM
open PySem PySem.Spec PyProof.Rows L2 NB RZ SV PD
local macro_rules | `(tactic| walk_at "sv") => `(tactic| simp only [fC_ok, kOp2_, kOp1_, fOp_ok, kUn_, fUn_ok, fNilA_ok, kCons2_, kCons1_, fConsA_ok, kTup_, fTup_ok, kLst_, fLst_ok, kTru_, fTru_ok, kB_, fB_ok, kNotT_, fNotT_ok, kAndT_, fAndT_ok, kOrT_, fOrT_ok, kIf_, fIf_ok, kAndV_, kOrV_, fAndV_ok, fOrV_ok, kCallB_, fCallB_ok, kCall_, fCall_ok, kCallK_, fCallK_ok, kRev_, fRev_ok, fNoO_ok, fSomeO_ok, kSl3_, kSl2_, kSl1_, fSl_ok, kCh3_, kCh2_, kCh1_, kCh0_, fChain_ok, kMt2_, kMt1_, fMt_ok, fSkip_ok, fSeq_ok, kSet_, fSet_ok, kDrop_, fDrop_ok, kRet_, fRet_ok, fRetN_ok, kIfS_, fIfS_ok, fBrk_ok, fCt_ok, kAug2_, kAug1_, kAsg2_, kAsg1_, fAsg_ok, fPar_ok, gNm_ok, gN0_ok, kC0_, gC0_ok, kSb3_, kSb2_, kSb1_, gSb_ok, kFor_, fFor_ok, kWk_, fWk_ok, kRng1_, fRng1_ok, kRng2_, fRng2_ok, kEnum_, fEnum_ok, kZip_, fZip_ok, kLc2_, kLc1_, fLc_ok, fYes_ok, kQu2_, kQu1_, fQu_ok, leave_same, defK_k, kFinK_ret, kFinK_nx, fVar0_ok, fVarS_ok, defF_ok, kSeq_nx, kSeq_ret, kSeq_brk, kSeq_ct, kSomeO_int, kPar_two, kFin_ret, kFin_nx, add_ii, sub_ii, lt_ii, le_ii, gt_ii, ge_ii, eq_ii, ne_ii, iadd_ii, gBool_b, gTru_b, gNot_b, gNeg_i, gInt_i, gAbs_i, min_ii, max_ii, len_l, len_t, tup_t, tup_l, lst_l, lst_t, newL_p, ix_t0, ix_t1, ix_t2, ix_t3, ix_l0, wk_t, wk_l, vT_t, mkT0, mkT1, mkT2, mkT3, mkT4, mkT5, newL0, newL1, newL2, newL3, sz0, sz1, sz2, sz3, sz4, sz5, tru_t, tru_l, rev_t, rev_l, ok_ok, startE, dBl, dInt, List.map_cons, List.map_nil, List.length_cons, List.length_nil, List.replicate_succ, List.replicate_zero, Nat.reduceAdd, Nat.reduceSub, Nat.reduceLeDiff, List.cons_append, List.nil_append, List.set_cons_zero, List.set_cons_succ, wipeE, Bool.not_true, Bool.not_false, ↓reduceIte, Bool.false_eq_true, decide_true, decide_false, Bool.and_true, Bool.and_false, Bool.true_and, Bool.false_and])
/-! ### what a rule tells -/
def made : Rl → List Int → Int
  | .lst .least _, ns => minL ns
  | .lst .most _, ns => maxL ns
  | .lst .add _, ns => ns.sum
  | .mid _ _ _, ns => (isort ns).getD 1 0
  | .un (.times m) _, ns => m * ns.getD 0 0
  | .un (.part d) _, ns => ns.getD 0 0 / d
  | .un (.clip lo hi) _, ns => min (max (ns.getD 0 0) lo) hi
  | .un (.frm w) _, ns => max (w - ns.getD 0 0) 0
  | .un (.bar k lo hi) _, ns => if ns.getD 0 0 ≥ k then hi else lo
  | .un (.row ws) _, ns => ws.getD (min (ns.getD 0 0) (ws.length - 1)).toNat 0
  | _, _ => 0
def fnOf : Wd → FN
  | .least => f_least | .most => f_most | .add => f_sum | .middle => f_middle | .times => f_times | .part => f_part | .clip => f_clip | .frm => f_from | .bar => f_bar | .row => f_row
  | _ => fun _ _ => .bad
def adOf (A : Ad) : Wd → Addr
  | .least => A.a_least | .most => A.a_most | .add => A.a_sum | .middle => A.a_middle | .times => A.a_times | .part => A.a_part | .clip => A.a_clip | .frm => A.a_from | .bar => A.a_bar | _ => A.a_row
def tellWds : List Wd := [.least, .most, .middle, .add, .times, .part, .clip, .frm, .bar, .row]
structure AdOk (A : Ad) : Prop where
  nd : (tellWds.map (adOf A)).Nodup
theorem lookup_nm {α : Type} (f : Wd → α) (w : Wd) : ∀ ws : List Wd, w ∈ ws → (ws.map fun x => (x.nm, f x)).lookup w.nm = some (f w)
  | [], h => by cases h
  | x :: r, h => by
    rw [List.map_cons]
    by_cases c : w = x
    · subst c
      simp [List.lookup]
    · have hb : (w.nm == x.nm) = false := by rw [nm_beq]; exact decide_eq_false c
      simp only [List.lookup, hb]
      exact lookup_nm f w r ((List.mem_cons.mp h).resolve_left c)
theorem lookup_ad {A : Ad} {α : Type} (f : Wd → α) (w : Wd) : ∀ ws : List Wd, (ws.map (adOf A)).Nodup → w ∈ ws → (ws.map fun x => (adOf A x, f x)).lookup (adOf A w) = some (f w)
  | [], _, h => by cases h
  | x :: r, nd, h => by
    rw [List.map_cons] at nd ⊢
    obtain ⟨n1, n2⟩ := List.nodup_cons.mp nd
    by_cases c : w = x
    · subst c
      simp [List.lookup]
    · have hw := (List.mem_cons.mp h).resolve_left c
      have hb : (adOf A w == adOf A x) = false := beq_false_of_ne fun e => n1 (by rw [← e]; exact List.mem_map_of_mem hw)
      simp only [List.lookup, hb]
      exact lookup_ad f w r n2 hw
theorem telling_eq (A : Ad) : t_TELLING A = tellWds.map fun x => (x.nm, .glb (.ref (adOf A x))) := rfl
theorem tbl_eq (A : Ad) : tbl A = tellWds.map fun x => (adOf A x, fnOf x) := rfl
theorem told_of_k {A : Ad} (o : AdOk A) {w : Wd} (hw : w ∈ tellWds) {rest : List PyData} {ws : D} {S : Sto} {P : D → Sto → Prop} (h : Ok (fnOf w [.p (.tuple (.str w.nm :: rest)), ws] S) fun d S' => S' = S ∧ P d S) : Ok (f_told_of A [.p (.tuple (.str w.nm :: rest)), ws] S) P := by
  unfold f_told_of
  walk_at "sv"
  have e1 : gIxKd (t_TELLING A) (.p (.str w.nm)) S = .ok (.glb (.ref (adOf A w))) S := by
    unfold gIxKd
    simp only [telling_eq, lookup_nm (fun x => D.glb (.ref (adOf A x))) w tellWds hw]
  rw [e1, ok_ok]
  walk_at "sv"
  unfold fCallL
  simp only [List.getElem?_cons_succ, List.getElem?_cons_zero, tbl_eq, lookup_ad fnOf w tellWds o.nd hw]
  rw [ok_bind]
  walk_at "sv"
  obtain ⟨d, S', e, rfl, p⟩ := h.ex
  rw [e]
  simp only [ok_ok]
  walk_at "sv"
  exact p
theorem ix_v {ws : D} {S : Sto} {ds : List D} {i : Int} {d : D} (h : viewL ws S = some ds) (e : atI ds i = some d) : fIx ws (.p (.int i)) S = .ok d S := by
  unfold viewL at h
  split at h
  · cases h
    unfold fIx viewS viewT viewL
    simp only [e]
  · split at h
    · cases h
      rename_i hs
      exact ix_ref hs e
    · cases h
  · cases h
def vInts (ws : D) (S : Sto) (ns : List Int) : Prop := viewL ws S = some (ns.map fun i => .p (.int i))
theorem vInts.i {ws : D} {S : Sto} {ns : List Int} (h : vInts ws S ns) : (viewL ws S).bind intsD = some ns := by rw [h]; exact ints_map ns
theorem vInts.at0 {ws : D} {S : Sto} {ns : List Int} (h : vInts ws S ns) (h0 : 0 < ns.length) : fIx ws (.p (.int 0)) S = .ok (.p (.int (ns.getD 0 0))) S := by
  refine ix_v h ?_
  cases ns with
  | nil => simp at h0
  | cons n r => exact SV.at0 _ _
theorem min_v {ws : D} {S : Sto} {ns : List Int} (h : vInts ws S ns) (h0 : ns ≠ []) : gMin [ws] S = .ok (.p (.int (minL ns))) S := by
  unfold gMin; simp only [h.i, h0, ne_eq, not_false_eq_true, if_true]
theorem max_v {ws : D} {S : Sto} {ns : List Int} (h : vInts ws S ns) (h0 : ns ≠ []) : gMax [ws] S = .ok (.p (.int (maxL ns))) S := by
  unfold gMax; simp only [h.i, h0, ne_eq, not_false_eq_true, if_true]
theorem sum_v {ws : D} {S : Sto} {ns : List Int} (h : vInts ws S ns) : gSum [ws] S = .ok (.p (.int ns.sum)) S := by
  unfold gSum; simp only [h.i]
theorem srt_v {ws : D} {S : Sto} {ns : List Int} (h : vInts ws S ns) : gSorted true [ws] S = .ok (.p (.list ((isort ns).map .int))) S := by
  unfold gSorted; simp only [h.i]
  rw [show (isort ns).map (fun i => D.p (.int i)) = ((isort ns).map PyData.int).map D.p by rw [List.map_map]; rfl, newL_p]
theorem okMul_s {i j : Int} (h0 : -1000 ≤ i) (h1 : i ≤ 1000) : okMul i j = true := by
  unfold okMul; simp; left; omega
theorem atI_ints {ns : List Int} {j : Nat} (h : j < ns.length) : atI (ns.map PyData.int) (j : Int) = some (.int (ns.getD j 0)) := by
  unfold atI ixN
  rw [if_pos (by omega), if_pos (by rw [List.length_map]; omega)]
  simp [h]
/-- a rule's own numbers within wide bounds -/
def unW : Un → Prop
  | .times m => 0 ≤ m ∧ m ≤ 1000
  | .part d => 1 ≤ d ∧ d ≤ 1000
  | .clip a b => 0 ≤ a ∧ a ≤ b ∧ b ≤ 1000
  | .frm w => 0 ≤ w ∧ w ≤ 1000
  | .bar _ a b => 0 ≤ a ∧ 0 ≤ b ∧ a ≤ 1000 ∧ b ≤ 1000
  | .row ws => ws ≠ [] ∧ (ws.length : Int) ≤ 1000 ∧ ∀ x ∈ ws, 0 ≤ x ∧ x ≤ 1000
def nodeW : Rl → Prop
  | .is w => 0 ≤ w ∧ w ≤ 1000
  | .hear _ => True
  | .lst _ ps => ps ≠ [] ∧ ps.length ≤ 12
  | .mid _ _ _ => True
  | .un u _ => unW u
mutual
def rlW (n : Int) : Rl → Prop
  | .is w => 0 ≤ w ∧ w ≤ 1000
  | .hear j => 0 ≤ j ∧ j < n
  | .lst _ ps => (ps ≠ [] ∧ ps.length ≤ 12) ∧ rlWA n ps
  | .mid a b c => rlW n a ∧ rlW n b ∧ rlW n c
  | .un u a => unW u ∧ rlW n a
def rlWA (n : Int) : List Rl → Prop
  | [] => True
  | r :: rs => rlW n r ∧ rlWA n rs
end
theorem rlWA_all {n : Int} : ∀ {ps : List Rl}, rlWA n ps ↔ ∀ p ∈ ps, rlW n p
  | [] => by simp [rlWA]
  | p :: ps => by simp only [rlWA, List.mem_cons, forall_eq_or_imp, rlWA_all]
theorem rlW.node {n : Int} {r : Rl} (h : rlW n r) : nodeW r := by
  cases r with
  | is w => exact h
  | hear j => trivial
  | lst k ps => simp only [rlW] at h; exact h.1
  | mid a b c => trivial
  | un u a => simp only [rlW] at h; exact h.1
theorem rlW.part {n : Int} {r p : Rl} (h : rlW n r) (hp : p ∈ r.parts) : rlW n p := by
  cases r with
  | is w => simp [Rl.parts] at hp
  | hear j => simp [Rl.parts] at hp
  | lst k ps => simp only [rlW] at h; exact rlWA_all.mp h.2 p hp
  | mid a b c =>
    simp only [rlW] at h
    simp [Rl.parts] at hp
    rcases hp with rfl | rfl | rfl
    · exact h.1
    · exact h.2.1
    · exact h.2.2
  | un u a =>
    simp only [rlW] at h
    simp [Rl.parts] at hp
    rw [hp]; exact h.2
theorem un_ok_W {n top : Int} {any : Bool} {u : Un} (h : u.ok n top any) (ht : top ≤ 900) : unW u := by
  cases u with
  | times m => exact ⟨h.1, by have := h.2; omega⟩
  | part m => exact ⟨h.1, by have := h.2; omega⟩
  | clip lo hi => obtain ⟨a, b, c, d⟩ := h; exact ⟨a, c, by omega⟩
  | frm w => obtain ⟨a, b⟩ := h; exact ⟨a, by omega⟩
  | bar k lo hi => obtain ⟨a, b, c, d, e, f⟩ := h; exact ⟨c, e, by omega, by omega⟩
  | row ws => obtain ⟨a, b, c, d⟩ := h; exact ⟨a, by omega, fun x hx => ⟨(c x hx).1, by have := (c x hx).2; omega⟩⟩
mutual
theorem ok_W {n top : Int} {any : Bool} (ht : top ≤ 900) : ∀ {r : Rl}, r.ok n top any → rlW n r
  | .is w, h => by simp only [Rl.ok] at h; simp only [rlW]; omega
  | .hear j, h => by simp only [Rl.ok] at h; simp only [rlW]; exact h
  | .lst k ps, h => by simp only [Rl.ok] at h; simp only [rlW]; exact ⟨⟨h.1, by omega⟩, ok_WA ht h.2.2⟩
  | .mid a b c, h => by simp only [Rl.ok] at h; simp only [rlW]; exact ⟨ok_W ht h.1, ok_W ht h.2.1, ok_W ht h.2.2⟩
  | .un u a, h => by simp only [Rl.ok] at h; simp only [rlW]; exact ⟨un_ok_W h.1 ht, ok_W ht h.2⟩
theorem ok_WA {n top : Int} {any : Bool} (ht : top ≤ 900) : ∀ {ps : List Rl}, Rl.okA n top any ps → rlWA n ps
  | [], _ => by simp only [rlWA]
  | p :: ps, h => by simp only [Rl.okA] at h; simp only [rlWA]; exact ⟨ok_W ht h.1, ok_WA ht h.2⟩
end
/-- a rule, no leaf, of what its parts tell -/
theorem made_kW {A : Ad} (o : AdOk A) {r : Rl} (hr : nodeW r) (nl : r.isLeaf = false) {ws : D} {S : Sto} {ns : List Int} (hv : vInts ws S ns) (hl : ns.length = r.parts.length) (h0 : ∀ x ∈ ns, 0 ≤ x) {P : D → Sto → Prop} (k : P (.p (.int (made r ns))) S) :
    Ok (f_told_of A [.p r.toD, ws] S) P := by
  rw [toD_eq]
  cases r with
  | is w => cases nl
  | hear j => cases nl
  | lst q ps =>
    simp only [nodeW] at hr
    have hne : ns ≠ [] := fun e => by
      rw [e] at hl
      exact hr.1 (List.length_eq_zero_iff.mp hl.symm)
    cases q with
    | least =>
      refine told_of_k (w := .least) o (by decide) ?_
      show Ok (f_least _ S) _
      unfold f_least
      walk_at "sv"
      rw [min_v hv hne, ok_ok]
      walk_at "sv"
      exact ⟨trivial, k⟩
    | most =>
      refine told_of_k (w := .most) o (by decide) ?_
      show Ok (f_most _ S) _
      unfold f_most
      walk_at "sv"
      rw [max_v hv hne, ok_ok]
      walk_at "sv"
      exact ⟨trivial, k⟩
    | add =>
      refine told_of_k (w := .add) o (by decide) ?_
      show Ok (f_sum _ S) _
      unfold f_sum
      walk_at "sv"
      rw [sum_v hv, ok_ok]
      walk_at "sv"
      exact ⟨trivial, k⟩
  | mid a b c =>
    refine told_of_k (w := .middle) o (by decide) ?_
    show Ok (f_middle _ S) _
    unfold f_middle
    walk_at "sv"
    rw [srt_v hv, ok_ok]
    have h3 : (isort ns).length = 3 := by rw [(isort_perm ns).length_eq, hl]; rfl
    walk_at "sv"
    rw [ix_l (show atI _ (1 : Int) = _ from atI_ints (ns := isort ns) (j := 1) (by omega)), ok_ok]
    walk_at "sv"
    exact ⟨trivial, k⟩
  | un u a =>
    simp only [nodeW] at hr
    have h1 : 0 < ns.length := by rw [hl]; simp [Rl.parts]
    have z0 : 0 ≤ ns.getD 0 0 := by
      cases ns with
      | nil => simp at h1
      | cons x r => exact h0 x (by simp)
    cases u with
    | times m =>
      refine told_of_k (w := .times) o (by decide) ?_
      show Ok (f_times _ S) _
      unfold f_times
      obtain ⟨m0, m1⟩ := hr
      simp only [rlRest, Un.d, List.cons_append, List.nil_append]
      walk_at "sv"
      rw [hv.at0 h1, ok_ok]
      walk_at "sv"
      rw [mul_ii (okMul_s (by omega) (by omega)), ok_ok]
      walk_at "sv"
      exact ⟨trivial, k⟩
    | part m =>
      refine told_of_k (w := .part) o (by decide) ?_
      show Ok (f_part _ S) _
      unfold f_part
      obtain ⟨m0, m1⟩ := hr
      simp only [rlRest, Un.d, List.cons_append, List.nil_append]
      walk_at "sv"
      rw [hv.at0 h1, ok_ok]
      walk_at "sv"
      rw [div_ii (by omega), ok_ok]
      walk_at "sv"
      exact ⟨trivial, k⟩
    | clip lo hi =>
      refine told_of_k (w := .clip) o (by decide) ?_
      show Ok (f_clip _ S) _
      unfold f_clip
      simp only [rlRest, Un.d, List.cons_append, List.nil_append]
      walk_at "sv"
      rw [hv.at0 h1, ok_ok]
      walk_at "sv"
      refine ⟨trivial, ?_⟩
      have e : made (.un (.clip lo hi) a) ns = if hi < (if lo > ns.getD 0 0 then lo else ns.getD 0 0) then hi else (if lo > ns.getD 0 0 then lo else ns.getD 0 0) := by
        simp only [made]; split <;> split <;> omega
      rw [e] at k
      exact k
    | frm w =>
      refine told_of_k (w := .frm) o (by decide) ?_
      show Ok (f_from _ S) _
      unfold f_from
      simp only [rlRest, Un.d, List.cons_append, List.nil_append]
      walk_at "sv"
      rw [hv.at0 h1, ok_ok]
      walk_at "sv"
      refine ⟨trivial, ?_⟩
      have e : made (.un (.frm w) a) ns = if 0 > w - ns.getD 0 0 then 0 else w - ns.getD 0 0 := by
        simp only [made]; split <;> omega
      rw [e] at k
      exact k
    | bar q lo hi =>
      refine told_of_k (w := .bar) o (by decide) ?_
      show Ok (f_bar _ S) _
      unfold f_bar
      simp only [rlRest, Un.d, List.cons_append, List.nil_append]
      walk_at "sv"
      rw [hv.at0 h1, ok_ok]
      walk_at "sv"
      refine bi (fun c => ⟨trivial, ?_⟩) (fun c => ⟨trivial, ?_⟩)
      · have c' : ns.getD 0 0 ≥ q := by simpa using c
        simp only [made, c', if_true] at k
        exact k
      · have c' : ¬ ns.getD 0 0 ≥ q := by simpa using c
        simp only [made, c', if_false] at k
        exact k
    | row xs =>
      refine told_of_k (w := .row) o (by decide) ?_
      show Ok (f_row _ S) _
      unfold f_row
      obtain ⟨r0, r1, r2⟩ := hr
      have lx : 0 < xs.length := List.length_pos_iff.mpr r0
      simp only [rlRest, Un.d, List.cons_append, List.nil_append]
      walk_at "sv"
      rw [hv.at0 h1, ok_ok]
      walk_at "sv"
      have e : (if ((xs.map PyData.int).length : Int) - 1 < ns.getD 0 0 then ((xs.map PyData.int).length : Int) - 1 else ns.getD 0 0) = ((min (ns.getD 0 0) (xs.length - 1)).toNat : Int) := by
        rw [List.length_map]; split <;> omega
      rw [e, ix_t (atI_ints (by omega)), ok_ok]
      walk_at "sv"
      exact ⟨trivial, k⟩

theorem made_k {A : Ad} (o : AdOk A) {n top : Int} {any : Bool} {r : Rl} (hr : r.ok n top any) (nl : r.isLeaf = false) (ht : top ≤ 900) {ws : D} {S : Sto} {ns : List Int} (hv : vInts ws S ns) (hl : ns.length = r.parts.length) (h0 : ∀ x ∈ ns, 0 ≤ x) {P : D → Sto → Prop} (k : P (.p (.int (made r ns))) S) :
    Ok (f_told_of A [.p r.toD, ws] S) P := made_kW o (ok_W ht hr).node nl hv hl h0 k
/-! ### what a rule tells, from its branches -/
mutual
def tl : Rl → List Int → Nat → Int
  | .is w, _, _ => w
  | .hear _, h, at_ => h.getD at_ 0
  | .lst k ps, h, at_ => made (.lst k ps) (tls ps h at_)
  | .mid a b c, h, at_ => made (.mid a b c) [tl a h at_, tl b h (at_ + a.brs.length), tl c h (at_ + a.brs.length + b.brs.length)]
  | .un u a, h, at_ => made (.un u a) [tl a h at_]
def tls : List Rl → List Int → Nat → List Int
  | [], _, _ => []
  | p :: ps, h, at_ => tl p h at_ :: tls ps h (at_ + p.brs.length)
end
theorem tl_node {r : Rl} (nl : r.isLeaf = false) (h : List Int) (at_ : Nat) : tl r h at_ = made r (tls r.parts h at_) := by
  cases r with
  | is w => cases nl
  | hear j => cases nl
  | lst k ps => simp only [tl, Rl.parts]
  | mid a b c => simp only [tl, Rl.parts, tls]
  | un u a => simp only [tl, Rl.parts, tls]
theorem tls_app : ∀ (ps qs : List Rl) (h : List Int) (at_ : Nat), tls (ps ++ qs) h at_ = tls ps h at_ ++ tls qs h (at_ + (Rl.brsA ps).length)
  | [], qs, h, at_ => by simp [tls, Rl.brsA]
  | p :: ps, qs, h, at_ => by
    simp only [List.cons_append, tls, tls_app ps qs, Rl.brsA, List.length_append]
    rw [Nat.add_assoc]
theorem tls_take {ps : List Rl} {i : Nat} {p : Rl} (e : ps[i]? = some p) (h : List Int) (at_ : Nat) : tls (ps.take (i + 1)) h at_ = tls (ps.take i) h at_ ++ [tl p h (at_ + (Rl.brsA (ps.take i)).length)] := by
  rw [List.take_add_one, e, Option.toList_some, tls_app]
  simp only [tls]
theorem tls_len : ∀ (ps : List Rl) (h : List Int) (at_ : Nat), (tls ps h at_).length = ps.length
  | [], _, _ => by simp [tls]
  | p :: ps, h, at_ => by simp only [tls, List.length_cons, tls_len ps]
theorem ok_parts {n top : Int} {any : Bool} {r p : Rl} (h : r.ok n top any) (hp : p ∈ r.parts) : p.ok n top any := by
  cases r with
  | is w => simp [Rl.parts] at hp
  | hear j => simp [Rl.parts] at hp
  | lst k ps => simp only [Rl.ok] at h; exact Rl.okA_all.mp h.2.2 p hp
  | mid a b c =>
    simp only [Rl.ok] at h
    simp [Rl.parts] at hp
    rcases hp with rfl | rfl | rfl
    · exact h.1
    · exact h.2.1
    · exact h.2.2
  | un u a =>
    simp only [Rl.ok] at h
    simp [Rl.parts] at hp
    rw [hp]; exact h.2
theorem minL_nn {l : List Int} (h : ∀ x ∈ l, 0 ≤ x) : 0 ≤ minL l := by
  by_cases c : l = []
  · subst c; decide
  · exact h _ (minL_ok l c).1
theorem maxL_nn {l : List Int} (h : ∀ x ∈ l, 0 ≤ x) : 0 ≤ maxL l := by
  by_cases c : l = []
  · subst c; decide
  · exact h _ (maxL_ok l c).1
theorem sum_nn : ∀ {l : List Int}, (∀ x ∈ l, 0 ≤ x) → 0 ≤ l.sum
  | [], _ => by simp
  | x :: r, h => by
    have h1 := h x (by simp)
    have h2 := sum_nn (l := r) fun y hy => h y (by simp [hy])
    simp only [List.sum_cons]
    omega
theorem getD_nn {l : List Int} (h : ∀ x ∈ l, 0 ≤ x) (i : Nat) : 0 ≤ l.getD i 0 := by
  by_cases c : i < l.length
  · rw [List.getD_eq_getElem?_getD]
    simp only [c, List.getElem?_eq_getElem, Option.getD_some]
    exact h _ (List.getElem_mem c)
  · rw [List.getD_eq_getElem?_getD, List.getElem?_eq_none_iff.mpr (by omega)]
    simp
theorem made_nnW {r : Rl} (hr : nodeW r) {ns : List Int} (h : ∀ x ∈ ns, 0 ≤ x) : 0 ≤ made r ns := by
  cases r with
  | is w => simp [made]
  | hear w => simp [made]
  | lst k ps =>
    cases k with
    | least => exact minL_nn h
    | most => exact maxL_nn h
    | add => exact sum_nn h
  | mid a b c => exact getD_nn (fun x hx => h x ((isort_perm ns).mem_iff.mp hx)) 1
  | un u a =>
    simp only [nodeW] at hr
    have z := getD_nn h 0
    cases u with
    | times m => simp only [made]; exact Int.mul_nonneg hr.1 z
    | part d => simp only [made]; exact Int.ediv_nonneg z (by have := hr.1; omega)
    | clip lo hi => simp only [made]; obtain ⟨a, b, c⟩ := hr; omega
    | frm w => simp only [made]; omega
    | bar k lo hi => simp only [made]; obtain ⟨a, b, c, d⟩ := hr; split <;> omega
    | row ws => simp only [made]; obtain ⟨_, _, c⟩ := hr; exact getD_nn (fun x hx => (c x hx).1) _
theorem node_ok {n top : Int} {any : Bool} {r : Rl} (hr : r.ok n top any) : (∀ k ps, r = .lst k ps → ps ≠ []) := by
  intro k ps e
  subst e
  simp only [Rl.ok] at hr
  exact hr.1
theorem made_nn {n top : Int} {any : Bool} {r : Rl} (hr : r.ok n top any) {ns : List Int} (h : ∀ x ∈ ns, 0 ≤ x) : 0 ≤ made r ns := by
  cases r with
  | is w => simp [made]
  | hear w => simp [made]
  | lst k ps =>
    cases k with
    | least => exact minL_nn h
    | most => exact maxL_nn h
    | add => exact sum_nn h
  | mid a b c => exact getD_nn (fun x hx => h x ((isort_perm ns).mem_iff.mp hx)) 1
  | un u a =>
    simp only [Rl.ok] at hr
    have z := getD_nn h 0
    cases u with
    | times m => simp only [made]; exact Int.mul_nonneg hr.1.1 z
    | part d => simp only [made]; exact Int.ediv_nonneg z (by have := hr.1.1; omega)
    | clip lo hi => simp only [made]; obtain ⟨⟨a, b, c, d⟩, _⟩ := hr; omega
    | frm w => simp only [made]; omega
    | bar k lo hi => simp only [made]; obtain ⟨⟨a, b, c, d, e, f⟩, _⟩ := hr; split <;> omega
    | row ws => simp only [made]; obtain ⟨⟨_, _, c, _⟩, _⟩ := hr; exact getD_nn (fun x hx => (c x hx).1) _
theorem tl_nn_aux {n top : Int} {any : Bool} {h : List Int} (hh : ∀ x ∈ h, 0 ≤ x) (d : Nat) (r : Rl) (at_ : Nat) (hd : r.dep ≤ d + 1) (hr : r.ok n top any) (nl : r.isLeaf = false) (ih : ∀ (p : Rl) (a : Nat), p.dep ≤ d → p.ok n top any → 0 ≤ tl p h a) : 0 ≤ tl r h at_ := by
  rw [tl_node nl]
  refine made_nn hr ?_
  have key : ∀ (ps : List Rl) (a : Nat), (∀ p ∈ ps, p ∈ r.parts) → ∀ x ∈ tls ps h a, 0 ≤ x := by
    intro ps
    induction ps with
    | nil => intro a _ x hx; simp [tls] at hx
    | cons p ps ihp =>
      intro a hs x hx
      simp only [tls, List.mem_cons] at hx
      rcases hx with q | q
      · have hm := hs p (by simp)
        have := Rl.part_dep hm
        rw [q]; exact ih p a (by omega) (ok_parts hr hm)
      · exact ihp _ (fun q hq => hs q (by simp [hq])) x q
  exact key r.parts at_ fun _ h => h

theorem tl_nn {n top : Int} {any : Bool} {h : List Int} (hh : ∀ x ∈ h, 0 ≤ x) : ∀ (d : Nat) (r : Rl) (at_ : Nat), r.dep ≤ d → r.ok n top any → 0 ≤ tl r h at_
  | d, .is w, at_, _, hr => by simp only [Rl.ok] at hr; simp only [tl]; exact hr.1
  | d, .hear j, at_, _, _ => by simp only [tl]; exact getD_nn hh _
  | 0, .lst k ps, _, hd, _ => by simp [Rl.dep] at hd
  | 0, .mid _ _ _, _, hd, _ => by simp [Rl.dep] at hd
  | 0, .un _ _, _, hd, _ => by simp [Rl.dep] at hd
  | d + 1, .lst k ps, at_, hd, hr => tl_nn_aux hh d (.lst k ps) at_ hd hr rfl fun r a => tl_nn hh d r a
  | d + 1, .mid a b c, at_, hd, hr => tl_nn_aux hh d (.mid a b c) at_ hd hr rfl fun r a => tl_nn hh d r a
  | d + 1, .un u a, at_, hd, hr => tl_nn_aux hh d (.un u a) at_ hd hr rfl fun r a => tl_nn hh d r a

theorem tls_nn {n top : Int} {any : Bool} {h : List Int} (hh : ∀ x ∈ h, 0 ≤ x) : ∀ (ps : List Rl) (a : Nat), (∀ p ∈ ps, p.ok n top any) → ∀ x ∈ tls ps h a, 0 ≤ x
  | [], a, _, x, hx => by simp [tls] at hx
  | p :: ps, a, hs, x, hx => by
    simp only [tls, List.mem_cons] at hx
    rcases hx with q | q
    · rw [q]; exact tl_nn hh p.dep p a (Nat.le_refl _) (hs p (by simp))
    · exact tls_nn hh ps _ (fun q hq => hs q (by simp [hq])) x q
/-! ### _told_from, told -/
theorem told_from_k {A : Ad} (o : AdOk A) {n top : Int} {any : Bool} (ht : top ≤ 900) {h : List Int} (hh : ∀ x ∈ h, 0 ≤ x) : ∀ (m : Nat) (r : Rl), r.dep + 1 ≤ m → r.cnt ≤ 100000 → r.ok n top any → ∀ (at_ : Nat), at_ + r.brs.length ≤ h.length → ∀ {S : Sto} {P : D → Sto → Prop},
    P (.p (.tuple [.int (tl r h at_), .int (at_ + r.brs.length : Nat)])) S → Ok (f_told_from A m [.p r.toD, .p (.tuple (h.map .int)), .p (.int at_)] S) P
  | 0, _, hd, _, _, _, _, _, _, _ => by omega
  | m + 1, r, hd, hc, hr, at_, ha, S, P, k => by
    show Ok (defF 7 (b_told_from A (f_told_from A m)) _ S) P
    unfold b_told_from
    rw [show (D.p r.toD) = .p (.tuple (.str (rlWd r).nm :: rlRest r)) by rw [toD_eq]]
    walk_at "sv"
    rw [eq_is, ok_ok]
    walk_at "sv"
    rw [eq_hear, ok_ok]
    walk_at "sv"
    by_cases hl : r.isLeaf = true
    · cases r with
      | is w =>
        rw [if_pos (by simp [rlWd])]
        simp only [rlRest, ix_t1, ok_ok]
        walk_at "sv"
        simpa only [tl, Rl.brs, List.length_nil, Nat.add_zero] using k
      | hear j =>
        rw [if_neg (by simp [rlWd]), if_pos (by simp [rlWd])]
        simp only [Rl.brs, List.length_cons, List.length_nil] at ha
        rw [ix_t (atI_ints (by omega)), ok_ok]
        walk_at "sv"
        simp only [tl, Rl.brs, List.length_cons, List.length_nil] at k
        exact k
      | lst q ps => cases hl
      | mid a b c => cases hl
      | un u a => cases hl
    · have nl : r.isLeaf = false := by simpa using hl
      have nh : ∀ j, r ≠ .hear j := fun j e => by subst e; cases nl
      rw [if_neg (by cases r with
          | is w => cases nl
          | hear j => cases nl
          | lst q ps => cases q <;> simp [rlWd, lkWd]
          | mid a b c => simp [rlWd]
          | un u a => cases u <;> simp [rlWd, unWd]), if_neg (by cases r with
          | is w => cases nl
          | hear j => cases nl
          | lst q ps => cases q <;> simp [rlWd, lkWd]
          | mid a b c => simp [rlWd]
          | un u a => cases u <;> simp [rlWd, unWd])]
      have hb := Rl.brs_parts r nh
      have hc2 := Rl.cnt_parts r
      rw [newM, ok_ok]
      walk_at "sv"
      rw [show (D.p (.tuple (.str (rlWd r).nm :: rlRest r))) = .p r.toD by rw [toD_eq]]
      refine inner_k ?_
      walk_at "sv"
      refine for_ok (I := fun i E S1 => ∃ o5 o6, E = [some (.p r.toD), some (.p (.tuple (h.map .int))), some (.p (.int (at_ + (Rl.brsA (r.parts.take i)).length : Nat))), some (.p (.str (rlWd r).nm)), some (.ref S.length), o5, o6] ∧ S1 = S ++ [.lst ((tls (r.parts.take i) h at_).map fun i => .p (.int i))])
        ⟨none, none, by simp [Rl.brsA], by simp [tls]⟩ ?_ ?_
      · rintro i dd E S1 hi ⟨o5, o6, rfl, rfl⟩
        obtain ⟨p, hp, rfl⟩ : ∃ p, r.parts[i]? = some p ∧ dd = .p p.toD := by
          rw [toDs_p, List.getElem?_map] at hi
          obtain ⟨p, h1, h2⟩ := Option.map_eq_some_iff.mp hi
          exact ⟨p, h1, h2.symm⟩
        have hm := List.mem_of_getElem? hp
        have dp := Rl.part_dep hm
        have cp := Rl.part_cnt hm
        have l1 := Rl.brsA_take hp
        have l2 : (Rl.brsA (r.parts.take (i + 1))).length ≤ (Rl.brsA r.parts).length := by
          have e := Rl.brsA_app (r.parts.take (i + 1)) (r.parts.drop (i + 1))
          rw [List.take_append_drop] at e
          rw [e, List.length_append]; omega
        rw [l1, List.length_append] at l2
        rw [hb] at ha
        walk_at "sv"
        refine told_from_k o ht hh m p (by omega) (by omega) (ok_parts hr hm) _ (by omega) ?_
        walk_at "sv"
        rw [gTp_ok vT_t (by rfl)]
        walk_at "sv"
        rw [if_pos (ref_view app_get).2.2.1]
        have lt := tls_len (r.parts.take i) h at_
        have hlp : (r.parts.take i).length ≤ r.parts.length := by rw [List.length_take]; omega
        have hlc := Rl.len_cntA r.parts
        rw [app_ref app_get (by rw [List.length_map, lt]; omega), ok_ok]
        walk_at "sv"
        rw [app_set, tls_take hp, l1, List.length_append]
        exact ⟨_, _, by rw [Nat.add_assoc], by simp⟩
      · rintro E S1 ⟨o5, o6, rfl, rfl⟩
        walk_at "sv"
        rw [List.length_map, Rl.toDs_len, List.take_length] at *
        refine made_k o hr nl ht (show vInts (.ref S.length) _ (tls r.parts h at_) from (ref_view app_get).2.1) (tls_len _ _ _) ?_ ?_
        · exact tls_nn hh _ _ fun p hp => ok_parts hr hp
        walk_at "sv"
        rw [leave_drop (by simp) (fre_p _ _ _ _), ok_ok, ← tl_node nl, ← hb]
        exact k
theorem told_k {A : Ad} (o : AdOk A) {n top : Int} {any : Bool} (ht : top ≤ 900) {h : List Int} (hh : ∀ x ∈ h, 0 ≤ x) {r : Rl} (hd : r.dep ≤ 9) (hc : r.cnt ≤ 100000) (hr : r.ok n top any) (ha : r.brs.length ≤ h.length) {S : Sto} {P : D → Sto → Prop} (k : P (.p (.int (tl r h 0))) S) :
    Ok (f_told A [.p r.toD, .p (.tuple (h.map .int))] S) P := by
  unfold f_told
  walk_at "sv"
  refine told_from_k o ht hh 10 r (by omega) hc hr 0 (by omega) ?_
  walk_at "sv"
  exact k

end SM
set_option linter.all false
set_option maxRecDepth 100000
set_option maxHeartbeats 4000000
namespace SM
open PySem PySem.Spec PyProof.Rows L2 NB RZ SV PD
local macro_rules | `(tactic| walk_at "sv") => `(tactic| simp only [fC_ok, kOp2_, kOp1_, fOp_ok, kUn_, fUn_ok, fNilA_ok, kCons2_, kCons1_, fConsA_ok, kTup_, fTup_ok, kLst_, fLst_ok, kTru_, fTru_ok, kB_, fB_ok, kNotT_, fNotT_ok, kAndT_, fAndT_ok, kOrT_, fOrT_ok, kIf_, fIf_ok, kAndV_, kOrV_, fAndV_ok, fOrV_ok, kCallB_, fCallB_ok, kCall_, fCall_ok, kCallK_, fCallK_ok, kRev_, fRev_ok, fNoO_ok, fSomeO_ok, kSl3_, kSl2_, kSl1_, fSl_ok, kCh3_, kCh2_, kCh1_, kCh0_, fChain_ok, kMt2_, kMt1_, fMt_ok, fSkip_ok, fSeq_ok, kSet_, fSet_ok, kDrop_, fDrop_ok, kRet_, fRet_ok, fRetN_ok, kIfS_, fIfS_ok, fBrk_ok, fCt_ok, kAug2_, kAug1_, kAsg2_, kAsg1_, fAsg_ok, fPar_ok, gNm_ok, gN0_ok, kC0_, gC0_ok, kSb3_, kSb2_, kSb1_, gSb_ok, kFor_, fFor_ok, kWk_, fWk_ok, kRng1_, fRng1_ok, kRng2_, fRng2_ok, kEnum_, fEnum_ok, kZip_, fZip_ok, kLc2_, kLc1_, fLc_ok, fYes_ok, kQu2_, kQu1_, fQu_ok, leave_same, defK_k, kFinK_ret, kFinK_nx, fVar0_ok, fVarS_ok, defF_ok, kSeq_nx, kSeq_ret, kSeq_brk, kSeq_ct, kSomeO_int, kPar_two, kFin_ret, kFin_nx, add_ii, sub_ii, lt_ii, le_ii, gt_ii, ge_ii, eq_ii, ne_ii, iadd_ii, gBool_b, gTru_b, gNot_b, gNeg_i, gInt_i, gAbs_i, min_ii, max_ii, len_l, len_t, tup_t, tup_l, lst_l, lst_t, newL_p, ix_t0, ix_t1, ix_t2, ix_t3, ix_l0, wk_t, wk_l, vT_t, mkT0, mkT1, mkT2, mkT3, mkT4, mkT5, newL0, newL1, newL2, newL3, sz0, sz1, sz2, sz3, sz4, sz5, tru_t, tru_l, rev_t, rev_l, ok_ok, startE, dBl, dInt, List.map_cons, List.map_nil, List.length_cons, List.length_nil, List.replicate_succ, List.replicate_zero, Nat.reduceAdd, Nat.reduceSub, Nat.reduceLeDiff, List.cons_append, List.nil_append, List.set_cons_zero, List.set_cons_succ, wipeE, Bool.not_true, Bool.not_false, ↓reduceIte, Bool.false_eq_true, decide_true, decide_false, Bool.and_true, Bool.and_false, Bool.true_and, Bool.false_and])
/-! ### the law's own: _law_made -/
theorem in_four (a : Wd) (S : Sto) : gIn false (.p (.str a.nm)) (.p (.list [.str "least", .str "most", .str "add", .str "middle"])) S = .ok (.p (.bool (decide (a ∈ [Wd.least, .most, .add, .middle])))) S := in_wl a [.least, .most, .add, .middle] S
theorem in_two (a : Wd) (S : Sto) : gIn false (.p (.str a.nm)) (.p (.list [.str "times", .str "part"])) S = .ok (.p (.bool (decide (a ∈ [Wd.times, .part])))) S := in_wl a [.times, .part] S
theorem newL4 {a b c d : PyData} {S : Sto} : newL true [.p a, .p b, .p c, .p d] S = .ok (.p (.list [a, b, c, d])) S := rfl
theorem ix_tl {xs : List PyData} {x : PyData} {S : Sto} : fIx (.p (.tuple (xs ++ [x]))) (.p (.int (-1))) S = .ok (.p x) S := ix_t (atLast _ _)
local macro_rules | `(tactic| walk_at "svw") => `(tactic| simp only [eq_is, eq_hear, eq_least, eq_most, eq_add, eq_middle, eq_times, eq_part, eq_clip, eq_from, eq_bar, eq_row, in_leafL, in_leafT, in_listL, in_listT, in_four, in_two, newL4, rlWd, unWd, lkWd, rlRest, Un.d, ix_t1, ix_t2, ix_t3, List.mem_cons, List.not_mem_nil, reduceCtorEq, or_false, false_or, or_self, or_true, true_or, decide_false, decide_true, fC_ok, kOp2_, kOp1_, fOp_ok, kUn_, fUn_ok, fNilA_ok, kCons2_, kCons1_, fConsA_ok, kTup_, fTup_ok, kLst_, fLst_ok, kTru_, fTru_ok, kB_, fB_ok, kNotT_, fNotT_ok, kAndT_, fAndT_ok, kOrT_, fOrT_ok, kIf_, fIf_ok, kAndV_, kOrV_, fAndV_ok, fOrV_ok, kCallB_, fCallB_ok, kCall_, fCall_ok, kCallK_, fCallK_ok, fNoO_ok, fSomeO_ok, kSl3_, kSl2_, kSl1_, fSl_ok, kCh3_, kCh2_, kCh1_, kCh0_, fChain_ok, kMt2_, kMt1_, fMt_ok, fSkip_ok, fSeq_ok, kSet_, fSet_ok, kDrop_, fDrop_ok, kRet_, fRet_ok, fRetN_ok, kIfS_, fIfS_ok, fBrk_ok, fCt_ok, kAug2_, kAug1_, kAsg2_, kAsg1_, fAsg_ok, fPar_ok, gNm_ok, gN0_ok, kC0_, gC0_ok, kSb3_, kSb2_, kSb1_, gSb_ok, kFor_, fFor_ok, kWk_, fWk_ok, kRng1_, fRng1_ok, kRng2_, fRng2_ok, kEnum_, fEnum_ok, kZip_, fZip_ok, kLc2_, kLc1_, fLc_ok, fYes_ok, leave_same, defK_k, kFinK_ret, kFinK_nx, fVar0_ok, fVarS_ok, defF_ok, kSeq_nx, kSeq_ret, kSeq_brk, kSeq_ct, kSomeO_int, kPar_two, kFin_ret, kFin_nx, add_ii, sub_ii, lt_ii, le_ii, gt_ii, ge_ii, eq_ii, ne_ii, iadd_ii, gBool_b, gTru_b, gNot_b, gNeg_i, gInt_i, gAbs_i, min_ii, max_ii, len_l, len_t, tup_t, tup_l, lst_l, lst_t, newL_p, ix_t0, ix_t1, ix_t2, ix_t3, ix_l0, wk_t, wk_l, vT_t, mkT0, mkT1, mkT2, mkT3, mkT4, mkT5, newL0, newL1, newL2, newL3, sz0, sz1, sz2, sz3, sz4, sz5, ok_ok, startE, dBl, dInt, List.map_cons, List.map_nil, List.length_cons, List.length_nil, List.replicate_succ, List.replicate_zero, Nat.reduceAdd, Nat.reduceSub, Nat.reduceLeDiff, List.cons_append, List.nil_append, List.set_cons_zero, List.set_cons_succ, wipeE, Bool.not_true, Bool.not_false, ↓reduceIte, Bool.false_eq_true, decide_true, decide_false, Bool.and_true, Bool.and_false, Bool.true_and, Bool.false_and])
theorem lmade_kW {r : Rl} (hr : nodeW r) (nl : r.isLeaf = false) {ws : D} {S : Sto} {ns : List Int} (hv : vInts ws S ns) (hl : ns.length = r.parts.length) (h0 : ∀ x ∈ ns, 0 ≤ x) {P : D → Sto → Prop} (k : P (.p (.int (made r ns))) S) :
    Ok (f_law_made [.p r.toD, ws] S) P := by
  have h1 : 0 < ns.length := by
    rw [hl]
    cases r with
    | is w => cases nl
    | hear j => cases nl
    | lst q ps => simp only [nodeW] at hr; exact List.length_pos_iff.mpr hr.1
    | mid a b c => simp [Rl.parts]
    | un u a => simp [Rl.parts]
  have hne : ns ≠ [] := List.length_pos_iff.mp h1
  have z0 : 0 ≤ ns.getD 0 0 := getD_nn h0 0
  unfold f_law_made
  rw [toD_eq]
  cases r with
  | is w => cases nl
  | hear j => cases nl
  | lst q ps =>
    cases q with
    | least =>
      walk_at "svw"
      rw [hv.at0 h1, ok_ok]
      walk_at "svw"
      rw [min_v hv hne, ok_ok]
      walk_at "svw"
      exact k
    | most =>
      walk_at "svw"
      rw [hv.at0 h1, ok_ok]
      walk_at "svw"
      rw [max_v hv hne, ok_ok]
      walk_at "svw"
      exact k
    | add =>
      walk_at "svw"
      rw [hv.at0 h1, ok_ok]
      walk_at "svw"
      rw [sum_v hv, ok_ok]
      walk_at "svw"
      exact k
  | mid a b c =>
    walk_at "svw"
    rw [hv.at0 h1, ok_ok]
    walk_at "svw"
    rw [srt_v hv, ok_ok]
    have h3 : (isort ns).length = 3 := by rw [(isort_perm ns).length_eq, hl]; rfl
    walk_at "svw"
    rw [ix_l (show atI _ (1 : Int) = _ from atI_ints (ns := isort ns) (j := 1) (by omega)), ok_ok]
    walk_at "svw"
    exact k
  | un u a =>
    simp only [nodeW] at hr
    cases u with
    | times m =>
      obtain ⟨m0, m1⟩ := hr
      simp only [rlRest, Un.d, List.cons_append, List.nil_append]
      walk_at "svw"
      rw [hv.at0 h1, ok_ok]
      walk_at "svw"
      rw [mul_ii (okMul_s (by omega) (by omega)), ok_ok]
      walk_at "svw"
      exact k
    | part m =>
      obtain ⟨m0, m1⟩ := hr
      simp only [rlRest, Un.d, List.cons_append, List.nil_append]
      walk_at "svw"
      rw [hv.at0 h1, ok_ok]
      walk_at "svw"
      rw [div_ii (by omega), ok_ok]
      walk_at "svw"
      exact k
    | clip lo hi =>
      obtain ⟨a0, a2, a3⟩ := hr
      simp only [rlRest, Un.d, List.cons_append, List.nil_append]
      walk_at "svw"
      rw [hv.at0 h1, ok_ok]
      walk_at "svw"
      simp only [made] at k
      refine bi (fun c => ?_) (fun c => ?_)
      · have c : ns.getD 0 0 < lo := by simpa using c
        rw [show min (max (ns.getD 0 0) lo) hi = lo by omega] at k
        exact k
      · have c : lo ≤ ns.getD 0 0 := by simpa using c
        refine bi (fun c2 => ?_) (fun c2 => ?_)
        · have c2 : hi < ns.getD 0 0 := by simpa using c2
          rw [show min (max (ns.getD 0 0) lo) hi = hi by omega] at k
          exact k
        · have c2 : ns.getD 0 0 ≤ hi := by simpa using c2
          rw [show min (max (ns.getD 0 0) lo) hi = ns.getD 0 0 by omega] at k
          exact k
    | frm w =>
      simp only [rlRest, Un.d, List.cons_append, List.nil_append]
      walk_at "svw"
      rw [hv.at0 h1, ok_ok]
      walk_at "svw"
      simp only [made] at k
      refine bi (fun c => ?_) (fun c => ?_)
      · have c : ns.getD 0 0 < w := by simpa using c
        rw [show max (w - ns.getD 0 0) 0 = w - ns.getD 0 0 by omega] at k
        exact k
      · have c : w ≤ ns.getD 0 0 := by simpa using c
        rw [show max (w - ns.getD 0 0) 0 = 0 by omega] at k
        exact k
    | bar q lo hi =>
      simp only [rlRest, Un.d, List.cons_append, List.nil_append]
      walk_at "svw"
      rw [hv.at0 h1, ok_ok]
      walk_at "svw"
      refine bi (fun c => ?_) (fun c => ?_)
      · have c' : ns.getD 0 0 ≥ q := by simpa using c
        simp only [made, c', if_true] at k
        exact k
      · have c' : ¬ ns.getD 0 0 ≥ q := by simpa using c
        simp only [made, c', if_false] at k
        exact k
    | row xs =>
      obtain ⟨r0, r1, r2⟩ := hr
      have lx : 0 < xs.length := List.length_pos_iff.mpr r0
      simp only [rlRest, Un.d, List.cons_append, List.nil_append]
      walk_at "svw"
      rw [hv.at0 h1, ok_ok]
      walk_at "svw"
      simp only [made] at k
      refine bi (fun c => ?_) (fun c => ?_)
      · have c : ns.getD 0 0 < xs.length := by simpa using c
        obtain ⟨j, ej⟩ : ∃ j : Nat, ns.getD 0 0 = j := ⟨(ns.getD 0 0).toNat, by omega⟩
        rw [ej] at k c ⊢
        rw [ix_t (atI_ints (by omega)), ok_ok]
        walk_at "svw"
        rw [show (min (j : Int) (xs.length - 1)).toNat = j by omega] at k
        exact k
      · have c : (xs.length : Int) ≤ ns.getD 0 0 := by simpa using c
        rcases List.eq_nil_or_concat xs with e | ⟨pre, z, e⟩
        · exact absurd e r0
        · rw [List.concat_eq_append] at e
          subst e
          rw [List.map_append, List.map_cons, List.map_nil, ix_tl, ok_ok]
          walk_at "svw"
          rw [show (min (ns.getD 0 0) ((pre ++ [z]).length - 1)).toNat = pre.length by
            rw [List.length_append, List.length_singleton] at c ⊢; omega] at k
          simpa using k
theorem lmade_k {n top : Int} {any : Bool} {r : Rl} (hr : r.ok n top any) (nl : r.isLeaf = false) (ht : top ≤ 900) {ws : D} {S : Sto} {ns : List Int} (hv : vInts ws S ns) (hl : ns.length = r.parts.length) (h0 : ∀ x ∈ ns, 0 ≤ x) {P : D → Sto → Prop} (k : P (.p (.int (made r ns))) S) :
    Ok (f_law_made [.p r.toD, ws] S) P := lmade_kW (ok_W ht hr).node nl hv hl h0 k
/-! ### _law_told -/
theorem getD_cut {l : List Int} {a n i : Nat} (h1 : i < n) (h2 : a + n ≤ l.length) : ((l.drop a).take n).getD i 0 = l.getD (a + i) 0 := by
  rw [List.getD_eq_getElem?_getD, List.getD_eq_getElem?_getD, List.getElem?_take_of_lt h1, List.getElem?_drop]
theorem tls_cut_aux {l : List Int} {a n : Nat} (h2 : a + n ≤ l.length) : ∀ (ps : List Rl) (i : Nat), (∀ p ∈ ps, ∀ j, j + p.brs.length ≤ n → tl p ((l.drop a).take n) j = tl p l (a + j)) → i + (Rl.brsA ps).length ≤ n → tls ps ((l.drop a).take n) i = tls ps l (a + i)
  | [], _, _, _ => by simp [tls]
  | p :: ps, i, hp, hi => by
    simp only [Rl.brsA, List.length_append] at hi
    simp only [tls]
    rw [hp p (by simp) i (by omega), tls_cut_aux h2 ps (i + p.brs.length) (fun q hq => hp q (by simp [hq])) (by omega), Nat.add_assoc]
theorem tl_cut {l : List Int} {a n : Nat} (h2 : a + n ≤ l.length) : ∀ (d : Nat) (r : Rl) (i : Nat), r.dep ≤ d → i + r.brs.length ≤ n → tl r ((l.drop a).take n) i = tl r l (a + i) := by
  intro d
  induction d with
  | zero =>
    intro r i hd hi
    cases r with
    | is w => simp only [tl]
    | hear j => simp only [Rl.brs, List.length_cons, List.length_nil] at hi; simp only [tl]; exact getD_cut (by omega) h2
    | lst k ps => simp [Rl.dep] at hd
    | mid a b c => simp [Rl.dep] at hd
    | un u a => simp [Rl.dep] at hd
  | succ d ih =>
    intro r i hd hi
    by_cases hl : r.isLeaf = true
    · cases r with
      | is w => simp only [tl]
      | hear j => simp only [Rl.brs, List.length_cons, List.length_nil] at hi; simp only [tl]; exact getD_cut (by omega) h2
      | lst k ps => cases hl
      | mid a b c => cases hl
      | un u a => cases hl
    · have nl : r.isLeaf = false := by simpa using hl
      have nh : ∀ j, r ≠ .hear j := fun j e => by subst e; cases nl
      rw [tl_node nl, tl_node nl]
      rw [Rl.brs_parts r nh] at hi
      rw [tls_cut_aux h2 r.parts i (fun p hp j hj => ih p j (by have := Rl.part_dep hp; omega) hj) hi]
theorem cut_ab {α : Type} {xs : List α} {a b : Nat} (h : a + b ≤ xs.length) : SV.cutD xs (some (a : Int)) (some ((a : Int) + (b : Int))) = (xs.drop a).take b := by
  unfold SV.cutD
  rw [show ((a : Int) + (b : Int)) = ((a + b : Nat) : Int) by omega, HT.sIx_nat, HT.sIx_nat, Nat.min_eq_left (show a ≤ xs.length by omega), Nat.min_eq_left h]
  congr 1
  omega
theorem sl_l {xs ys : List PyData} {lo hi : Option Int} {S : Sto} (h : SV.cutD xs lo hi = ys) : gSl true (.p (.list xs)) lo hi S = .ok (.p (.list ys)) S := by
  unfold gSl viewT viewL
  have : SV.cutD (xs.map D.p) lo hi = ys.map D.p := by rw [← h]; unfold SV.cutD; rw [List.length_map, List.map_take, List.map_drop]
  simp only [this, newL_p]
theorem ltold_k {n top : Int} {any : Bool} (ht : top ≤ 900) : ∀ (m : Nat) (r : Rl), r.dep + 1 ≤ m → m ≤ 10 → r.cnt ≤ 100000 → r.ok n top any → ∀ (h : List Int), (∀ x ∈ h, 0 ≤ x) → r.brs.length ≤ h.length → ∀ {S : Sto} {P : D → Sto → Prop},
    P (.p (.int (tl r h 0))) S → Ok (f_law_told m [.p r.toD, .p (.list (h.map .int))] S) P
  | 0, _, hd, _, _, _, _, _, _, _, _, _ => by omega
  | m + 1, r, hd, hm10, hc, hr, h, hh, ha, S, P, k => by
    show Ok (defF 6 (b_law_told (f_law_told m)) _ S) P
    unfold b_law_told
    rw [show (D.p r.toD) = .p (.tuple (.str (rlWd r).nm :: rlRest r)) by rw [toD_eq]]
    by_cases hl : r.isLeaf = true
    · cases r with
      | is w =>
        walk_at "svw"
        simpa only [tl] using k
      | hear j =>
        simp only [Rl.brs, List.length_cons, List.length_nil] at ha
        walk_at "svw"
        rw [ix_l (show atI _ (0 : Int) = _ from atI_ints (j := 0) (by omega)), ok_ok]
        walk_at "svw"
        simpa only [tl] using k
      | lst q ps => cases hl
      | mid a b c => cases hl
      | un u a => cases hl
    · have nl : r.isLeaf = false := by simpa using hl
      have nh : ∀ j, r ≠ .hear j := fun j e => by subst e; cases nl
      walk_at "sv"
      rw [in_leafL, ok_ok]
      walk_at "sv"
      rw [if_neg (by cases r with
          | is w => cases nl
          | hear j => cases nl
          | lst q ps => cases q <;> simp [rlWd, lkWd]
          | mid a b c => simp [rlWd]
          | un u a => cases u <;> simp [rlWd, unWd])]
      have hb := Rl.brs_parts r nh
      have hc2 := Rl.cnt_parts r
      rw [newM, ok_ok]
      walk_at "sv"
      rw [show (D.p (.tuple (.str (rlWd r).nm :: rlRest r))) = .p r.toD by rw [toD_eq]]
      refine lparts_k ?_
      walk_at "sv"
      refine for_ok (I := fun i E S1 => ∃ o4 o5, E = [some (.p r.toD), some (.p (.list (h.map .int))), some (.ref S.length), some (.p (.int ((Rl.brsA (r.parts.take i)).length : Nat))), o4, o5] ∧ S1 = S ++ [.lst ((tls (r.parts.take i) h 0).map fun i => .p (.int i))])
        ⟨none, none, by simp [Rl.brsA], by simp [tls]⟩ ?_ ?_
      · rintro i dd E S1 hi ⟨o4, o5, rfl, rfl⟩
        obtain ⟨p, hp, rfl⟩ : ∃ p, r.parts[i]? = some p ∧ dd = .p p.toD := by
          rw [toDs_p, List.getElem?_map] at hi
          obtain ⟨p, h1, h2⟩ := Option.map_eq_some_iff.mp hi
          exact ⟨p, h1, h2.symm⟩
        have hm := List.mem_of_getElem? hp
        have dp := Rl.part_dep hm
        have cp := Rl.part_cnt hm
        have l1 := Rl.brsA_take hp
        have l2 : (Rl.brsA (r.parts.take (i + 1))).length ≤ (Rl.brsA r.parts).length := by
          have e := Rl.brsA_app (r.parts.take (i + 1)) (r.parts.drop (i + 1))
          rw [List.take_append_drop] at e
          rw [e, List.length_append]; omega
        rw [l1, List.length_append] at l2
        rw [hb] at ha
        walk_at "sv"
        refine lbranches_k 10 p (by omega) (by omega) ?_
        walk_at "sv"
        rw [if_pos (ref_view app_get).2.2.1]
        rw [List.length_map, sl_l (cut_ab (by rw [List.length_map]; omega)), ok_ok]
        walk_at "sv"
        rw [← List.map_drop, ← List.map_take]
        refine ltold_k ht m p (by omega) (by omega) (by omega) (ok_parts hr hm) _ (fun x hx => hh x (List.mem_of_mem_drop (List.mem_of_mem_take hx))) (by rw [List.length_take, List.length_drop]; omega) ?_
        walk_at "sv"
        have lt := tls_len (r.parts.take i) h 0
        have hlp : (r.parts.take i).length ≤ r.parts.length := by rw [List.length_take]; omega
        have hlc := Rl.len_cntA r.parts
        rw [app_ref app_get (by rw [List.length_map, lt]; omega), ok_ok]
        walk_at "sv"
        rw [app_set, tls_take hp, l1, List.length_append, tl_cut (by omega) p.dep p 0 (Nat.le_refl _) (by omega)]
        exact ⟨some (.p p.toD), some (.p (.int (p.brs.length : Nat))), by simp, by simp⟩
      · rintro E S1 ⟨o4, o5, rfl, rfl⟩
        walk_at "sv"
        rw [List.length_map, Rl.toDs_len, List.take_length] at *
        refine lmade_k hr nl ht (show vInts (.ref S.length) _ (tls r.parts h 0) from (ref_view app_get).2.1) (tls_len _ _ _) ?_ ?_
        · exact tls_nn hh _ _ fun p hp => ok_parts hr hp
        walk_at "sv"
        rw [leave_drop (by simp) (fre_p _ _ _ _), ok_ok, ← tl_node nl]
        exact k

end SM
set_option linter.all false
set_option maxRecDepth 100000
set_option maxHeartbeats 4000000
namespace SM
open PySem PySem.Spec PyProof.Rows L2 NB RZ SV PD
local macro_rules | `(tactic| walk_at "sv") => `(tactic| simp only [fC_ok, kOp2_, kOp1_, fOp_ok, kUn_, fUn_ok, fNilA_ok, kCons2_, kCons1_, fConsA_ok, kTup_, fTup_ok, kLst_, fLst_ok, kTru_, fTru_ok, kB_, fB_ok, kNotT_, fNotT_ok, kAndT_, fAndT_ok, kOrT_, fOrT_ok, kIf_, fIf_ok, kAndV_, kOrV_, fAndV_ok, fOrV_ok, kCallB_, fCallB_ok, kCall_, fCall_ok, kCallK_, fCallK_ok, kRev_, fRev_ok, fNoO_ok, fSomeO_ok, kSl3_, kSl2_, kSl1_, fSl_ok, kCh3_, kCh2_, kCh1_, kCh0_, fChain_ok, kMt2_, kMt1_, fMt_ok, fSkip_ok, fSeq_ok, kSet_, fSet_ok, kDrop_, fDrop_ok, kRet_, fRet_ok, fRetN_ok, kIfS_, fIfS_ok, fBrk_ok, fCt_ok, kAug2_, kAug1_, kAsg2_, kAsg1_, fAsg_ok, fPar_ok, gNm_ok, gN0_ok, kC0_, gC0_ok, kSb3_, kSb2_, kSb1_, gSb_ok, kFor_, fFor_ok, kWk_, fWk_ok, kRng1_, fRng1_ok, kRng2_, fRng2_ok, kEnum_, fEnum_ok, kZip_, fZip_ok, kLc2_, kLc1_, fLc_ok, fYes_ok, kQu2_, kQu1_, fQu_ok, leave_same, defK_k, kFinK_ret, kFinK_nx, fVar0_ok, fVarS_ok, defF_ok, kSeq_nx, kSeq_ret, kSeq_brk, kSeq_ct, kSomeO_int, kPar_two, kFin_ret, kFin_nx, add_ii, sub_ii, lt_ii, le_ii, gt_ii, ge_ii, eq_ii, ne_ii, iadd_ii, gBool_b, gTru_b, gNot_b, gNeg_i, gInt_i, gAbs_i, min_ii, max_ii, len_l, len_t, tup_t, tup_l, lst_l, lst_t, newL_p, ix_t0, ix_t1, ix_t2, ix_t3, ix_l0, wk_t, wk_l, vT_t, mkT0, mkT1, mkT2, mkT3, mkT4, mkT5, newL0, newL1, newL2, newL3, sz0, sz1, sz2, sz3, sz4, sz5, tru_t, tru_l, rev_t, rev_l, ok_ok, startE, dBl, dInt, List.map_cons, List.map_nil, List.length_cons, List.length_nil, List.replicate_succ, List.replicate_zero, Nat.reduceAdd, Nat.reduceSub, Nat.reduceLeDiff, List.cons_append, List.nil_append, List.set_cons_zero, List.set_cons_succ, wipeE, Bool.not_true, Bool.not_false, ↓reduceIte, Bool.false_eq_true, decide_true, decide_false, Bool.and_true, Bool.and_false, Bool.true_and, Bool.false_and])
theorem rng_c {S : Sto} {j : Int} {n : Nat} (h : -(2 ^ 62) < j ∧ j < 2 ^ 62) (e : j.toNat = n) : wkRng1 [.p (.int j)] S = .ok (.fix (rngD 0 n)) S := by rw [← e]; exact rng1_i h
theorem rng_at {n i : Nat} {d : D} (h : (rngD 0 n)[i]? = some d) : d = .p (.int i) := by
  unfold rngD at h
  rw [List.getElem?_map] at h
  obtain ⟨a, ha, rfl⟩ := Option.map_eq_some_iff.mp h
  rw [List.getElem?_range] at ha
  · rw [← Option.some.inj ha]; simp
  · exact (List.getElem?_eq_some_iff.mp ha).1 |> fun h => by simpa using h
/-! ### the drawer is laid out -/
theorem pow_ii {S : Sto} : gPow (.p (.int 10)) (.p (.int 18)) S = .ok (.p (.int ((10 : Int) ^ 18))) S := rfl
theorem mul_i {a b : Int} {S : Sto} (h : okMul a b = true) : gMul (.p (.int a)) (.p (.int b)) S = .ok (.p (.int (a * b))) S := by
  unfold gMul; simp only [h, if_true]
theorem mod_i {a b : Int} {S : Sto} (h : 0 < b) : gMod (.p (.int a)) (.p (.int b)) S = .ok (.p (.int (a % b))) S := by
  unfold gMod gIc; simp only [h, decide_true, if_true]
theorem cut48 (ns : List Int) : (SV.cutD ns none (some 48)).length ≤ 48 := by
  unfold SV.cutD
  rw [List.length_take]
  simp [HT.sIx]
  omega
theorem draw_k {ns : List Int} {salt : Int} {S : Sto} {P : D → Sto → Prop} (h0 : 0 ≤ salt) (h1 : salt ≤ 1000)
    (k : ∀ o1 o2, DealS (S ++ [o1, o2]) (S.length + 1) S.length → P (.ref (S.length + 1)) (S ++ [o1, o2])) : Ok (f_law_draw [.scr ns, .p (.int salt)] S) P := by
  unfold f_law_draw
  rw [defK_ok]
  unfold b_law_draw
  walk_at "sv"
  have e1 : gSl true (.scr ns) none (some 48) S = .ok (.p (.list ((SV.cutD ns none (some 48)).map PyData.int))) S := by
    show newL true ((SV.cutD ns none (some 48)).map (D.p ∘ PyData.int)) S = _
    rw [← List.map_map, newL_p]
  have l48 := cut48 ns
  generalize SV.cutD ns none (some 48) = cs at e1 l48
  rw [e1, ok_ok]
  walk_at "sv"
  refine lc_ok (I := fun i acc S1 => ∃ ms : List Int, ms.length = i ∧ (∀ x ∈ ms, 0 ≤ x) ∧ acc = (ms.map PyData.int).map .p ∧ S1 = S) (by simp; omega) ⟨[], rfl, by simp, rfl, rfl⟩ ?_ ?_
  · rintro i dd acc S1 hi ⟨ms, rfl, hp, rfl, rfl⟩
    rw [List.getElem?_map, List.getElem?_map] at hi
    obtain ⟨x, hx, rfl⟩ := Option.map_eq_some_iff.mp hi
    obtain ⟨z, hz, rfl⟩ := Option.map_eq_some_iff.mp hx
    refine ⟨_, rfl, ?_⟩
    walk_at "sv"
    refine ⟨ms ++ [if z < 0 then -z else z], by simp, fun x hx => ?_, by simp, trivial⟩
    rcases List.mem_append.mp hx with q | q
    · exact hp x q
    · rw [List.mem_singleton.mp q]; split <;> omega
  rintro acc S1 ⟨ms, hl, hp, rfl, rfl⟩
  have lm : ms.length ≤ 48 := by rw [hl]; simpa using l48
  clear hl e1
  walk_at "sv"
  rw [mul_i (by unfold okMul; simp), ok_ok]
  walk_at "sv"
  refine for_ok (I := fun i E S2 => ∃ (o : Option D) (b : Int), E = [some (.scr ns), some (.p (.int salt)), o, some (.p (.list (ms.map PyData.int))), some (.p (.int b))] ∧ S2 = S1 ∧ 0 ≤ b ∧ b < 2147483647) ⟨none, _, rfl, rfl, by omega, by omega⟩ ?_ ?_
  · rintro i dd E S2 hi ⟨o, b, rfl, rfl, b0, b1⟩
    rw [List.getElem?_map, List.getElem?_map] at hi
    obtain ⟨x, hx, rfl⟩ := Option.map_eq_some_iff.mp hi
    obtain ⟨z, hz, rfl⟩ := Option.map_eq_some_iff.mp hx
    walk_at "sv"
    rw [mul_i (by unfold okMul; simp), ok_ok]
    walk_at "sv"
    rw [mod_i (by decide), ok_ok]
    walk_at "sv"
    rw [mod_i (by decide), ok_ok]
    walk_at "sv"
    have q := mod_ok (x := b * 48271 + z % 2147483549 + 11) (m := 2147483647) (by decide)
    exact ⟨_, _, rfl, trivial, q.1, q.2⟩
  rintro E S2 ⟨o, b, rfl, rfl, b0, b1⟩
  walk_at "sv"
  refine lc_ok (I := fun i acc S1 => ∃ qs : List Int, qs.length ≤ i ∧ (∀ x ∈ qs, 0 ≤ x) ∧ acc = (qs.map PyData.int).map .p ∧ S1 = S2) (by simp; omega) ⟨[], by simp, by simp, rfl, rfl⟩ ?_ ?_
  · rintro i dd acc S1 hi ⟨qs, hq, hp2, rfl, rfl⟩
    rw [List.getElem?_map, List.getElem?_map] at hi
    obtain ⟨x, hx, rfl⟩ := Option.map_eq_some_iff.mp hi
    obtain ⟨z, hz, rfl⟩ := Option.map_eq_some_iff.mp hx
    refine ⟨_, rfl, ?_⟩
    walk_at "sv"
    rw [pow_ii, ok_ok]
    walk_at "sv"
    refine bi (fun c => ?_) (fun c => ?_)
    · refine ⟨qs ++ [z], by simp; omega, fun x hx => ?_, by simp, trivial⟩
      rcases List.mem_append.mp hx with q | q
      · exact hp2 x q
      · rw [List.mem_singleton.mp q]; exact hp z (List.mem_of_getElem? hz)
    · exact ⟨qs, by omega, hp2, rfl, trivial⟩
  rintro acc S1 ⟨qs, hq, hp2, rfl, rfl⟩
  walk_at "sv"
  rw [show gRev false (D.p (PyData.list (List.map PyData.int qs))) S1 = (.ok (.ref S1.length) (S1 ++ [.lst (qs.reverse.map fun n => .p (.int n))]) : R D) by
      show newL false ((qs.map PyData.int).map D.p).reverse S1 = _
      rw [List.map_map, ← List.map_reverse]
      rfl, ok_ok]
  walk_at "sv"
  rw [show newL false [.ref S1.length, .p (.int b)] (S1 ++ [.lst (qs.reverse.map fun n => .p (.int n))]) = (.ok (.ref (S1.length + 1)) (S1 ++ [.lst (qs.reverse.map fun n => .p (.int n)), .lst [.ref S1.length, .p (.int b)]]) : R D) by
      unfold newL; simp [pures], ok_ok]
  walk_at "sv"
  simp only [List.length_map] at hq
  refine k _ _ ⟨qs.reverse, b, by simp, by simp, by omega, fun n hn => hp2 n (List.mem_reverse.mp hn), by simp; omega, b0, b1⟩
theorem isn_bb {b c : Bool} {S : Sto} : gIsn (.p (.bool b)) (.p (.bool c)) S = .ok (.p (.bool (b != c))) S := by
  cases b <;> cases c <;> rfl
theorem is_bb {b c : Bool} {S : Sto} : gIs (.p (.bool b)) (.p (.bool c)) S = .ok (.p (.bool (b == c))) S := by
  cases b <;> cases c <;> rfl
theorem repr_k {d : PyData} (h : Sh d) {S : Sto} : gRepr [.p d] S = .ok (.p (.str d.shown)) S := by
  show (if shB d then (R.ok (.p (.str d.shown)) S : R D) else .bad) = _
  rw [shB_of h, if_pos rfl]
theorem so_app (a b : Str) : PyData.strOk (a ++ b) = (PyData.strOk a && PyData.strOk b) := by
  show (Array.all (a.cps ++ b.cps) _) = _
  rw [Array.all_append]
  rfl
theorem so_str (s : String) : PyData.strOk (Str.ofString s) = true := by
  rw [Str.ofString_eq_toList]
  unfold PyData.strOk
  rw [← Array.all_toList]
  rw [List.all_eq_true]
  intro x hx
  obtain ⟨c, _, rfl⟩ := List.mem_map.mp hx
  have h := c.valid
  simp only [decide_eq_true_eq]
  have e : c.toNat = c.val.toNat := rfl
  rcases h with h | h
  · omega
  · have := h.2
    omega
theorem so_join (sep : Str) (hs : PyData.strOk sep = true) : ∀ ts : List Str, (∀ t ∈ ts, PyData.strOk t = true) → PyData.strOk (Str.join sep ts) = true
  | [], _ => by simp [Str.join, Str.empty, PyData.strOk]
  | [x], h => h x (by simp)
  | x :: y :: r, h => by
    show PyData.strOk (x ++ sep ++ Str.join sep (y :: r)) = true
    rw [so_app, so_app, h x (by simp), hs, so_join sep hs (y :: r) fun t ht => h t (List.mem_cons_of_mem _ ht)]
    rfl
theorem so_int (z : Int) : PyData.strOk (PyData.shown (.int z)) = true := by
  simp only [PyData.shown]
  exact so_str _
theorem so_all : ∀ ns : List Int, ∀ t ∈ PyData.shownAll (ns.map PyData.int), PyData.strOk t = true
  | [], t, h => by simp [PyData.shownAll] at h
  | n :: r, t, h => by
    simp only [List.map_cons, PyData.shownAll, List.mem_cons] at h
    rcases h with e | e
    · rw [e]; exact so_int n
    · exact so_all r t e
theorem so_ints (ns : List Int) : PyData.strOk (PyData.shown (.tuple (ns.map PyData.int))) = true := by
  simp only [PyData.shown]
  unfold tupleText
  rw [so_app, so_app, so_join _ (so_str _) _ (so_all ns)]
  have h1 := so_str "("
  have h2 : ∀ b : Bool, PyData.strOk (Str.ofString (if b then ",)" else ")")) = true := fun b => so_str _
  rw [h1]
  exact h2 _
theorem ne_ss {s : Str} (hs : PyData.strOk s = true) {S : Sto} : gNe (.p (.str s)) (.p (.str s)) S = .ok (.p (.bool false)) S := by
  have h : SeqAt.shaped (.str s) = true := by
    show (PyData.strOk s && decide (PyData.depth (.str s) ≤ 64)) = true
    rw [hs]
    rfl
  unfold gNe asP
  simp only [h, Bool.and_self, if_true, PyData.eqv, beq_self_eq_true, Bool.not_true, dBl]
theorem brs_in {n top : Int} {any : Bool} : ∀ (d : Nat) (r : Rl), r.dep ≤ d → r.ok n top any → ∀ x ∈ r.brs, 0 ≤ x ∧ x < n := by
  intro d
  induction d with
  | zero =>
    intro r hd hr x hx
    cases r with
    | is w => simp [Rl.brs] at hx
    | hear j =>
      simp only [Rl.brs, List.mem_singleton] at hx
      simp only [Rl.ok] at hr
      rw [hx]; exact hr
    | lst k ps => simp [Rl.dep] at hd
    | mid _ _ _ => simp [Rl.dep] at hd
    | un _ _ => simp [Rl.dep] at hd
  | succ d ih =>
    intro r hd hr x hx
    by_cases nh : ∀ j, r ≠ .hear j
    · rw [Rl.brs_parts r nh] at hx
      have key : ∀ ps : List Rl, (∀ p ∈ ps, p ∈ r.parts) → x ∈ Rl.brsA ps → 0 ≤ x ∧ x < n := by
        intro ps
        induction ps with
        | nil => intro _ h; simp [Rl.brsA] at h
        | cons p ps ihp =>
          intro hs h
          simp only [Rl.brsA, List.mem_append] at h
          have hm := hs p (by simp)
          rcases h with q | q
          · exact ih p (by have := Rl.part_dep hm; omega) (ok_parts hr hm) x q
          · exact ihp (fun q hq => hs q (by simp [hq])) q
      exact key r.parts (fun _ h => h) hx
    · have ⟨j, e⟩ : ∃ j, r = .hear j := by
        cases r with
        | hear j => exact ⟨j, rfl⟩
        | is w => exact absurd (fun j e => by cases e) nh
        | lst k ps => exact absurd (fun j e => by cases e) nh
        | mid a b c => exact absurd (fun j e => by cases e) nh
        | un u a => exact absurd (fun j e => by cases e) nh
      subst e
      simp only [Rl.brs, List.mem_singleton] at hx
      simp only [Rl.ok] at hr
      rw [hx]; exact hr
theorem sh_int {z : Int} (h : -1000000000000 ≤ z ∧ z ≤ 1000000000000) : Sh (.int z) :=
  Sh.of (by simp only [okd]; exact log_small h.1 h.2) (by simp [PyData.depth]) (by simp [wd])

end SM
set_option linter.all false
set_option maxRecDepth 100000
set_option maxHeartbeats 4000000
namespace SM
open PySem PySem.Spec PyProof.Rows L2 NB RZ SV PD
local macro_rules | `(tactic| walk_at "sv") => `(tactic| simp only [fC_ok, kOp2_, kOp1_, fOp_ok, kUn_, fUn_ok, fNilA_ok, kCons2_, kCons1_, fConsA_ok, kTup_, fTup_ok, kLst_, fLst_ok, kTru_, fTru_ok, kB_, fB_ok, kNotT_, fNotT_ok, kAndT_, fAndT_ok, kOrT_, fOrT_ok, kIf_, fIf_ok, kAndV_, kOrV_, fAndV_ok, fOrV_ok, kCallB_, fCallB_ok, kCall_, fCall_ok, kCallK_, fCallK_ok, kRev_, fRev_ok, fNoO_ok, fSomeO_ok, kSl3_, kSl2_, kSl1_, fSl_ok, kCh3_, kCh2_, kCh1_, kCh0_, fChain_ok, kMt2_, kMt1_, fMt_ok, fSkip_ok, fSeq_ok, kSet_, fSet_ok, kDrop_, fDrop_ok, kRet_, fRet_ok, fRetN_ok, kIfS_, fIfS_ok, fBrk_ok, fCt_ok, kAug2_, kAug1_, kAsg2_, kAsg1_, fAsg_ok, fPar_ok, gNm_ok, gN0_ok, kC0_, gC0_ok, kSb3_, kSb2_, kSb1_, gSb_ok, kFor_, fFor_ok, kWk_, fWk_ok, kRng1_, fRng1_ok, kRng2_, fRng2_ok, kEnum_, fEnum_ok, kZip_, fZip_ok, kLc2_, kLc1_, fLc_ok, fYes_ok, kQu2_, kQu1_, fQu_ok, leave_same, defK_k, kFinK_ret, kFinK_nx, fVar0_ok, fVarS_ok, defF_ok, kSeq_nx, kSeq_ret, kSeq_brk, kSeq_ct, kSomeO_int, kPar_two, kFin_ret, kFin_nx, add_ii, sub_ii, lt_ii, le_ii, gt_ii, ge_ii, eq_ii, ne_ii, iadd_ii, gBool_b, gTru_b, gNot_b, gNeg_i, gInt_i, gAbs_i, min_ii, max_ii, len_l, len_t, tup_t, tup_l, lst_l, lst_t, newL_p, ix_t0, ix_t1, ix_t2, ix_t3, ix_l0, wk_t, wk_l, vT_t, mkT0, mkT1, mkT2, mkT3, mkT4, mkT5, newL0, newL1, newL2, newL3, sz0, sz1, sz2, sz3, sz4, sz5, tru_t, tru_l, rev_t, rev_l, ok_ok, startE, dBl, dInt, List.map_cons, List.map_nil, List.length_cons, List.length_nil, List.replicate_succ, List.replicate_zero, Nat.reduceAdd, Nat.reduceSub, Nat.reduceLeDiff, List.cons_append, List.nil_append, List.set_cons_zero, List.set_cons_succ, wipeE, Bool.not_true, Bool.not_false, ↓reduceIte, Bool.false_eq_true, decide_true, decide_false, Bool.and_true, Bool.and_false, Bool.true_and, Bool.false_and])
/-! ### a drawn net -/
theorem net_k {d l : Nat} {most top : Int} {any : Bool} {S : Sto} {P : D → Sto → Prop} (m1 : 1 ≤ most) (m2 : most ≤ 50) (t1 : 1 ≤ top) (t2 : top ≤ 50) (Dl : DealS S d l)
    (k : ∀ (n : Int) (tops : List Int) (rs : List Rl) S', 1 ≤ n → n ≤ most → tops.length = n.toNat → rs.length = n.toNat → (∀ x ∈ tops, 1 ≤ x ∧ x ≤ top) → (∀ r ∈ rs, r.Drawn n top any 3) → DealS S' d l → KpS d l S S' →
      P (.p (.tuple [.tuple (tops.map .int), .tuple (Rl.toDs rs)])) S') :
    Ok (f_law_net [.ref d, .p (.int most), .p (.int top), .p (.bool any)] S) P := by
  unfold f_law_net
  walk_at "sv"
  refine any_k Dl (by omega) (by omega) fun r S1 r0 r1 D1 K1 => ?_
  walk_at "sv"
  generalize hn : 1 + r = n
  have n1 : 1 ≤ n := by omega
  have n2 : n ≤ most := by omega
  clear hn r0 r1
  rw [rng1_i (by omega)]
  walk_at "sv"
  refine lc_ok (I := fun i acc S2 => ∃ ts : List Int, ts.length = i ∧ (∀ x ∈ ts, 1 ≤ x ∧ x ≤ top) ∧ acc = (ts.map PyData.int).map .p ∧ DealS S2 d l ∧ KpS d l S S2) (by rw [rng_len]; omega) ⟨[], rfl, by simp, rfl, D1, K1⟩ ?_ ?_
  · rintro i dd acc S2 hi ⟨ts, rfl, ht, rfl, D2, K2⟩
    refine ⟨_, rfl, ?_⟩
    walk_at "sv"
    refine any_k D2 (by omega) (by omega) fun z S3 z0 z1 D3 K3 => ?_
    walk_at "sv"
    refine ⟨ts ++ [1 + z], by simp, fun x hx => ?_, by simp, D3, K2.trans K3⟩
    rcases List.mem_append.mp hx with q | q
    · exact ht x q
    · rw [List.mem_singleton.mp q]; omega
  rintro acc S2 ⟨ts, hl, ht, rfl, D2, K2⟩
  rw [rng_len] at hl
  walk_at "sv"
  rw [rng1_i (by omega)]
  walk_at "sv"
  refine lc_ok (I := fun i acc S2 => ∃ rs : List Rl, rs.length = i ∧ (∀ r ∈ rs, r.Drawn n top any 3) ∧ acc = (Rl.toDs rs).map .p ∧ DealS S2 d l ∧ KpS d l S S2) (by rw [rng_len]; omega) ⟨[], rfl, by simp, rfl, D2, K2⟩ ?_ ?_
  · rintro i dd acc S3 hi ⟨rs, rfl, hr, rfl, D3, K3⟩
    refine ⟨_, rfl, ?_⟩
    walk_at "sv"
    refine any_k D3 (by decide) (by decide) fun z S4 z0 z1 D4 K4 => ?_
    obtain ⟨deep, rfl⟩ : ∃ m : Nat, z = m := ⟨z.toNat, by omega⟩
    walk_at "sv"
    refine (rule_ok (d := d) (l := l) (N := n) (any := any) (by omega) (by omega) (by omega) (by omega) 4 deep (by omega)).k D4 fun q S5 dq D5 K5 => ?_
    refine ⟨rs ++ [q], by simp, fun x hx => ?_, by rw [Rl.toDs_app]; simp [Rl.toDs], D5, (K3.trans K4).trans K5⟩
    rcases List.mem_append.mp hx with y | y
    · exact hr x y
    · rw [List.mem_singleton.mp y]; exact dq.mono (by omega)
  rintro acc S3 ⟨rs, hl2, hr, rfl, D3, K3⟩
  rw [rng_len] at hl2
  walk_at "sv"
  rw [leave_len _ K3.1, ok_ok]
  exact k n ts rs S3 n1 n2 hl hl2 ht hr D3 K3

end SM
set_option linter.all false
set_option maxRecDepth 100000
set_option maxHeartbeats 4000000
namespace SM
open PySem PySem.Spec PyProof.Rows L2 NB RZ SV PD
local macro_rules | `(tactic| walk_at "sv") => `(tactic| simp only [fC_ok, kOp2_, kOp1_, fOp_ok, kUn_, fUn_ok, fNilA_ok, kCons2_, kCons1_, fConsA_ok, kTup_, fTup_ok, kLst_, fLst_ok, kTru_, fTru_ok, kB_, fB_ok, kNotT_, fNotT_ok, kAndT_, fAndT_ok, kOrT_, fOrT_ok, kIf_, fIf_ok, kAndV_, kOrV_, fAndV_ok, fOrV_ok, kCallB_, fCallB_ok, kCall_, fCall_ok, kCallK_, fCallK_ok, kRev_, fRev_ok, fNoO_ok, fSomeO_ok, kSl3_, kSl2_, kSl1_, fSl_ok, kCh3_, kCh2_, kCh1_, kCh0_, fChain_ok, kMt2_, kMt1_, fMt_ok, fSkip_ok, fSeq_ok, kSet_, fSet_ok, kDrop_, fDrop_ok, kRet_, fRet_ok, fRetN_ok, kIfS_, fIfS_ok, fBrk_ok, fCt_ok, kAug2_, kAug1_, kAsg2_, kAsg1_, fAsg_ok, fPar_ok, gNm_ok, gN0_ok, kC0_, gC0_ok, kSb3_, kSb2_, kSb1_, gSb_ok, kFor_, fFor_ok, kWk_, fWk_ok, kRng1_, fRng1_ok, kRng2_, fRng2_ok, kEnum_, fEnum_ok, kZip_, fZip_ok, kLc2_, kLc1_, fLc_ok, fYes_ok, kQu2_, kQu1_, fQu_ok, leave_same, defK_k, kFinK_ret, kFinK_nx, fVar0_ok, fVarS_ok, defF_ok, kSeq_nx, kSeq_ret, kSeq_brk, kSeq_ct, kSomeO_int, kPar_two, kFin_ret, kFin_nx, add_ii, sub_ii, lt_ii, le_ii, gt_ii, ge_ii, eq_ii, ne_ii, iadd_ii, gBool_b, gTru_b, gNot_b, gNeg_i, gInt_i, gAbs_i, min_ii, max_ii, len_l, len_t, tup_t, tup_l, lst_l, lst_t, newL_p, ix_t0, ix_t1, ix_t2, ix_t3, ix_l0, wk_t, wk_l, vT_t, mkT0, mkT1, mkT2, mkT3, mkT4, mkT5, newL0, newL1, newL2, newL3, sz0, sz1, sz2, sz3, sz4, sz5, tru_t, tru_l, rev_t, rev_l, ok_ok, startE, dBl, dInt, List.map_cons, List.map_nil, List.length_cons, List.length_nil, List.replicate_succ, List.replicate_zero, Nat.reduceAdd, Nat.reduceSub, Nat.reduceLeDiff, List.cons_append, List.nil_append, List.set_cons_zero, List.set_cons_succ, wipeE, Bool.not_true, Bool.not_false, ↓reduceIte, Bool.false_eq_true, decide_true, decide_false, Bool.and_true, Bool.and_false, Bool.true_and, Bool.false_and])
/-! ### data of any kind -/
def noDict : PyData → Bool
  | .dict _ => false
  | _ => true
theorem noDict_ne {v : PyData} (h : noDict v = true) : ∀ kvs, v ≠ .dict kvs := fun kvs e => by subst e; cases h
theorem isi_tt {xs : List PyData} {S : Sto} : gIsi .tuple (.p (.tuple xs)) S = .ok (.p (.bool true)) S := rfl
def isTup : PyData → Bool
  | .tuple _ => true
  | _ => false
theorem isi_t {x : PyData} {S : Sto} (h : noDict x = true) : gIsi .tuple (.p x) S = .ok (.p (.bool (isTup x))) S := by
  cases x <;> first | rfl | cases h
theorem isi_int {v : PyData} {S : Sto} (h : noDict v = true) : gIsi .int (.p v) S = .ok (.p (.bool (match v with | .int _ => true | .bool _ => true | _ => false))) S := by
  cases v <;> first | rfl | cases h
theorem isi_bool {v : PyData} {S : Sto} (h : noDict v = true) : gIsi .bool (.p v) S = .ok (.p (.bool (match v with | .bool _ => true | _ => false))) S := by
  cases v <;> first | rfl | cases h
def isIntP (v : PyData) (lo hi : Int) : Bool := match v with
  | .int i => decide (lo ≤ i) && decide (i ≤ hi)
  | _ => false
theorem isInteger_k (v : PyData) (hv : noDict v = true) {S : Sto} {P : D → Sto → Prop} (k : P (.p (.bool (match v with | .int _ => true | _ => false))) S) : Ok (f_is_integer [.p v] S) P := by
  unfold f_is_integer
  walk_at "sv"
  rw [isi_int hv, ok_ok]
  walk_at "sv"
  cases v with
  | int i => 
    walk_at "sv"
    rw [isi_bool hv, ok_ok]
    walk_at "sv"
    exact k
  | bool b =>
    walk_at "sv"
    rw [isi_bool hv, ok_ok]
    walk_at "sv"
    exact k
  | _ => exact k
theorem isInt_ok (v : PyData) (lo hi : Int) (S : Sto) (hv : ∀ kvs, v ≠ .dict kvs) : f_is_integer_in [.p v, .p (.int lo), .p (.int hi)] S = .ok (.p (.bool (isIntP v lo hi))) S := by
  have nd : noDict v = true := by cases v <;> first | rfl | exact absurd rfl (hv _)
  refine Ok.eq ?_
  unfold f_is_integer_in
  walk_at "sv"
  refine isInteger_k v nd ?_
  cases v with
  | int i =>
    walk_at "sv"
    simp only [isIntP]
    refine bi (fun c => ?_) (fun c => ?_) <;> simp [c]
  | _ =>
    walk_at "sv"
    first | exact ⟨rfl, rfl⟩ | exact ⟨rfl, trivial⟩
theorem number_k (v : PyData) (b : Int) (hv : noDict v = true) {S : Sto} {P : D → Sto → Prop} (k : P (.p (.bool (isIntP v 0 (b - 1)))) S) : Ok (f_law_number [.p v, .p (.int b)] S) P := by
  unfold f_law_number
  walk_at "sv"
  rw [isi_int hv, ok_ok]
  walk_at "sv"
  cases v with
  | int i =>
    walk_at "sv"
    rw [isi_bool hv, ok_ok]
    walk_at "sv"
    have e : isIntP (.int i) 0 (b - 1) = (decide (0 ≤ i) && decide (i < b)) := by
      simp only [isIntP]
      congr 1
      exact decide_eq_decide.mpr (by omega)
    rw [e] at k
    refine bi (fun c => ?_) (fun c => ?_)
    · rw [c] at k; simpa using k
    · rw [c] at k; simpa using k
  | bool x =>
    walk_at "sv"
    rw [isi_bool hv, ok_ok]
    walk_at "sv"
    exact k
  | _ => exact k
theorem enum_p {xs : List PyData} {i : Nat} {d : D} (h : (enumD (xs.map D.p))[i]? = some d) : ∃ x, xs[i]? = some x ∧ d = .p (.tuple [.int (i : Nat), x]) := by
  obtain ⟨y, h1, rfl⟩ := enum_some h
  rw [List.getElem?_map] at h1
  obtain ⟨x, h2, rfl⟩ := Option.map_eq_some_iff.mp h1
  exact ⟨x, h2, rfl⟩
theorem enum_len (xs : List D) : (enumD xs).length = xs.length := by
  have key : ∀ (f : Nat → D → D → D) (ys : List D) (k : Nat), (wkPairs f k ys ys).length = ys.length := by
    intro f ys
    induction ys with
    | nil => intro k; rfl
    | cons y r ih => intro k; simp [wkPairs, ih]
  exact key _ xs 0
theorem enum_k {xs : List PyData} {S : Sto} : wkEnum [.p (.tuple xs)] S = .ok (.fix ((List.range xs.length).map fun i => .p (.tuple [.int (i : Nat), xs.getD i .none]))) S := by
  show R.ok (Wk.fix (enumD (xs.map D.p))) S = _
  congr 2
  apply List.ext_getElem?
  intro i
  rw [List.getElem?_map]
  cases h : (enumD (xs.map D.p))[i]? with
  | some d =>
    obtain ⟨x, hx, rfl⟩ := enum_p h
    have hl := (List.getElem?_eq_some_iff.mp hx).1
    rw [List.getElem?_range hl]
    simp only [Option.map_some, List.getD_eq_getElem?_getD, hx, Option.getD_some]
  | none =>
    have h2 := List.getElem?_eq_none_iff.mp h
    rw [enum_len, List.length_map] at h2
    rw [List.getElem?_eq_none_iff.mpr (by rw [List.length_range]; exact h2)]
    rfl
theorem zipD_p : ∀ xs ys : List PyData, ∀ k, wkPairs (fun _ x y => mkT [x, y]) k (xs.map D.p) (ys.map D.p) = (xs.zip ys).map fun q => D.p (.tuple [q.1, q.2])
  | [], _, _ => by simp [wkPairs]
  | _ :: _, [], _ => by simp [wkPairs]
  | x :: xs, y :: ys, k => by
    simp only [List.map_cons, wkPairs, List.zip_cons_cons, zipD_p xs ys]
    rfl
theorem zip_tt {xs ys : List PyData} {S : Sto} : wkZip [.p (.tuple xs), .p (.tuple ys)] S = .ok (.fix ((xs.zip ys).map fun q => D.p (.tuple [q.1, q.2]))) S := by
  show R.ok (Wk.fix (zipD (xs.map D.p) (ys.map D.p))) S = _
  unfold zipD
  rw [zipD_p]
theorem zip_tl {xs ys : List PyData} {S : Sto} : wkZip [.p (.tuple xs), .p (.list ys)] S = .ok (.fix ((xs.zip ys).map fun q => D.p (.tuple [q.1, q.2]))) S := by
  show R.ok (Wk.fix (zipD (xs.map D.p) (ys.map D.p))) S = _
  unfold zipD
  rw [zipD_p]
theorem zip_lt {xs ys : List PyData} {S : Sto} : wkZip [.p (.list xs), .p (.tuple ys)] S = .ok (.fix ((xs.zip ys).map fun q => D.p (.tuple [q.1, q.2]))) S := by
  show R.ok (Wk.fix (zipD (xs.map D.p) (ys.map D.p))) S = _
  unfold zipD
  rw [zipD_p]
theorem zip_ll {xs ys : List PyData} {S : Sto} : wkZip [.p (.list xs), .p (.list ys)] S = .ok (.fix ((xs.zip ys).map fun q => D.p (.tuple [q.1, q.2]))) S := by
  show R.ok (Wk.fix (zipD (xs.map D.p) (ys.map D.p))) S = _
  unfold zipD
  rw [zipD_p]
/-- a loop over things shown as data -/
theorem for_X {X : Type} {xs : List X} {g : X → D} {t : FG} {b : FS} {I : Nat → En → Sto → Prop} {P : Fl → Sto → Prop} {E : En} {S : Sto} (h0 : I 0 E S)
    (step : ∀ i x E S, xs[i]? = some x → I i E S → Ok (t (g x) E S) fun E1 S1 => Ok (b E1 S1) fun fl S2 => match fl with
      | .nx E2 => I (i + 1) E2 S2
      | .ct E2 => I (i + 1) E2 S2
      | .brk E2 => P (.nx E2) S2
      | .ret d => P (.ret d) S2)
    (done : ∀ E S, I xs.length E S → P (.nx E) S) : Ok (forN (.fix (xs.map g)) t b (Wk.fix (xs.map g)).fuel 0 E S) P :=
  for_ok (I := I) h0 (fun i d E S hi h => by
    rw [List.getElem?_map] at hi
    obtain ⟨x, hx, rfl⟩ := Option.map_eq_some_iff.mp hi
    exact step i x E S hx h) (fun E S h => done E S (by rwa [List.length_map] at h))
theorem kp_tab {d l : Nat} {S S' : Sto} {P : Addr} (k : KpS d l S S') (hd : d ≠ 0) (hl : l ≠ 0) (h : hasTab S P = true) : hasTab S' P = true := by
  unfold hasTab at h ⊢
  rwa [k.2 0 (Ne.symm hd) (Ne.symm hl)]
/-- a comprehension over things shown as data -/
theorem lc_mapX {X : Type} {xs : List X} {g f : X → D} {t : Tgt} {te : FE} {E : En} {S : Sto} (hl : xs.length ≤ 400000) (h : ∀ x ∈ xs, ∃ E1, t.put (g x) E = some E1 ∧ te E1 S = .ok (f x) S) :
    lcN (.fix (xs.map g)) t fYes te E (Wk.fix (xs.map g)).fuel 0 [] S = .ok (xs.map f) S := by
  refine Ok.eq (lc_ok (I := fun i acc S' => acc = (xs.take i).map f ∧ S' = S) (by simpa using hl) ⟨by simp, rfl⟩ ?_ ?_)
  · rintro i d acc S' hi ⟨rfl, rfl⟩
    rw [List.getElem?_map] at hi
    obtain ⟨x, hx, rfl⟩ := Option.map_eq_some_iff.mp hi
    obtain ⟨E1, e1, e2⟩ := h x (List.mem_of_getElem? hx)
    refine ⟨E1, e1, ?_⟩
    show Ok (R.ok true S') _
    rw [ok_ok, if_pos rfl, e2, ok_ok]
    exact ⟨by rw [List.take_add_one, hx]; simp, rfl⟩
  · rintro acc S' ⟨rfl, rfl⟩
    rw [List.length_map, List.take_length]
    exact ⟨rfl, rfl⟩
theorem newL_X {X : Type} {xs : List X} {h : X → PyData} {S : Sto} : newL true (xs.map fun x => D.p (h x)) S = .ok (.p (.list (xs.map h))) S := by
  rw [show (xs.map fun x => D.p (h x)) = (xs.map h).map D.p by rw [List.map_map]; rfl, newL_p]
theorem toDs_map (rs : List Rl) : Rl.toDs rs = rs.map Rl.toD := by
  induction rs with
  | nil => rfl
  | cons r rs ih => simp only [Rl.toDs, List.map_cons, ih]
theorem atI_map {X Y : Type} {xs : List X} {f : X → Y} {j : Nat} {x : X} (h : xs[j]? = some x) : atI (xs.map f) (j : Int) = some (f x) := by
  have hl := (List.getElem?_eq_some_iff.mp h).1
  unfold atI ixN
  rw [if_pos (by omega), if_pos (by rw [List.length_map]; omega)]
  show (xs.map f)[((j : Int)).toNat]? = _
  rw [Int.toNat_natCast, List.getElem?_map, h]
  rfl
theorem lc_filt {X : Type} {xs : List X} {g f : X → D} {c : X → Bool} {t : Tgt} {ts : FT} {te : FE} {E : En} {S : Sto} (hl : xs.length ≤ 400000) (h : ∀ x ∈ xs, ∃ E1, t.put (g x) E = some E1 ∧ ts E1 S = .ok (c x) S ∧ te E1 S = .ok (f x) S) :
    lcN (.fix (xs.map g)) t ts te E (Wk.fix (xs.map g)).fuel 0 [] S = .ok ((xs.filter c).map f) S := by
  refine Ok.eq (lc_ok (I := fun i acc S' => acc = ((xs.take i).filter c).map f ∧ S' = S) (by simpa using hl) ⟨by simp, rfl⟩ ?_ ?_)
  · rintro i d acc S' hi ⟨rfl, rfl⟩
    rw [List.getElem?_map] at hi
    obtain ⟨x, hx, rfl⟩ := Option.map_eq_some_iff.mp hi
    obtain ⟨E1, e1, e2, e3⟩ := h x (List.mem_of_getElem? hx)
    refine ⟨E1, e1, ?_⟩
    rw [e2, ok_ok, e3, ok_ok]
    rw [List.take_add_one, hx, Option.toList_some, List.filter_append]
    by_cases q : c x = true
    · rw [if_pos q]; simp [q]
    · rw [if_neg q]; simp [q]
  · rintro acc S' ⟨rfl, rfl⟩
    rw [List.length_map, List.take_length]
    exact ⟨rfl, rfl⟩
theorem lay_ints : ∀ ns : List Int, PyData.canLayAll0 (ns.map PyData.int) = true
  | [] => rfl
  | n :: r => by simp only [List.map_cons, PyData.canLayAll0, PyData.canLay0, lay_ints r, Bool.and_self]
theorem dep_ints : ∀ ns : List Int, PyData.depthAll (ns.map PyData.int) = 0
  | [] => rfl
  | n :: r => by simp only [List.map_cons, PyData.depthAll, PyData.depth, dep_ints r, Nat.max_self]
theorem cut_to {α : Type} {xs : List α} {i : Nat} (h : i ≤ xs.length) : SV.cutD xs none (some (i : Int)) = xs.take i := by
  unfold SV.cutD
  rw [HT.sIx_none, HT.sIx_nat, Nat.min_eq_left h]
  simp

end SM
set_option linter.all false
set_option maxRecDepth 100000
set_option maxHeartbeats 4000000
namespace SM
open PySem PySem.Spec PyProof.Rows L2 NB RZ SV PD
local macro_rules | `(tactic| walk_at "sv") => `(tactic| simp only [fC_ok, kOp2_, kOp1_, fOp_ok, kUn_, fUn_ok, fNilA_ok, kCons2_, kCons1_, fConsA_ok, kTup_, fTup_ok, kLst_, fLst_ok, kTru_, fTru_ok, kB_, fB_ok, kNotT_, fNotT_ok, kAndT_, fAndT_ok, kOrT_, fOrT_ok, kIf_, fIf_ok, kAndV_, kOrV_, fAndV_ok, fOrV_ok, kCallB_, fCallB_ok, kCall_, fCall_ok, kCallK_, fCallK_ok, kRev_, fRev_ok, fNoO_ok, fSomeO_ok, kSl3_, kSl2_, kSl1_, fSl_ok, kCh3_, kCh2_, kCh1_, kCh0_, fChain_ok, kMt2_, kMt1_, fMt_ok, fSkip_ok, fSeq_ok, kSet_, fSet_ok, kDrop_, fDrop_ok, kRet_, fRet_ok, fRetN_ok, kIfS_, fIfS_ok, fBrk_ok, fCt_ok, kAug2_, kAug1_, kAsg2_, kAsg1_, fAsg_ok, fPar_ok, gNm_ok, gN0_ok, kC0_, gC0_ok, kSb3_, kSb2_, kSb1_, gSb_ok, kFor_, fFor_ok, kWk_, fWk_ok, kRng1_, fRng1_ok, kRng2_, fRng2_ok, kEnum_, fEnum_ok, kZip_, fZip_ok, kLc2_, kLc1_, fLc_ok, fYes_ok, kQu2_, kQu1_, fQu_ok, leave_same, defK_k, kFinK_ret, kFinK_nx, fVar0_ok, fVarS_ok, defF_ok, kSeq_nx, kSeq_ret, kSeq_brk, kSeq_ct, kSomeO_int, kPar_two, kFin_ret, kFin_nx, add_ii, sub_ii, lt_ii, le_ii, gt_ii, ge_ii, eq_ii, ne_ii, iadd_ii, gBool_b, gTru_b, gNot_b, gNeg_i, gInt_i, gAbs_i, min_ii, max_ii, len_l, len_t, tup_t, tup_l, lst_l, lst_t, newL_p, ix_t0, ix_t1, ix_t2, ix_t3, ix_l0, wk_t, wk_l, vT_t, mkT0, mkT1, mkT2, mkT3, mkT4, mkT5, newL0, newL1, newL2, newL3, sz0, sz1, sz2, sz3, sz4, sz5, tru_t, tru_l, rev_t, rev_l, ok_ok, startE, dBl, dInt, List.map_cons, List.map_nil, List.length_cons, List.length_nil, List.replicate_succ, List.replicate_zero, Nat.reduceAdd, Nat.reduceSub, Nat.reduceLeDiff, List.cons_append, List.nil_append, List.set_cons_zero, List.set_cons_succ, wipeE, Bool.not_true, Bool.not_false, ↓reduceIte, Bool.false_eq_true, decide_true, decide_false, Bool.and_true, Bool.and_false, Bool.true_and, Bool.false_and])
local macro_rules | `(tactic| walk_at "svw") => `(tactic| simp only [eq_is, eq_hear, eq_least, eq_most, eq_add, eq_middle, eq_times, eq_part, eq_clip, eq_from, eq_bar, eq_row, in_leafL, in_leafT, in_listL, in_listT, in_four, in_two, newL4, rlWd, unWd, lkWd, rlRest, Un.d, ix_t1, ix_t2, ix_t3, List.mem_cons, List.not_mem_nil, reduceCtorEq, or_false, false_or, or_self, or_true, true_or, decide_false, decide_true, fC_ok, kOp2_, kOp1_, fOp_ok, kUn_, fUn_ok, fNilA_ok, kCons2_, kCons1_, fConsA_ok, kTup_, fTup_ok, kLst_, fLst_ok, kTru_, fTru_ok, kB_, fB_ok, kNotT_, fNotT_ok, kAndT_, fAndT_ok, kOrT_, fOrT_ok, kIf_, fIf_ok, kAndV_, kOrV_, fAndV_ok, fOrV_ok, kCallB_, fCallB_ok, kCall_, fCall_ok, kCallK_, fCallK_ok, fNoO_ok, fSomeO_ok, kSl3_, kSl2_, kSl1_, fSl_ok, kCh3_, kCh2_, kCh1_, kCh0_, fChain_ok, kMt2_, kMt1_, fMt_ok, fSkip_ok, fSeq_ok, kSet_, fSet_ok, kDrop_, fDrop_ok, kRet_, fRet_ok, fRetN_ok, kIfS_, fIfS_ok, fBrk_ok, fCt_ok, kAug2_, kAug1_, kAsg2_, kAsg1_, fAsg_ok, fPar_ok, gNm_ok, gN0_ok, kC0_, gC0_ok, kSb3_, kSb2_, kSb1_, gSb_ok, kFor_, fFor_ok, kWk_, fWk_ok, kRng1_, fRng1_ok, kRng2_, fRng2_ok, kEnum_, fEnum_ok, kZip_, fZip_ok, kLc2_, kLc1_, fLc_ok, fYes_ok, leave_same, defK_k, kFinK_ret, kFinK_nx, fVar0_ok, fVarS_ok, defF_ok, kSeq_nx, kSeq_ret, kSeq_brk, kSeq_ct, kSomeO_int, kPar_two, kFin_ret, kFin_nx, add_ii, sub_ii, lt_ii, le_ii, gt_ii, ge_ii, eq_ii, ne_ii, iadd_ii, gBool_b, gTru_b, gNot_b, gNeg_i, gInt_i, gAbs_i, min_ii, max_ii, len_l, len_t, tup_t, tup_l, lst_l, lst_t, newL_p, ix_t0, ix_t1, ix_t2, ix_t3, ix_l0, wk_t, wk_l, vT_t, mkT0, mkT1, mkT2, mkT3, mkT4, mkT5, newL0, newL1, newL2, newL3, sz0, sz1, sz2, sz3, sz4, sz5, ok_ok, startE, dBl, dInt, List.map_cons, List.map_nil, List.length_cons, List.length_nil, List.replicate_succ, List.replicate_zero, Nat.reduceAdd, Nat.reduceSub, Nat.reduceLeDiff, List.cons_append, List.nil_append, List.set_cons_zero, List.set_cons_succ, wipeE, Bool.not_true, Bool.not_false, ↓reduceIte, Bool.false_eq_true, decide_true, decide_false, Bool.and_true, Bool.and_false, Bool.true_and, Bool.false_and])
/-! ### what is a rule: over data -/
def leastP (w : Wd) (nums : List PyData) : PyData := match w, nums with
  | .part, _ => .int 1
  | .clip, [x] => x
  | _, _ => .int 0
def cntOf : Wd → Int × Int
  | .times => (1, 1) | .part => (1, 1) | .clip => (2, 2) | .frm => (1, 1) | .bar => (3, 3) | .row => (1, 64) | _ => (0, 0)
def countWds : List Wd := [.least, .most, .add, .middle, .times, .part, .clip, .frm, .bar, .row]
theorem counts_eq : t_NUMBER_COUNTS = countWds.map fun x => (x.nm, .p (.tuple [.int (cntOf x).1, .int (cntOf x).2])) := rfl
def fitAt (w : Wd) (nums : List PyData) (i : Nat) : Bool := match leastP w (nums.take i), nums[i]? with
  | .int lo, some x => isIntP x lo 1000
  | _, _ => false
def numsFit (w : Wd) (nums : List PyData) : Bool := decide ((cntOf w).1 ≤ nums.length) && decide ((nums.length : Int) ≤ (cntOf w).2) && (List.range nums.length).all (fitAt w nums)
theorem least_k (w : Wd) (nums : List PyData) (S : Sto) {P : D → Sto → Prop} (k : P (.p (leastP w nums)) S) : Ok (f_least_number [.p (.str w.nm), .p (.tuple nums)] S) P := by
  unfold f_least_number
  by_cases h1 : w = .part
  · subst h1
    walk_at "svw"
    exact k
  · walk_at "sv"
    rw [eq_part, ok_ok]
    walk_at "sv"
    rw [if_neg (by simpa using h1), eq_clip, ok_ok]
    walk_at "sv"
    by_cases h2 : w = .clip
    · subst h2
      match nums, k with
      | [], k => exact k
      | [x], k => simpa [ix_t0, ok_ok, kRet_, kSeq_ret, kFin_ret, leave_same, leastP] using k
      | _ :: _ :: r, k =>
        rw [if_pos (by decide), if_neg (by simp; omega)]
        exact k
    · rw [if_neg (by simpa using h2)]
      have : leastP w nums = .int 0 := by
        unfold leastP
        split
        · exact absurd rfl h1
        · exact absurd rfl h2
        · rfl
      rw [this] at k
      exact k
theorem fit_int {w : Wd} {nums : List PyData} {i : Nat} (hi : i < nums.length) (h : ∀ j, j < i → fitAt w nums j = true) : ∃ lo, leastP w (nums.take i) = .int lo := by
  unfold leastP
  split
  · exact ⟨_, rfl⟩
  · rename_i x e
    have h0 : nums[0]? = some x := by
      have this : (nums.take i)[0]? = some x := by rw [e]; rfl
      have hp : 0 < i := by
        cases i with
        | zero => simp at e
        | succ i => omega
      rw [List.getElem?_take_of_lt hp] at this
      exact this
    have hp : 0 < i := by
      cases i with
      | zero => simp at e
      | succ i => omega
    have := h 0 hp
    unfold fitAt at this
    simp only [List.take_zero, leastP, h0] at this
    unfold isIntP at this
    cases x with
    | int z => exact ⟨z, rfl⟩
    | _ => simp at this
  · exact ⟨_, rfl⟩
theorem fit_k {w : Wd} (hw : w ∈ countWds) {nums : List PyData} (nd : ∀ x ∈ nums, noDict x = true) (hl : nums.length ≤ 100000) {S : Sto} {P : D → Sto → Prop} (k : P (.p (.bool (numsFit w nums))) S) : Ok (f_numbers_fit [.p (.str w.nm), .p (.tuple nums)] S) P := by
  unfold f_numbers_fit
  walk_at "sv"
  have e1 : gIxKd t_NUMBER_COUNTS (.p (.str w.nm)) S = .ok (.p (.tuple [.int (cntOf w).1, .int (cntOf w).2])) S := by
    unfold gIxKd
    simp only [counts_eq, lookup_nm (fun x => D.p (.tuple [.int (cntOf x).1, .int (cntOf x).2])) w countWds hw]
  rw [e1, ok_ok]
  walk_at "sv"
  rw [gTp_ok vT_t (by rfl)]
  walk_at "sv"
  have bad : numsFit w nums = false → P (.p (.bool false)) S := fun e => by rw [e] at k; exact k
  have bad2 : (if (!false) = true then P (D.p (.bool false)) S else True) → P (D.p (.bool false)) S := fun h => h
  by_cases c1 : (cntOf w).1 ≤ nums.length
  · rw [if_pos (by simpa using c1)]
    by_cases c2 : (nums.length : Int) ≤ (cntOf w).2
    · rw [if_neg (by simpa using c2)]
      rw [show wkEnum [.p (.tuple nums)] S = .ok (.fix (enumD (nums.map .p))) S from rfl, ok_ok]
      walk_at "sv"
      refine for_ok (I := fun i E S1 => ∃ o4 o5, E = [some (.p (.str w.nm)), some (.p (.tuple nums)), some (.p (.int (cntOf w).1)), some (.p (.int (cntOf w).2)), o4, o5] ∧ S1 = S ∧ ∀ j, j < i → fitAt w nums j = true) ⟨none, none, rfl, rfl, fun j h => by omega⟩ ?_ ?_
      · rintro i dd E S1 hi ⟨o4, o5, rfl, rfl, hf⟩
        obtain ⟨x, hx, rfl⟩ := enum_p hi
        have hlt := (List.getElem?_eq_some_iff.mp hx).1
        rw [gTp_ok vT_t (by rfl)]
        walk_at "sv"
        rw [sl_t (cut_to (by omega)), ok_ok]
        walk_at "sv"
        refine least_k w _ _ ?_
        walk_at "sv"
        obtain ⟨lo, elo⟩ := fit_int hlt hf
        rw [elo, isInt_ok x lo 1000 _ (noDict_ne (nd x (List.mem_of_getElem? hx))), ok_ok]
        walk_at "sv"
        have ef : fitAt w nums i = isIntP x lo 1000 := by unfold fitAt; rw [elo, hx]
        cases ei : isIntP x lo 1000 with
        | true =>
          rw [if_neg (by decide)]
          refine ⟨_, _, rfl, trivial, fun j hj => ?_⟩
          by_cases c : j = i
          · rw [c, ef, ei]
          · exact hf j (by omega)
        | false =>
          rw [if_pos (by decide)]
          refine bad ?_
          unfold numsFit
          rw [Bool.and_eq_false_iff]
          right
          rw [List.all_eq_false]
          exact ⟨i, by simpa using hlt, by rw [ef, ei]; decide⟩
      · rintro E S1 ⟨o4, o5, rfl, rfl, hf⟩
        walk_at "sv"
        have : numsFit w nums = true := by
          unfold numsFit
          rw [Bool.and_eq_true, Bool.and_eq_true]
          refine ⟨⟨by simpa using c1, by simpa using c2⟩, List.all_eq_true.mpr fun j hj => hf j ?_⟩
          rw [enum_len, List.length_map]
          simpa using hj
        rw [this] at k
        exact k
    · rw [if_pos (by simpa using c2)]
      refine bad ?_
      unfold numsFit
      rw [decide_eq_false c2]
      simp
  · rw [if_neg (by simpa using c1)]
    refine bad ?_
    unfold numsFit
    rw [decide_eq_false c1]
    simp
def formOf (w : Wd) (rest : List PyData) : Bool := match w, rest with
  | .is, [x] => isIntP x 0 1000
  | .is, _ => false
  | .hear, [x] => isIntP x 0 1000
  | .hear, _ => false
  | .least, [.tuple xs] => !xs.isEmpty
  | .least, _ => false
  | .most, [.tuple xs] => !xs.isEmpty
  | .most, _ => false
  | .add, [.tuple xs] => !xs.isEmpty
  | .add, _ => false
  | .middle, r => r.length == 3
  | .row, [.tuple xs, _] => numsFit .row xs
  | .row, _ => false
  | w, r => numsFit w r.dropLast
def noDict2 : PyData → Bool
  | .tuple xs => xs.all noDict && decide (xs.length ≤ 100000)
  | x => noDict x
theorem isi_ss {s : Str} {S : Sto} : gIsi .str (.p (.str s)) S = .ok (.p (.bool true)) S := rfl
theorem noDict_of2 {x : PyData} (h : noDict2 x = true) : noDict x = true := by
  cases x <;> first | rfl | (simp [noDict2, noDict] at h)
theorem cut_1m {α : Type} (x : α) (r : List α) : SV.cutD (x :: r) (some 1) (some (-1)) = r.dropLast := by
  unfold SV.cutD
  have h1 : HT.sIx (x :: r).length 0 (some 1) = 1 := by
    rw [show (1 : Int) = ((1 : Nat) : Int) from rfl, HT.sIx_nat]
    simp
  have h2 : HT.sIx (x :: r).length (x :: r).length (some (-1)) = r.length := by
    show (if (-1 : Int) < 0 then ((-1 : Int) + (((x :: r).length : Nat) : Int)).toNat else min (-1 : Int).toNat (x :: r).length) = r.length
    rw [if_pos (by decide), List.length_cons]
    omega
  rw [h1, h2, List.drop_succ_cons, List.drop_zero, List.dropLast_eq_take]
theorem inCounts (w : Wd) (S : Sto) : gInKd t_NUMBER_COUNTS false (.p (.str w.nm)) S = .ok (.p (.bool (decide (w ∈ countWds)))) S := by
  unfold gInKd
  by_cases h : w ∈ countWds
  · simp only [counts_eq, lookup_nm (fun x => D.p (.tuple [.int (cntOf x).1, .int (cntOf x).2])) w countWds h, dBl, h, decide_true, Option.isSome_some, Bool.false_eq_true, if_false]
  · have : w = .is ∨ w = .hear := by cases w <;> simp [countWds] at h ⊢
    rcases this with rfl | rfl
    · rfl
    · rfl
theorem form_k (w : Wd) (rest : List PyData) (nd : ∀ x ∈ rest, noDict2 x = true) (hl : rest.length ≤ 100000) {S : Sto} {P : D → Sto → Prop} (k : P (.p (.bool (formOf w rest))) S) : Ok (f_has_form [.p (.tuple (.str w.nm :: rest))] S) P := by
  have nd1 : ∀ x ∈ rest, noDict x = true := fun x hx => noDict_of2 (nd x hx)
  unfold f_has_form
  walk_at "sv"
  rw [isi_tt, ok_ok]
  walk_at "sv"
  rw [if_neg (by simp; omega)]
  rw [isi_ss, ok_ok]
  walk_at "sv"
  cases w with
  | is =>
    walk_at "svw"
    match rest, nd1, k with
    | [], _, k => exact k
    | [x], nd1, k =>
      rw [if_pos (by rfl)]
      simp only [ix_t1, ok_ok]
      walk_at "sv"
      rw [isInt_ok x 0 1000 _ (noDict_ne (nd1 x (by simp))), ok_ok]
      walk_at "sv"
      exact k
    | _ :: _ :: _, _, k =>
      rw [if_neg (by simp; omega)]
      exact k
  | hear =>
    walk_at "svw"
    match rest, nd1, k with
    | [], _, k => exact k
    | [x], nd1, k =>
      rw [if_pos (by rfl)]
      simp only [ix_t1, ok_ok]
      walk_at "sv"
      rw [isInt_ok x 0 1000 _ (noDict_ne (nd1 x (by simp))), ok_ok]
      walk_at "sv"
      exact k
    | _ :: _ :: _, _, k =>
      rw [if_neg (by simp; omega)]
      exact k
  | least =>
    walk_at "svw"
    match rest, nd, nd1, k with
    | [], _, _, k => exact k
    | [x], nd, nd1, k =>
      rw [if_pos (by rfl)]
      simp only [ix_t1, ok_ok]
      walk_at "sv"
      rw [isi_t (nd1 x (by simp)), ok_ok]
      walk_at "sv"
      cases x with
      | tuple xs =>
        rw [if_pos (by rfl)]
        walk_at "sv"
        have e : formOf .least [.tuple xs] = decide ((0 : Int) < xs.length) := by
          cases xs with
          | nil => rfl
          | cons y r => simp [formOf]
        rw [e] at k
        exact k
      | _ => exact k
    | x :: y :: r, _, _, k =>
      rw [if_neg (by simp; omega)]
      rw [show formOf .least (x :: y :: r) = false by cases x <;> rfl] at k
      exact k
  | most =>
    walk_at "svw"
    match rest, nd, nd1, k with
    | [], _, _, k => exact k
    | [x], nd, nd1, k =>
      rw [if_pos (by rfl)]
      simp only [ix_t1, ok_ok]
      walk_at "sv"
      rw [isi_t (nd1 x (by simp)), ok_ok]
      walk_at "sv"
      cases x with
      | tuple xs =>
        rw [if_pos (by rfl)]
        walk_at "sv"
        have e : formOf .most [.tuple xs] = decide ((0 : Int) < xs.length) := by
          cases xs with
          | nil => rfl
          | cons y r => simp [formOf]
        rw [e] at k
        exact k
      | _ => exact k
    | x :: y :: r, _, _, k =>
      rw [if_neg (by simp; omega)]
      rw [show formOf .most (x :: y :: r) = false by cases x <;> rfl] at k
      exact k
  | add =>
    walk_at "svw"
    match rest, nd, nd1, k with
    | [], _, _, k => exact k
    | [x], nd, nd1, k =>
      rw [if_pos (by rfl)]
      simp only [ix_t1, ok_ok]
      walk_at "sv"
      rw [isi_t (nd1 x (by simp)), ok_ok]
      walk_at "sv"
      cases x with
      | tuple xs =>
        rw [if_pos (by rfl)]
        walk_at "sv"
        have e : formOf .add [.tuple xs] = decide ((0 : Int) < xs.length) := by
          cases xs with
          | nil => rfl
          | cons y r => simp [formOf]
        rw [e] at k
        exact k
      | _ => exact k
    | x :: y :: r, _, _, k =>
      rw [if_neg (by simp; omega)]
      rw [show formOf .add (x :: y :: r) = false by cases x <;> rfl] at k
      exact k
  | middle =>
    walk_at "svw"
    have e : formOf .middle rest = (((rest.length + 1 : Nat) : Int) == 4) := by
      show (rest.length == 3) = _
      rw [Bool.eq_iff_iff]
      simp
      omega
    rw [e] at k
    exact k
  | row =>
    walk_at "svw"
    match rest, nd, nd1, k with
    | [], _, _, k => exact k
    | [x], _, _, k =>
      rw [if_neg (by simp)]
      rw [show formOf .row [x] = false by cases x <;> rfl] at k
      exact k
    | [x, y], nd, nd1, k =>
      rw [if_pos (by rfl)]
      simp only [ix_t1, ok_ok]
      walk_at "sv"
      rw [isi_t (nd1 x (by simp)), ok_ok]
      walk_at "sv"
      cases x with
      | tuple xs =>
        have h2 := nd (.tuple xs) (by simp)
        simp only [noDict2, Bool.and_eq_true, List.all_eq_true, decide_eq_true_eq] at h2
        rw [if_pos (by rfl)]
        refine fit_k (w := .row) (by decide) h2.1 h2.2 ?_
        walk_at "sv"
        exact k
      | _ => exact k
    | x :: y :: z :: r, _, _, k =>
      rw [if_neg (by simp; omega)]
      rw [show formOf .row (x :: y :: z :: r) = false by cases x <;> rfl] at k
      exact k
  | times =>
    walk_at "svw"
    rw [inCounts, ok_ok]
    walk_at "svw"
    rw [if_pos (by decide), sl_t (cut_1m _ _), ok_ok]
    walk_at "svw"
    refine fit_k (w := .times) (by decide) (fun x hx => nd1 x (List.dropLast_subset _ hx)) (by simp; omega) ?_
    walk_at "svw"
    exact k
  | part =>
    walk_at "svw"
    rw [inCounts, ok_ok]
    walk_at "svw"
    rw [if_pos (by decide), sl_t (cut_1m _ _), ok_ok]
    walk_at "svw"
    refine fit_k (w := .part) (by decide) (fun x hx => nd1 x (List.dropLast_subset _ hx)) (by simp; omega) ?_
    walk_at "svw"
    exact k
  | clip =>
    walk_at "svw"
    rw [inCounts, ok_ok]
    walk_at "svw"
    rw [if_pos (by decide), sl_t (cut_1m _ _), ok_ok]
    walk_at "svw"
    refine fit_k (w := .clip) (by decide) (fun x hx => nd1 x (List.dropLast_subset _ hx)) (by simp; omega) ?_
    walk_at "svw"
    exact k
  | frm =>
    walk_at "svw"
    rw [inCounts, ok_ok]
    walk_at "svw"
    rw [if_pos (by decide), sl_t (cut_1m _ _), ok_ok]
    walk_at "svw"
    refine fit_k (w := .frm) (by decide) (fun x hx => nd1 x (List.dropLast_subset _ hx)) (by simp; omega) ?_
    walk_at "svw"
    exact k
  | bar =>
    walk_at "svw"
    rw [inCounts, ok_ok]
    walk_at "svw"
    rw [if_pos (by decide), sl_t (cut_1m _ _), ok_ok]
    walk_at "svw"
    refine fit_k (w := .bar) (by decide) (fun x hx => nd1 x (List.dropLast_subset _ hx)) (by simp; omega) ?_
    walk_at "svw"
    exact k

end SM
set_option linter.all false
set_option maxRecDepth 100000
set_option maxHeartbeats 4000000
namespace SM
open PySem PySem.Spec PyProof.Rows L2 NB RZ SV PD
local macro_rules | `(tactic| walk_at "sv") => `(tactic| simp only [fC_ok, kOp2_, kOp1_, fOp_ok, kUn_, fUn_ok, fNilA_ok, kCons2_, kCons1_, fConsA_ok, kTup_, fTup_ok, kLst_, fLst_ok, kTru_, fTru_ok, kB_, fB_ok, kNotT_, fNotT_ok, kAndT_, fAndT_ok, kOrT_, fOrT_ok, kIf_, fIf_ok, kAndV_, kOrV_, fAndV_ok, fOrV_ok, kCallB_, fCallB_ok, kCall_, fCall_ok, kCallK_, fCallK_ok, kRev_, fRev_ok, fNoO_ok, fSomeO_ok, kSl3_, kSl2_, kSl1_, fSl_ok, kCh3_, kCh2_, kCh1_, kCh0_, fChain_ok, kMt2_, kMt1_, fMt_ok, fSkip_ok, fSeq_ok, kSet_, fSet_ok, kDrop_, fDrop_ok, kRet_, fRet_ok, fRetN_ok, kIfS_, fIfS_ok, fBrk_ok, fCt_ok, kAug2_, kAug1_, kAsg2_, kAsg1_, fAsg_ok, fPar_ok, gNm_ok, gN0_ok, kC0_, gC0_ok, kSb3_, kSb2_, kSb1_, gSb_ok, kFor_, fFor_ok, kWk_, fWk_ok, kRng1_, fRng1_ok, kRng2_, fRng2_ok, kEnum_, fEnum_ok, kZip_, fZip_ok, kLc2_, kLc1_, fLc_ok, fYes_ok, kQu2_, kQu1_, fQu_ok, leave_same, defK_k, kFinK_ret, kFinK_nx, fVar0_ok, fVarS_ok, defF_ok, kSeq_nx, kSeq_ret, kSeq_brk, kSeq_ct, kSomeO_int, kPar_two, kFin_ret, kFin_nx, add_ii, sub_ii, lt_ii, le_ii, gt_ii, ge_ii, eq_ii, ne_ii, iadd_ii, gBool_b, gTru_b, gNot_b, gNeg_i, gInt_i, gAbs_i, min_ii, max_ii, len_l, len_t, tup_t, tup_l, lst_l, lst_t, newL_p, ix_t0, ix_t1, ix_t2, ix_t3, ix_l0, wk_t, wk_l, vT_t, mkT0, mkT1, mkT2, mkT3, mkT4, mkT5, newL0, newL1, newL2, newL3, sz0, sz1, sz2, sz3, sz4, sz5, tru_t, tru_l, rev_t, rev_l, ok_ok, startE, dBl, dInt, List.map_cons, List.map_nil, List.length_cons, List.length_nil, List.replicate_succ, List.replicate_zero, Nat.reduceAdd, Nat.reduceSub, Nat.reduceLeDiff, List.cons_append, List.nil_append, List.set_cons_zero, List.set_cons_succ, wipeE, Bool.not_true, Bool.not_false, ↓reduceIte, Bool.false_eq_true, decide_true, decide_false, Bool.and_true, Bool.and_false, Bool.true_and, Bool.false_and])
local macro_rules | `(tactic| walk_at "svw") => `(tactic| simp only [eq_is, eq_hear, eq_least, eq_most, eq_add, eq_middle, eq_times, eq_part, eq_clip, eq_from, eq_bar, eq_row, in_leafL, in_leafT, in_listL, in_listT, in_four, in_two, newL4, rlWd, unWd, lkWd, rlRest, Un.d, ix_t1, ix_t2, ix_t3, List.mem_cons, List.not_mem_nil, reduceCtorEq, or_false, false_or, or_self, or_true, true_or, decide_false, decide_true, fC_ok, kOp2_, kOp1_, fOp_ok, kUn_, fUn_ok, fNilA_ok, kCons2_, kCons1_, fConsA_ok, kTup_, fTup_ok, kLst_, fLst_ok, kTru_, fTru_ok, kB_, fB_ok, kNotT_, fNotT_ok, kAndT_, fAndT_ok, kOrT_, fOrT_ok, kIf_, fIf_ok, kAndV_, kOrV_, fAndV_ok, fOrV_ok, kCallB_, fCallB_ok, kCall_, fCall_ok, kCallK_, fCallK_ok, fNoO_ok, fSomeO_ok, kSl3_, kSl2_, kSl1_, fSl_ok, kCh3_, kCh2_, kCh1_, kCh0_, fChain_ok, kMt2_, kMt1_, fMt_ok, fSkip_ok, fSeq_ok, kSet_, fSet_ok, kDrop_, fDrop_ok, kRet_, fRet_ok, fRetN_ok, kIfS_, fIfS_ok, fBrk_ok, fCt_ok, kAug2_, kAug1_, kAsg2_, kAsg1_, fAsg_ok, fPar_ok, gNm_ok, gN0_ok, kC0_, gC0_ok, kSb3_, kSb2_, kSb1_, gSb_ok, kFor_, fFor_ok, kWk_, fWk_ok, kRng1_, fRng1_ok, kRng2_, fRng2_ok, kEnum_, fEnum_ok, kZip_, fZip_ok, kLc2_, kLc1_, fLc_ok, fYes_ok, leave_same, defK_k, kFinK_ret, kFinK_nx, fVar0_ok, fVarS_ok, defF_ok, kSeq_nx, kSeq_ret, kSeq_brk, kSeq_ct, kSomeO_int, kPar_two, kFin_ret, kFin_nx, add_ii, sub_ii, lt_ii, le_ii, gt_ii, ge_ii, eq_ii, ne_ii, iadd_ii, gBool_b, gTru_b, gNot_b, gNeg_i, gInt_i, gAbs_i, min_ii, max_ii, len_l, len_t, tup_t, tup_l, lst_l, lst_t, newL_p, ix_t0, ix_t1, ix_t2, ix_t3, ix_l0, wk_t, wk_l, vT_t, mkT0, mkT1, mkT2, mkT3, mkT4, mkT5, newL0, newL1, newL2, newL3, sz0, sz1, sz2, sz3, sz4, sz5, ok_ok, startE, dBl, dInt, List.map_cons, List.map_nil, List.length_cons, List.length_nil, List.replicate_succ, List.replicate_zero, Nat.reduceAdd, Nat.reduceSub, Nat.reduceLeDiff, List.cons_append, List.nil_append, List.set_cons_zero, List.set_cons_succ, wipeE, Bool.not_true, Bool.not_false, ↓reduceIte, Bool.false_eq_true, decide_true, decide_false, Bool.and_true, Bool.and_false, Bool.true_and, Bool.false_and])
def allWds : List Wd := [.is, .hear, .least, .most, .add, .middle, .times, .part, .clip, .frm, .bar, .row]
def wdOf (s : Str) : Option Wd := allWds.find? fun w => w.nm == s
theorem wdOf_some {s : Str} {w : Wd} (h : wdOf s = some w) : s = w.nm := by
  have := List.find?_some h
  exact (beq_iff_eq.mp this).symm
def known (s : Str) : Bool := (wdOf s).isSome || s == "odd"
/-! what may be asked -/
def headFine : List PyData → Bool
  | .str s :: _ => known s
  | _ => true
mutual
def fineD : PyData → Bool
  | .tuple xs => headFine xs && decide (xs.length ≤ 100000) && fineDs xs
  | .dict _ => false
  | _ => true
def fineDs : List PyData → Bool
  | [] => true
  | x :: r => fineD x && fineDs r
end
theorem fineDs_all : ∀ {xs : List PyData}, fineDs xs = true → ∀ x ∈ xs, fineD x = true
  | [], _, x, hx => by cases hx
  | y :: r, h, x, hx => by
    simp only [fineDs, Bool.and_eq_true] at h
    rcases List.mem_cons.mp hx with q | q
    · rw [q]; exact h.1
    · exact fineDs_all h.2 x q
theorem fine_nd {x : PyData} (h : fineD x = true) : noDict x = true := by
  cases x <;> first | rfl | (simp [fineD] at h)
theorem fine_nd2 {x : PyData} (h : fineD x = true) : noDict2 x = true := by
  cases x with
  | tuple xs =>
    simp only [fineD, Bool.and_eq_true] at h
    simp only [noDict2, Bool.and_eq_true, List.all_eq_true]
    exact ⟨fun x hx => fine_nd (fineDs_all h.2 x hx), h.1.2⟩
  | dict kvs => simp [fineD] at h
  | _ => rfl
def formP (v : PyData) : Bool := match v with
  | .tuple (.str s :: rest) => match wdOf s with
    | some w => formOf w rest
    | none => false
  | _ => false
theorem eq_odd (w : Wd) (S : Sto) : gEq (.p (.str "odd")) (.p (.str w.nm)) S = .ok (.p (.bool false)) S := by
  have h1 : SeqAt.shaped (.str "odd") = true := by decide +kernel
  have h2 : PyData.eqv (.str "odd") (.str w.nm) = false := by cases w <;> decide +kernel
  unfold gEq asP
  simp only [h1, nm_shaped, Bool.and_self, if_true, h2, dBl]
def isStrP : PyData → Bool
  | .str _ => true
  | _ => false
theorem isi_s {x : PyData} {S : Sto} (h : noDict x = true) : gIsi .str (.p x) S = .ok (.p (.bool (isStrP x))) S := by
  cases x <;> first | rfl | cases h
theorem odd_form {rest : List PyData} {S : Sto} {P : D → Sto → Prop} (k : P (.p (.bool false)) S) : Ok (f_has_form [.p (.tuple (.str "odd" :: rest))] S) P := by
  unfold f_has_form
  walk_at "sv"
  rw [isi_tt, ok_ok]
  walk_at "sv"
  rw [if_neg (by simp; omega)]
  rw [isi_ss, ok_ok]
  walk_at "sv"
  rw [in_tt rfl rfl, ok_ok]
  walk_at "sv"
  rw [if_neg (by decide +kernel), in_tt rfl rfl, ok_ok]
  walk_at "sv"
  rw [if_neg (by decide +kernel)]
  rw [show gEq (.p (.str "odd")) (.p (.str "middle")) S = .ok (.p (.bool false)) S from eq_odd .middle S, ok_ok]
  walk_at "sv"
  rw [show gEq (.p (.str "odd")) (.p (.str "row")) S = .ok (.p (.bool false)) S from eq_odd .row S, ok_ok]
  walk_at "sv"
  rw [show gInKd t_NUMBER_COUNTS false (.p (.str "odd")) S = .ok (.p (.bool false)) S by
    have h : (t_NUMBER_COUNTS.lookup (Str.ofString "odd")).isSome = false := by decide +kernel
    unfold gInKd; simp only [h, dBl, Bool.false_eq_true, if_false], ok_ok]
  walk_at "sv"
  exact k
theorem gen_form (v : PyData) (h : fineD v = true) {S : Sto} {P : D → Sto → Prop} (k : P (.p (.bool (formP v))) S) : Ok (f_has_form [.p v] S) P := by
  have nt : ∀ {v : PyData}, noDict v = true → isTup v = false → ∀ {P : D → Sto → Prop}, P (.p (.bool false)) S → Ok (f_has_form [.p v] S) P := fun {v} h1 h2 {P} k => by
    unfold f_has_form
    walk_at "sv"
    rw [isi_t h1, ok_ok, h2]
    walk_at "sv"
    exact k
  cases v with
  | tuple xs =>
    cases xs with
    | nil =>
      unfold f_has_form
      walk_at "sv"
      rw [isi_tt, ok_ok]
      walk_at "sv"
      exact k
    | cons x r =>
      simp only [fineD, fineDs, Bool.and_eq_true, decide_eq_true_eq] at h
      obtain ⟨⟨h1, h2⟩, h3, h4⟩ := h
      have ns : isStrP x = false → ∀ {P : D → Sto → Prop}, P (.p (.bool false)) S → Ok (f_has_form [.p (.tuple (x :: r))] S) P := fun hs {P} k => by
        unfold f_has_form
        walk_at "sv"
        rw [isi_tt, ok_ok]
        walk_at "sv"
        rw [if_neg (by simp; omega)]
        rw [isi_s (fine_nd h3), ok_ok, hs]
        walk_at "sv"
        exact k
      cases x with
      | str s =>
        simp only [headFine, known, Bool.or_eq_true] at h1
        cases e : wdOf s with
        | some w =>
          have es := wdOf_some e
          subst es
          refine form_k w r (fun x hx => fine_nd2 (fineDs_all h4 x hx)) (by simp at h2; omega) ?_
          simp only [formP, e] at k
          exact k
        | none =>
          rw [e] at h1
          have es : s = "odd" := by simpa using h1
          subst es
          refine odd_form ?_
          simp only [formP, e] at k
          exact k
      | dict kvs => simp [fineD] at h3
      | _ => exact ns rfl k
  | dict kvs => simp [fineD] at h
  | _ => exact nt rfl rfl k

/-! ### the parts of any rule -/
def innerP (w : Wd) (rest : List PyData) : List PyData := match w with
  | .is => []
  | .hear => []
  | .least => (match rest with | [.tuple xs] => xs | _ => [])
  | .most => (match rest with | [.tuple xs] => xs | _ => [])
  | .add => (match rest with | [.tuple xs] => xs | _ => [])
  | .middle => rest
  | _ => rest.drop (rest.length - 1)
theorem cut_lastN {α : Type} (x : α) (r : List α) (h : r ≠ []) : SV.cutD (x :: r) (some (-1)) none = r.drop (r.length - 1) := by
  rcases List.eq_nil_or_concat r with e | ⟨pre, z, e⟩
  · exact absurd e h
  · rw [List.concat_eq_append] at e
    subst e
    rw [← List.cons_append, cut_last]
    simp
theorem innerW_k {w : Wd} {rest : List PyData} (hf : formOf w rest = true) {S : Sto} {P : D → Sto → Prop} (k : P (.p (.tuple (innerP w rest))) S) : Ok (f_inner_rules [.p (.tuple (.str w.nm :: rest))] S) P := by
  unfold f_inner_rules
  have ne : (cntOf w).1 ≠ 0 → formOf w rest = numsFit w rest.dropLast → rest ≠ [] := fun h1 h2 e => by
    subst e
    rw [h2] at hf
    simp only [numsFit, Bool.and_eq_true, decide_eq_true_eq] at hf
    have := hf.1.1
    simp at this
    cases w <;> simp [cntOf] at h1 this
  cases w with
  | is => walk_at "svw"; exact k
  | hear => walk_at "svw"; exact k
  | least =>
    match rest, hf, k with
    | [.tuple xs], _, k => walk_at "svw"; exact k
    | [], hf, _ => cases hf
    | [.none], hf, _ => cases hf
    | [.bool _], hf, _ => cases hf
    | [.int _], hf, _ => cases hf
    | [.str _], hf, _ => cases hf
    | [.list _], hf, _ => cases hf
    | [.dict _], hf, _ => cases hf
    | x :: y :: r, hf, _ => cases x <;> cases hf
  | most =>
    match rest, hf, k with
    | [.tuple xs], _, k => walk_at "svw"; exact k
    | [], hf, _ => cases hf
    | [.none], hf, _ => cases hf
    | [.bool _], hf, _ => cases hf
    | [.int _], hf, _ => cases hf
    | [.str _], hf, _ => cases hf
    | [.list _], hf, _ => cases hf
    | [.dict _], hf, _ => cases hf
    | x :: y :: r, hf, _ => cases x <;> cases hf
  | add =>
    match rest, hf, k with
    | [.tuple xs], _, k => walk_at "svw"; exact k
    | [], hf, _ => cases hf
    | [.none], hf, _ => cases hf
    | [.bool _], hf, _ => cases hf
    | [.int _], hf, _ => cases hf
    | [.str _], hf, _ => cases hf
    | [.list _], hf, _ => cases hf
    | [.dict _], hf, _ => cases hf
    | x :: y :: r, hf, _ => cases x <;> cases hf
  | middle =>
    walk_at "svw"
    rw [sl_t (cut_from1 _ _), ok_ok]
    walk_at "svw"
    exact k
  | row =>
    have h0 : rest ≠ [] := fun e => by subst e; cases hf
    walk_at "svw"
    rw [sl_t (cut_lastN _ _ h0), ok_ok]
    walk_at "svw"
    exact k
  | times =>
    walk_at "svw"
    rw [sl_t (cut_lastN _ _ (ne (by decide) rfl)), ok_ok]
    walk_at "svw"
    exact k
  | part =>
    walk_at "svw"
    rw [sl_t (cut_lastN _ _ (ne (by decide) rfl)), ok_ok]
    walk_at "svw"
    exact k
  | clip =>
    walk_at "svw"
    rw [sl_t (cut_lastN _ _ (ne (by decide) rfl)), ok_ok]
    walk_at "svw"
    exact k
  | frm =>
    walk_at "svw"
    rw [sl_t (cut_lastN _ _ (ne (by decide) rfl)), ok_ok]
    walk_at "svw"
    exact k
  | bar =>
    walk_at "svw"
    rw [sl_t (cut_lastN _ _ (ne (by decide) rfl)), ok_ok]
    walk_at "svw"
    exact k

/-! ### is_rule -/
def irun : Nat → List (PyData × Nat) → Nat → Nat → Bool
  | 0, _, _, _ => false
  | _ + 1, [], _, heard => decide (heard ≤ 12)
  | n + 1, (part, lv) :: st, seen, heard => if decide (8 < lv) || (decide (60 < seen + 1 + st.length) || !formP part) then false else match part with
    | .tuple (.str s :: rest) => match wdOf s with
      | some w => irun n (((innerP w rest).map fun x => (x, lv + 1)).reverse ++ st) (seen + 1) (if w = .hear then heard + 1 else heard)
      | none => false
    | _ => false
def isRuleP (v : PyData) : Bool := irun 62 [(v, 1)] 0 0
def encW (st : List (PyData × Nat)) : List D := st.map fun x => .p (.tuple [x.1, .int x.2])
theorem fine_inner {w : Wd} {rest : List PyData} (h : fineDs rest = true) : ∀ x ∈ innerP w rest, fineD x = true := by
  have all := fineDs_all h
  have one : ∀ x ∈ (match rest with | [.tuple xs] => xs | _ => ([] : List PyData)), fineD x = true := by
    intro x hx
    split at hx
    · rename_i xs
      have := all (.tuple xs) (by simp)
      simp only [fineD, Bool.and_eq_true] at this
      exact fineDs_all this.2 x hx
    · cases hx
  intro x hx
  cases w <;> first
    | (exact one x hx)
    | (exact all x hx)
    | (exact all x (List.mem_of_mem_drop hx))
    | (cases hx)
theorem isRule_ok (v : PyData) (hv : fineD v = true) (S : Sto) : f_is_rule [.p v] S = .ok (.p (.bool (isRuleP v))) S := by
  refine Ok.eq ?_
  unfold f_is_rule
  walk_at "sv"
  rw [newM, ok_ok]
  walk_at "sv"
  have fin : ∀ {b : Bool} {L : List Ob}, b = isRuleP v → L ≠ [] → Ok (leave S (.p (.bool b)) (S ++ L)) fun y S' => y = .p (.bool (isRuleP v)) ∧ S' = S := fun {b L} e hL => by
    rw [leave_drop hL (fre_p _ _ _ _), ok_ok, e]
    exact ⟨rfl, rfl⟩
  refine while_ok (m := 61) (I := fun m E S1 => ∃ (st : List (PyData × Nat)) (seen heard : Nat) (o4 o5 o6 : Option D), m + seen = 61 ∧ E = [some (.p v), some (.ref S.length), some (.p (.int seen)), some (.p (.int heard)), o4, o5, o6] ∧ S1 = S ++ [.lst (encW st.reverse)] ∧
    (∀ x ∈ st, fineD x.1 = true) ∧ irun (m + 1) st seen heard = isRuleP v) (by decide) ⟨[(v, 1)], 0, 0, none, none, none, rfl, rfl, rfl, by simpa using hv, rfl⟩ ?_
  rintro m E S1 ⟨st, seen, heard, o4, o5, o6, hm, rfl, rfl, hf, hrun⟩
  walk_at "sv"
  cases st with
  | nil =>
    rw [show gTru (.ref S.length) (S ++ [.lst (encW [].reverse)]) = .ok false (S ++ [.lst (encW [].reverse)]) by
      unfold gTru; simp only [(ref_view app_get).1]; rfl, ok_ok]
    walk_at "sv"
    simp only [irun] at hrun
    exact fin (by rw [← hrun]; simp only [decide_eq_decide]; omega) (by simp)
  | cons top st =>
    obtain ⟨part, lv⟩ := top
    have hp : fineD part = true := hf (part, lv) (by simp)
    have er : encW ((part, lv) :: st).reverse = encW st.reverse ++ [.p (.tuple [part, .int lv])] := by simp [encW]
    rw [er]
    rw [show gTru (.ref S.length) (S ++ [.lst (encW st.reverse ++ [.p (.tuple [part, .int lv])])]) = .ok true (S ++ [.lst (encW st.reverse ++ [.p (.tuple [part, .int lv])])]) by
      unfold gTru; simp only [(ref_view app_get).1]; simp, ok_ok]
    walk_at "sv"
    rw [if_pos (ref_view app_get).2.2.1, pop_ref app_get, ok_ok, app_set]
    walk_at "sv"
    rw [gTp_ok vT_t (by rfl)]
    walk_at "sv"
    rw [fAug_ok (by rfl)]
    walk_at "sv"
    have hrun' := hrun
    rw [show m + 1 = (m) + 1 from rfl] at hrun'
    unfold irun at hrun'
    have stop : irun (m + 1) ((part, lv) :: st) seen heard = false → False = isRuleP v → True := fun _ _ => trivial
    have hlen : (encW st.reverse).length = st.length := by simp [encW]
    by_cases c1 : 8 < lv
    · rw [if_pos (by simp; omega)]
      rw [show (decide (8 < lv) || (decide (60 < seen + 1 + st.length) || !formP part)) = true by simp [c1], if_pos rfl] at hrun'
      exact fin hrun' (by simp)
    rw [if_neg (by simp; omega)]
    rw [show gLen [.ref S.length] (S ++ [.lst (encW st.reverse)]) = .ok (.p (.int st.length)) (S ++ [.lst (encW st.reverse)]) by
      unfold gLen; simp only [(ref_view app_get).1, hlen], ok_ok]
    walk_at "sv"
    by_cases c2 : 60 < seen + 1 + st.length
    · rw [if_pos (by simp; omega)]
      rw [show (decide (8 < lv) || (decide (60 < seen + 1 + st.length) || !formP part)) = true by simp [c2], if_pos rfl] at hrun'
      exact fin hrun' (by simp)
    rw [if_neg (by simp; omega)]
    refine gen_form part hp ?_
    walk_at "sv"
    cases hfp : formP part with
    | false =>
      rw [if_pos (by decide)]
      rw [show (decide (8 < lv) || (decide (60 < seen + 1 + st.length) || !formP part)) = true by simp [hfp], if_pos rfl] at hrun'
      exact fin hrun' (by simp)
    | true =>
      rw [if_neg (by decide)]
      rw [show (decide (8 < lv) || (decide (60 < seen + 1 + st.length) || !formP part)) = false by simp [hfp, c1, c2], if_neg (by decide)] at hrun'
      -- a form: its word and the rest
      obtain ⟨w, rest, rfl, hw, hfm⟩ : ∃ w rest, part = .tuple (.str w.nm :: rest) ∧ wdOf w.nm = some w ∧ formOf w rest = true := by
        unfold formP at hfp
        split at hfp
        · rename_i s rest
          split at hfp
          · rename_i w e
            have es := wdOf_some e
            subst es
            exact ⟨w, rest, rfl, e, hfp⟩
          · cases hfp
        · cases hfp
      simp only [hw] at hrun'
      simp only [ix_t0, ok_ok, kOp1_, kOp2_, fC_ok]
      rw [eq_hear, ok_ok]
      walk_at "sv"
      have hrest : fineDs rest = true := by
        simp only [fineD, fineDs, Bool.and_eq_true] at hp
        exact hp.2.2
      have hw8 : rest.length ≤ 100000 := by
        simp only [fineD, fineDs, Bool.and_eq_true, decide_eq_true_eq, List.length_cons] at hp
        omega
      have hil : (innerP w rest).length ≤ 100000 := by
        have one : (match rest with | [.tuple xs] => xs | _ => ([] : List PyData)).length ≤ 100000 := by
          split
          · simp only [fineDs, fineD, Bool.and_eq_true, decide_eq_true_eq] at hrest
            exact hrest.1.1.2
          · simp
        cases w <;> first
          | exact one
          | exact hw8
          | (simp only [innerP, List.length_drop]; omega)
          | (simp [innerP])
      have fi := fine_inner (w := w) hrest
      have go : ∀ (hd : Nat) (e2 e3 : Int) (o6 : Option D) (Q : Fl → Sto → Prop), e2 = ((seen + 1 : Nat) : Int) → e3 = (hd : Int) → irun m (((innerP w rest).map fun x => (x, lv + 1)).reverse ++ st) (seen + 1) hd = isRuleP v →
          (∀ (st' : List (PyData × Nat)) (o4 o5 o6 : Option D), (∀ x ∈ st', fineD x.1 = true) → irun m st' (seen + 1) hd = isRuleP v → Q (.nx [some (.p v), some (.ref S.length), some (.p (.int ((seen + 1 : Nat) : Int))), some (.p (.int (hd : Int))), o4, o5, o6]) (S ++ [.lst (encW st'.reverse)])) →
          Ok (forN (.fix ((innerP w rest).map .p)) (gNm 6) (fDrop (fMt gAppend (fVar 1) (fConsA (fTup (fConsA (fVar 6) (fConsA (fOp gAdd (fVar 5) (fC (D.p (PyData.int 1)))) fNilA))) fNilA))) (Wk.fix ((innerP w rest).map .p)).fuel 0 [some (.p v), some (.ref S.length), some (.p (.int e2)), some (.p (.int e3)), some (.p (.tuple (.str w.nm :: rest))), some (.p (.int lv)), o6] (S ++ [.lst (encW st.reverse)])) Q := by
        intro hd e2 e3 o6 Q h2 h3 hr k
        subst h2 h3
        refine for_ok (I := fun i E S1 => ∃ o6, E = [some (.p v), some (.ref S.length), some (.p (.int ((seen + 1 : Nat) : Int))), some (.p (.int (hd : Int))), some (.p (.tuple (.str w.nm :: rest))), some (.p (.int lv)), o6] ∧ S1 = S ++ [.lst (encW ((((innerP w rest).take i).map fun x => (x, lv + 1)).reverse ++ st).reverse)]) ⟨o6, rfl, by simp⟩ ?_ ?_
        · rintro i dd E S1 hi ⟨o, rfl, rfl⟩
          rw [List.getElem?_map] at hi
          obtain ⟨x, hx, rfl⟩ := Option.map_eq_some_iff.mp hi
          walk_at "sv"
          rw [if_pos (ref_view app_get).2.2.1]
          rw [app_ref app_get (by simp [encW]; omega), ok_ok]
          walk_at "sv"
          refine ⟨_, rfl, ?_⟩
          rw [app_set, List.take_add_one, hx]
          simp [encW]
        · rintro E S1 ⟨o, rfl, rfl⟩
          rw [List.length_map, List.take_length]
          exact k _ _ _ _ (by
            intro x hx
            rcases List.mem_append.mp hx with q | q
            · obtain ⟨y, hy, rfl⟩ := List.mem_map.mp (List.mem_reverse.mp q)
              exact fi y hy
            · exact hf x (List.mem_cons_of_mem _ q)) hr
      have h0 : irun 0 [] 0 0 = false := rfl
      have hm1 : ∃ m1, m = m1 + 1 := by
        cases m with
        | zero => exfalso; omega
        | succ n => exact ⟨n, rfl⟩
      obtain ⟨m1, rfl⟩ := hm1
      refine bi (fun c => ?_) (fun c => ?_)
      · rw [if_pos (by simpa using c)] at hrun'
        rw [fAug_ok (by rfl)]
        walk_at "sv"
        refine innerW_k hfm ?_
        walk_at "sv"
        refine go (heard + 1) _ _ _ _ rfl rfl hrun' ?_
        intro st' o4 o5 o6 h1 h2
        exact ⟨m1, by omega, st', seen + 1, heard + 1, o4, o5, o6, by omega, rfl, rfl, h1, h2⟩
      · rw [if_neg (by simpa using c)] at hrun'
        refine innerW_k hfm ?_
        walk_at "sv"
        refine go heard _ _ _ _ rfl rfl hrun' ?_
        intro st' o4 o5 o6 h1 h2
        exact ⟨m1, by omega, st', seen + 1, heard, o4, o5, o6, by omega, rfl, rfl, h1, h2⟩

end SM
set_option linter.all false
set_option maxRecDepth 100000
set_option maxHeartbeats 4000000
namespace SM
open PySem PySem.Spec PyProof.Rows L2 NB RZ SV PD
local macro_rules | `(tactic| walk_at "sv") => `(tactic| simp only [fC_ok, kOp2_, kOp1_, fOp_ok, kUn_, fUn_ok, fNilA_ok, kCons2_, kCons1_, fConsA_ok, kTup_, fTup_ok, kLst_, fLst_ok, kTru_, fTru_ok, kB_, fB_ok, kNotT_, fNotT_ok, kAndT_, fAndT_ok, kOrT_, fOrT_ok, kIf_, fIf_ok, kAndV_, kOrV_, fAndV_ok, fOrV_ok, kCallB_, fCallB_ok, kCall_, fCall_ok, kCallK_, fCallK_ok, kRev_, fRev_ok, fNoO_ok, fSomeO_ok, kSl3_, kSl2_, kSl1_, fSl_ok, kCh3_, kCh2_, kCh1_, kCh0_, fChain_ok, kMt2_, kMt1_, fMt_ok, fSkip_ok, fSeq_ok, kSet_, fSet_ok, kDrop_, fDrop_ok, kRet_, fRet_ok, fRetN_ok, kIfS_, fIfS_ok, fBrk_ok, fCt_ok, kAug2_, kAug1_, kAsg2_, kAsg1_, fAsg_ok, fPar_ok, gNm_ok, gN0_ok, kC0_, gC0_ok, kSb3_, kSb2_, kSb1_, gSb_ok, kFor_, fFor_ok, kWk_, fWk_ok, kRng1_, fRng1_ok, kRng2_, fRng2_ok, kEnum_, fEnum_ok, kZip_, fZip_ok, kLc2_, kLc1_, fLc_ok, fYes_ok, kQu2_, kQu1_, fQu_ok, leave_same, defK_k, kFinK_ret, kFinK_nx, fVar0_ok, fVarS_ok, defF_ok, kSeq_nx, kSeq_ret, kSeq_brk, kSeq_ct, kSomeO_int, kPar_two, kFin_ret, kFin_nx, add_ii, sub_ii, lt_ii, le_ii, gt_ii, ge_ii, eq_ii, ne_ii, iadd_ii, gBool_b, gTru_b, gNot_b, gNeg_i, gInt_i, gAbs_i, min_ii, max_ii, len_l, len_t, tup_t, tup_l, lst_l, lst_t, newL_p, ix_t0, ix_t1, ix_t2, ix_t3, ix_l0, wk_t, wk_l, vT_t, mkT0, mkT1, mkT2, mkT3, mkT4, mkT5, newL0, newL1, newL2, newL3, sz0, sz1, sz2, sz3, sz4, sz5, tru_t, tru_l, rev_t, rev_l, ok_ok, startE, dBl, dInt, List.map_cons, List.map_nil, List.length_cons, List.length_nil, List.replicate_succ, List.replicate_zero, Nat.reduceAdd, Nat.reduceSub, Nat.reduceLeDiff, List.cons_append, List.nil_append, List.set_cons_zero, List.set_cons_succ, wipeE, Bool.not_true, Bool.not_false, ↓reduceIte, Bool.false_eq_true, decide_true, decide_false, Bool.and_true, Bool.and_false, Bool.true_and, Bool.false_and])
/-! ### drawn rules are rules -/
mutual
def fits : Rl → Bool
  | .is w => formOf .is [.int w]
  | .hear j => formOf .hear [.int j]
  | .lst _ ps => !ps.isEmpty && fitsA ps
  | .mid a b c => fits a && (fits b && fits c)
  | .un u a => formOf (unWd u) (u.d ++ [a.toD]) && fits a
def fitsA : List Rl → Bool
  | [] => true
  | r :: rs => fits r && fitsA rs
end
theorem fitsA_all : ∀ {ps : List Rl}, fitsA ps = true → ∀ p ∈ ps, fits p = true
  | [], _, p, hp => by cases hp
  | q :: ps, h, p, hp => by
    simp only [fitsA, Bool.and_eq_true] at h
    rcases List.mem_cons.mp hp with e | e
    · rw [e]; exact h.1
    · exact fitsA_all h.2 p e
theorem fitsA_of : ∀ {ps : List Rl}, (∀ p ∈ ps, fits p = true) → fitsA ps = true
  | [], _ => rfl
  | q :: ps, h => by
    simp only [fitsA, Bool.and_eq_true]
    exact ⟨h q (by simp), fitsA_of fun p hp => h p (List.mem_cons_of_mem _ hp)⟩
theorem fits_form {r : Rl} (h : fits r = true) : formOf (rlWd r) (rlRest r) = true := by
  cases r with
  | is w => unfold fits at h; exact h
  | hear j => unfold fits at h; exact h
  | lst k ps =>
    simp only [fits, Bool.and_eq_true] at h
    have : (Rl.toDs ps).isEmpty = ps.isEmpty := by cases ps <;> rfl
    cases k <;> simp only [rlWd, lkWd, rlRest, formOf, this, h.1]
  | mid a b c => rfl
  | un u a =>
    simp only [fits, Bool.and_eq_true] at h
    exact h.1
theorem fits_parts {r p : Rl} (h : fits r = true) (hp : p ∈ r.parts) : fits p = true := by
  cases r with
  | is w => cases hp
  | hear j => cases hp
  | lst k ps =>
    simp only [fits, Bool.and_eq_true] at h
    exact fitsA_all h.2 p hp
  | mid a b c =>
    simp only [fits, Bool.and_eq_true] at h
    simp only [Rl.parts, List.mem_cons, List.not_mem_nil, or_false] at hp
    rcases hp with e | e | e <;> subst e
    · exact h.1
    · exact h.2.1
    · exact h.2.2
  | un u a =>
    simp only [fits, Bool.and_eq_true] at h
    simp only [Rl.parts, List.mem_cons, List.not_mem_nil, or_false] at hp
    subst hp
    exact h.2
theorem wdOf_nm : ∀ w : Wd, wdOf w.nm = some w := by
  intro w
  cases w <;> decide +kernel
theorem inner_parts (r : Rl) : innerP (rlWd r) (rlRest r) = Rl.toDs r.parts := by
  cases r with
  | is w => rfl
  | hear j => rfl
  | lst k ps => cases k <;> rfl
  | mid a b c => rfl
  | un u a => cases u <;> rfl
theorem hear_brs (r : Rl) : (if rlWd r = .hear then 1 else 0) + (Rl.brsA r.parts).length = r.brs.length := by
  cases r with
  | is w => rfl
  | hear j => rfl
  | lst k ps => cases k <;> simp [rlWd, lkWd, Rl.parts, Rl.brs]
  | mid a b c => simp [rlWd, Rl.parts, Rl.brs, Rl.brsA]
  | un u a => cases u <;> simp [rlWd, unWd, Rl.parts, Rl.brs, Rl.brsA]
theorem form_rl {r : Rl} (h : fits r = true) : formP r.toD = true := by
  rw [toD_eq]
  simp only [formP, wdOf_nm]
  exact fits_form h
theorem cnt_pos (r : Rl) : 1 ≤ r.cnt := by rw [Rl.cnt_parts]; omega
theorem irun_list (lv : Nat) : ∀ (ps : List Rl), (∀ p ∈ ps, ∀ st n seen heard, seen + p.cnt + st.length ≤ 60 → irun (n + p.cnt) ((p.toD, lv) :: st) seen heard = irun n st (seen + p.cnt) (heard + p.brs.length)) →
    ∀ st n seen heard, seen + Rl.cntA ps + st.length ≤ 60 → irun (n + Rl.cntA ps) (((Rl.toDs ps).map fun x => (x, lv)).reverse ++ st) seen heard = irun n st (seen + Rl.cntA ps) (heard + (Rl.brsA ps).length)
  | [], _, st, n, seen, heard, _ => by simp [Rl.toDs, Rl.cntA, Rl.brsA]
  | p :: ps, h, st, n, seen, heard, hs => by
    have c1 := cnt_pos p
    simp only [Rl.cntA] at hs
    rw [show ((Rl.toDs (p :: ps)).map fun x => (x, lv)).reverse ++ st = ((Rl.toDs ps).map fun x => (x, lv)).reverse ++ ((p.toD, lv) :: st) by simp [Rl.toDs]]
    rw [show n + Rl.cntA (p :: ps) = (n + p.cnt) + Rl.cntA ps by simp only [Rl.cntA]; omega]
    rw [irun_list lv ps (fun q hq => h q (List.mem_cons_of_mem _ hq)) _ _ _ _ (by simp only [List.length_cons]; omega)]
    rw [h p (by simp) _ _ _ _ (by omega)]
    congr 1
    · simp only [Rl.cntA]; omega
    · simp only [Rl.brsA, List.length_append]; omega
theorem irun_rl : ∀ (c : Nat) (r : Rl), r.cnt ≤ c → fits r = true → ∀ lv, lv + r.dep ≤ 8 → ∀ st n seen heard, seen + r.cnt + st.length ≤ 60 →
    irun (n + r.cnt) ((r.toD, lv) :: st) seen heard = irun n st (seen + r.cnt) (heard + r.brs.length)
  | 0, r, hc, _, _, _, _, _, _, _, _ => by have := cnt_pos r; omega
  | c + 1, r, hc, hf, lv, hl, st, n, seen, heard, hs => by
    have e := Rl.cnt_parts r
    rw [show n + r.cnt = (n + Rl.cntA r.parts) + 1 by omega]
    conv => lhs; unfold irun
    rw [show (decide (8 < lv) || (decide (60 < seen + 1 + st.length) || !formP r.toD)) = false by rw [form_rl hf]; simp; omega, if_neg (by decide)]
    rw [toD_eq]
    simp only [wdOf_nm, inner_parts]
    rw [irun_list (lv + 1) r.parts (fun p hp st n seen heard h => irun_rl c p (by have := Rl.part_cnt hp; omega) (fits_parts hf hp) (lv + 1) (by have := Rl.part_dep hp; omega) st n seen heard h) _ _ _ _ (by omega)]
    have hb := hear_brs r
    have e1 : seen + 1 + Rl.cntA r.parts = seen + r.cnt := by omega
    have e2 : (if rlWd r = .hear then heard + 1 else heard) + (Rl.brsA r.parts).length = heard + r.brs.length := by
      rw [← hb]
      split <;> omega
    rw [e1, e2]
theorem isRule_rl {r : Rl} (hf : fits r = true) (hd : r.dep ≤ 7) (hc : r.cnt ≤ 60) (hb : r.brs.length ≤ 12) : isRuleP r.toD = true := by
  unfold isRuleP
  rw [show 62 = (61 - r.cnt + 1) + r.cnt by omega, irun_rl _ r (Nat.le_refl _) hf 1 (by omega) [] _ 0 0 (by simp; omega)]
  simp only [irun, Nat.zero_add]
  simpa using hb
/-! rules are fine -/
theorem known_nm (w : Wd) : known w.nm = true := by
  unfold known
  rw [wdOf_nm]
  rfl
theorem fineDs_of : ∀ {xs : List PyData}, (∀ x ∈ xs, fineD x = true) → fineDs xs = true
  | [], _ => rfl
  | x :: r, h => by
    simp only [fineDs, Bool.and_eq_true]
    exact ⟨h x (by simp), fineDs_of fun y hy => h y (List.mem_cons_of_mem _ hy)⟩
def Un.short : Un → Prop
  | .row ws => ws.length ≤ 64
  | _ => True
theorem fine_rl : ∀ (c : Nat) (r : Rl), r.cnt ≤ c → r.cnt ≤ 90000 → fits r = true → fineD r.toD = true
  | 0, r, hc, _, _ => by have := cnt_pos r; omega
  | c + 1, r, hc, h9, hf => by
    have hp : ∀ p ∈ r.parts, fineD p.toD = true := fun p hp => fine_rl c p (by have := Rl.part_cnt hp; omega) (by have := Rl.part_cnt hp; omega) (fits_parts hf hp)
    rw [toD_eq]
    have key : fineDs (rlRest r) = true ∧ (rlRest r).length ≤ 10 := by
      cases r with
      | is w => exact ⟨rfl, by simp [rlRest]⟩
      | hear j => exact ⟨rfl, by simp [rlRest]⟩
      | lst k ps =>
        refine ⟨?_, by simp [rlRest]⟩
        have hl := Rl.len_cntA ps
        simp only [Rl.cnt] at h9
        have : headFine (Rl.toDs ps) = true := by
          cases ps with
          | nil => rfl
          | cons p ps => rw [Rl.toDs, toD_eq]; rfl
        simp only [rlRest, fineDs, fineD, Bool.and_eq_true, this, decide_eq_true_eq, Rl.toDs_len, and_true, true_and]
        refine ⟨by omega, fineDs_of fun x hx => ?_⟩
        rw [Rl.toDs_map] at hx
        obtain ⟨p, q, rfl⟩ := List.mem_map.mp hx
        exact hp p q
      | mid a b c =>
        refine ⟨?_, by simp [rlRest]⟩
        simp only [rlRest, fineDs, Bool.and_eq_true, and_true]
        exact ⟨hp a (by simp [Rl.parts]), hp b (by simp [Rl.parts]), hp c (by simp [Rl.parts])⟩
      | un u a =>
        have ha := hp a (by simp [Rl.parts])
        cases u with
        | row ws =>
          refine ⟨?_, by simp [rlRest, Un.d]⟩
          simp only [fits, unWd, Un.d, List.cons_append, List.nil_append, formOf, numsFit, cntOf, Bool.and_eq_true, decide_eq_true_eq, List.length_map] at hf
          have h64 := hf.1.1.2
          have : headFine (ws.map PyData.int) = true := by cases ws <;> rfl
          simp only [rlRest, Un.d, List.cons_append, List.nil_append, fineDs, fineD, this, Bool.and_eq_true, decide_eq_true_eq, List.length_map, and_true, true_and, ha]
          exact ⟨by omega, fineDs_of fun x hx => by obtain ⟨i, _, rfl⟩ := List.mem_map.mp hx; rfl⟩
        | times m => exact ⟨by simp [rlRest, Un.d, fineDs, ha, fineD], by simp [rlRest, Un.d]⟩
        | part m => exact ⟨by simp [rlRest, Un.d, fineDs, ha, fineD], by simp [rlRest, Un.d]⟩
        | clip m l => exact ⟨by simp [rlRest, Un.d, fineDs, ha, fineD], by simp [rlRest, Un.d]⟩
        | frm m => exact ⟨by simp [rlRest, Un.d, fineDs, ha, fineD], by simp [rlRest, Un.d]⟩
        | bar m l h => exact ⟨by simp [rlRest, Un.d, fineDs, ha, fineD], by simp [rlRest, Un.d]⟩
    simp only [fineD, headFine, known_nm, fineDs, Bool.and_eq_true, decide_eq_true_eq, List.length_cons, true_and]
    exact ⟨by omega, key.1⟩
/-! ### what a draw of k01 can give -/
def cMax : Nat → Nat
  | 0 => 1
  | 1 => 4
  | d + 2 => 2 * cMax (d + 1) + 1
def bMax : Nat → Nat
  | 0 => 1
  | 1 => 3
  | d + 2 => 2 * bMax (d + 1)
theorem cMax_s (d : Nat) : 2 * cMax d + 1 ≤ cMax (d + 1) := by
  cases d with
  | zero => decide
  | succ d => exact Nat.le_refl _
theorem bMax_s (d : Nat) : 2 * bMax d ≤ bMax (d + 1) := by
  cases d with
  | zero => decide
  | succ d => exact Nat.le_refl _
theorem cMax_pos (d : Nat) : 1 ≤ cMax d := by
  cases d with
  | zero => decide
  | succ d => have := cMax_s d; omega
theorem bMax_pos (d : Nat) : 1 ≤ bMax d := by
  induction d with
  | zero => decide
  | succ d ih => have := bMax_s d; omega
structure Dr (n top : Int) (any : Bool) (d : Nat) (r : Rl) : Prop where
  ok : r.ok n top any
  dep : r.dep ≤ d
  cnt : r.cnt ≤ cMax d
  brs : r.brs.length ≤ bMax d
  fit : fits r = true
theorem un_form {u : Un} {n top : Int} {any : Bool} (h : u.ok n top any) (ht : top ≤ 900) (hs : Un.short u) (x : PyData) : formOf (unWd u) (u.d ++ [x]) = true := by
  cases u with
  | times m => simp only [Un.ok] at h; simp [unWd, Un.d, formOf, numsFit, cntOf, fitAt, leastP, isIntP, List.range_succ]; omega
  | part m => simp only [Un.ok] at h; simp [unWd, Un.d, formOf, numsFit, cntOf, fitAt, leastP, isIntP, List.range_succ]; omega
  | clip m l => simp only [Un.ok] at h; simp [unWd, Un.d, formOf, numsFit, cntOf, fitAt, leastP, isIntP, List.range_succ]; omega
  | frm m => simp only [Un.ok] at h; simp [unWd, Un.d, formOf, numsFit, cntOf, fitAt, leastP, isIntP, List.range_succ]; omega
  | bar m l q => simp only [Un.ok] at h; simp [unWd, Un.d, formOf, numsFit, cntOf, fitAt, leastP, isIntP, List.range_succ]; omega
  | row ws =>
    simp only [Un.ok] at h
    simp only [Un.short] at hs
    obtain ⟨h1, h2, h3, h4⟩ := h
    have hp := List.length_pos_iff.mpr h1
    simp only [unWd, Un.d, List.cons_append, List.nil_append, formOf, numsFit, cntOf, Bool.and_eq_true, decide_eq_true_eq, List.length_map, List.all_eq_true, List.mem_range]
    refine ⟨⟨by omega, by omega⟩, fun i hi => ?_⟩
    have hx := h3 ws[i] (List.getElem_mem hi)
    simp only [fitAt, leastP, List.getElem?_map, List.getElem?_eq_getElem hi, Option.map_some, isIntP, Bool.and_eq_true, decide_eq_true_eq]
    omega
namespace Dr
theorem leafI {n top : Int} {any : Bool} {w : Int} (d : Nat) (h : 0 ≤ w ∧ w ≤ top) (ht : top ≤ 900) : Dr n top any d (.is w) :=
  ⟨by simpa only [Rl.ok] using h, by simp only [Rl.dep]; omega, by simp only [Rl.cnt]; exact cMax_pos d, by simp [Rl.brs], by simp [fits, formOf, isIntP]; omega⟩
theorem leafH {n top : Int} {any : Bool} {w : Int} (d : Nat) (h : 0 ≤ w ∧ w < n) (hn : n ≤ 1000) : Dr n top any d (.hear w) :=
  ⟨by simpa only [Rl.ok] using h, by simp only [Rl.dep]; omega, by simp only [Rl.cnt]; exact cMax_pos d, by simpa [Rl.brs] using bMax_pos d, by simp [fits, formOf, isIntP]; omega⟩
theorem lst {n top : Int} {any : Bool} {d : Nat} {k : LK} {ps : List Rl} (h0 : ps ≠ []) (h2 : ps.length ≤ 2) (h : ∀ p ∈ ps, Dr n top any d p) : Dr n top any (d + 1) (.lst k ps) := by
  have hc : ∀ p ∈ ps, p.cnt ≤ cMax d := fun p hp => (h p hp).cnt
  have h1 := Rl.cntA_two hc
  have h3 : (Rl.brsA ps).length ≤ ps.length * bMax d := by
    clear h1 hc h0 h2
    induction ps with
    | nil => simp [Rl.brsA]
    | cons p ps ih =>
      have a := (h p (by simp)).brs
      have b := ih fun q hq => h q (List.mem_cons_of_mem _ hq)
      simp only [Rl.brsA, List.length_append, List.length_cons]
      rw [Nat.add_mul]
      omega
  have h4 := cMax_s d
  have h5 := bMax_s d
  have h6 := Nat.mul_le_mul_right (cMax d) h2
  have h7 := Nat.mul_le_mul_right (bMax d) h2
  refine ⟨?_, ?_, ?_, ?_, ?_⟩
  · simp only [Rl.ok]
    exact ⟨h0, h2, Rl.okA_all.mpr fun p hp => (h p hp).ok⟩
  · simp only [Rl.dep]
    have := Rl.depA_all fun p hp => (h p hp).dep
    omega
  · simp only [Rl.cnt]; omega
  · simp only [Rl.brs]; omega
  · simp only [fits, Bool.and_eq_true]
    exact ⟨by cases ps with | nil => exact absurd rfl h0 | cons p ps => rfl, fitsA_of fun p hp => (h p hp).fit⟩
theorem mid {n top : Int} {any : Bool} {a b c : Rl} (ha : Dr n top any 0 a) (hb : Dr n top any 0 b) (hc : Dr n top any 0 c) : Dr n top any 1 (.mid a b c) := by
  have a1 := ha.dep; have a2 := ha.cnt; have b1 := hb.dep; have b2 := hb.cnt; have c1 := hc.dep; have c2 := hc.cnt
  have a3 := ha.brs; have b3 := hb.brs; have c3 := hc.brs
  simp only [cMax, bMax] at *
  exact ⟨by simp only [Rl.ok]; exact ⟨ha.ok, hb.ok, hc.ok⟩, by simp only [Rl.dep]; omega, by simp only [Rl.cnt, cMax]; omega, by simp only [Rl.brs, bMax, List.length_append, List.length_nil]; omega, by simp only [fits, ha.fit, hb.fit, hc.fit]; rfl⟩
theorem un {n top : Int} {any : Bool} {d : Nat} {u : Un} {a : Rl} (hu : u.ok n top any) (ht : top ≤ 900) (hs : Un.short u) (ha : Dr n top any d a) : Dr n top any (d + 1) (.un u a) := by
  have a1 := ha.dep; have a2 := ha.cnt; have a3 := ha.brs; have h5 := cMax_s d; have h6 := bMax_s d; have h7 := cMax_pos d; have h8 := bMax_pos d
  exact ⟨by simp only [Rl.ok]; exact ⟨hu, ha.ok⟩, by simp only [Rl.dep]; omega, by simp only [Rl.cnt]; omega, by simp only [Rl.brs, List.length_append, List.length_nil]; omega, by simp only [fits, un_form hu ht hs, ha.fit]; rfl⟩
theorem isRule {n top : Int} {any : Bool} {d : Nat} {r : Rl} (h : Dr n top any d r) (hd : d ≤ 3) : isRuleP r.toD = true := by
  have h1 := h.dep; have h2 := h.cnt; have h3 := h.brs
  have hm : cMax d ≤ 19 ∧ bMax d ≤ 12 := by
    rcases (by omega : d = 0 ∨ d = 1 ∨ d = 2 ∨ d = 3) with e | e | e | e <;> subst e <;> decide
  exact isRule_rl h.fit (by omega) (by omega) (by omega)
end Dr

end SM
set_option linter.all false
set_option maxRecDepth 100000
set_option maxHeartbeats 4000000
namespace SM
open PySem PySem.Spec PyProof.Rows L2 NB RZ SV PD
local macro_rules | `(tactic| walk_at "sv") => `(tactic| simp only [fC_ok, kOp2_, kOp1_, fOp_ok, kUn_, fUn_ok, fNilA_ok, kCons2_, kCons1_, fConsA_ok, kTup_, fTup_ok, kLst_, fLst_ok, kTru_, fTru_ok, kB_, fB_ok, kNotT_, fNotT_ok, kAndT_, fAndT_ok, kOrT_, fOrT_ok, kIf_, fIf_ok, kAndV_, kOrV_, fAndV_ok, fOrV_ok, kCallB_, fCallB_ok, kCall_, fCall_ok, kCallK_, fCallK_ok, kRev_, fRev_ok, fNoO_ok, fSomeO_ok, kSl3_, kSl2_, kSl1_, fSl_ok, kCh3_, kCh2_, kCh1_, kCh0_, fChain_ok, kMt2_, kMt1_, fMt_ok, fSkip_ok, fSeq_ok, kSet_, fSet_ok, kDrop_, fDrop_ok, kRet_, fRet_ok, fRetN_ok, kIfS_, fIfS_ok, fBrk_ok, fCt_ok, kAug2_, kAug1_, kAsg2_, kAsg1_, fAsg_ok, fPar_ok, gNm_ok, gN0_ok, kC0_, gC0_ok, kSb3_, kSb2_, kSb1_, gSb_ok, kFor_, fFor_ok, kWk_, fWk_ok, kRng1_, fRng1_ok, kRng2_, fRng2_ok, kEnum_, fEnum_ok, kZip_, fZip_ok, kLc2_, kLc1_, fLc_ok, fYes_ok, kQu2_, kQu1_, fQu_ok, leave_same, defK_k, kFinK_ret, kFinK_nx, fVar0_ok, fVarS_ok, defF_ok, kSeq_nx, kSeq_ret, kSeq_brk, kSeq_ct, kSomeO_int, kPar_two, kFin_ret, kFin_nx, add_ii, sub_ii, lt_ii, le_ii, gt_ii, ge_ii, eq_ii, ne_ii, iadd_ii, gBool_b, gTru_b, gNot_b, gNeg_i, gInt_i, gAbs_i, min_ii, max_ii, len_l, len_t, tup_t, tup_l, lst_l, lst_t, newL_p, ix_t0, ix_t1, ix_t2, ix_t3, ix_l0, wk_t, wk_l, vT_t, mkT0, mkT1, mkT2, mkT3, mkT4, mkT5, newL0, newL1, newL2, newL3, sz0, sz1, sz2, sz3, sz4, sz5, tru_t, tru_l, rev_t, rev_l, ok_ok, startE, dBl, dInt, List.map_cons, List.map_nil, List.length_cons, List.length_nil, List.replicate_succ, List.replicate_zero, Nat.reduceAdd, Nat.reduceSub, Nat.reduceLeDiff, List.cons_append, List.nil_append, List.set_cons_zero, List.set_cons_succ, wipeE, Bool.not_true, Bool.not_false, ↓reduceIte, Bool.false_eq_true, decide_true, decide_false, Bool.and_true, Bool.and_false, Bool.true_and, Bool.false_and])
/-! ### values that are no rules -/
def deepP : Nat → PyData
  | 0 => .tuple [.str "hear", .int 0]
  | n + 1 => .tuple [.str "part", .int 1, deepP n]
def hearsP (n : Nat) : List PyData := (List.range n).map fun (i : Nat) => PyData.tuple [.str "hear", .int i]
def wideR : Rl := .lst .add ((List.range 13).map fun (i : Nat) => Rl.hear i)
abbrev is1 : PyData := .tuple [.str "is", .int 1]
abbrev is2 : PyData := .tuple [.str "is", .int 2]
def odd1 : List PyData := [.none, .tuple [], .tuple [.str "is"], .tuple [.str "is", .int (-1)], .tuple [.str "is", .int 1001], .tuple [.str "is", .bool true], .tuple [.str "is", .str "1"], .list [.str "is", .int 1], .tuple [.str "hear", .none], .tuple [.str "least", .tuple []], .tuple [.str "most", .list [is1]], .tuple [.str "odd", .int 1]]
def odd2 : List PyData := [.tuple [.str "middle", is1, is2], .tuple [.str "times", is1, .int 2], .tuple [.str "part", .int 0, is1], .tuple [.str "clip", .int 2, .int 1, is1], .tuple [.str "from", .int 1], .tuple [.str "bar", .int 1, .int 2, is1]]
def odd3 : List PyData := [.tuple [.str "row", .tuple [], is1], .tuple [.str "row", .list [.int 1], is1], .tuple [.str "row", .tuple (List.replicate 65 (.int 0)), is1], .tuple [.str "add", .tuple [is1, .none]], deepP 8, .tuple [.str "add", .tuple (hearsP 13)], .int 7, .str "is", .tuple [.str "is", .int 1, .int 2]]
def oddL : List PyData := odd1 ++ odd2 ++ odd3
theorem odd_alone : (oddL.all fun x => !isRuleP x) = true := by decide +kernel
theorem odd_fine : (oddL.all fun x => fineD x) = true := by decide +kernel
theorem wide_eq : wideR.toD = .tuple [.str "add", .tuple (hearsP 13)] := by
  unfold wideR hearsP
  simp only [Rl.toD, Rl.toDs_map, List.map_map]
  rfl
/-! beside a rule -/
def simple (x : PyData) : Bool := !formP x
theorem irun_form {n : Nat} {x : PyData} {lv : Nat} {st : List (PyData × Nat)} {seen heard : Nat} (h : formP x = false) : irun n ((x, lv) :: st) seen heard = false := by
  cases n with
  | zero => rfl
  | succ n =>
    conv => lhs; unfold irun
    rw [if_pos (by simp [h])]
theorem irun_step {n : Nat} {x : PyData} {lv : Nat} {st : List (PyData × Nat)} {seen heard : Nat} {w : Wd} {rest : List PyData} (e : x = .tuple (.str w.nm :: rest)) :
    irun (n + 1) ((x, lv) :: st) seen heard = false ∨ irun (n + 1) ((x, lv) :: st) seen heard = irun n (((innerP w rest).map fun x => (x, lv + 1)).reverse ++ st) (seen + 1) (if w = .hear then heard + 1 else heard) := by
  subst e
  by_cases h : (decide (8 < lv) || (decide (60 < seen + 1 + st.length) || !formP (.tuple (.str w.nm :: rest)))) = true
  · left
    conv => lhs; unfold irun
    rw [if_pos h]
  · right
    conv => lhs; unfold irun
    rw [if_neg h]
    simp only [wdOf_nm]
theorem irun_high {n : Nat} {x : PyData} {lv : Nat} {st : List (PyData × Nat)} {seen heard : Nat} (h : 8 < lv) : irun n ((x, lv) :: st) seen heard = false := by
  cases n with
  | zero => rfl
  | succ n =>
    conv => lhs; unfold irun
    rw [if_pos (by simp [h])]
theorem irun_deep : ∀ (m n lv : Nat) (st : List (PyData × Nat)) (seen heard : Nat), 8 < lv + m → irun n ((deepP m, lv) :: st) seen heard = false
  | 0, n, lv, st, seen, heard, h => irun_high h
  | m + 1, n, lv, st, seen, heard, h => by
    cases n with
    | zero => rfl
    | succ n =>
      rcases irun_step (n := n) (lv := lv) (st := st) (seen := seen) (heard := heard) (w := .part) (rest := [.int 1, deepP m]) (x := deepP (m + 1)) rfl with e | e
      · exact e
      · rw [e]
        exact irun_deep m n (lv + 1) st (seen + 1) heard (by omega)
theorem irun_many : ∀ (n : Nat) (st : List (PyData × Nat)) (seen heard : Nat), 12 < heard → irun n st seen heard = false
  | 0, _, _, _, _ => rfl
  | n + 1, [], _, heard, h => by
    unfold irun; simp; omega
  | n + 1, (x, lv) :: st, seen, heard, h => by
    conv => lhs; unfold irun
    split
    · rfl
    · split
      · split
        · exact irun_many n _ _ _ (by split <;> omega)
        · rfl
      · rfl
theorem odd_beside {x : PyData} (hx : x ∈ oddL) (st : List (PyData × Nat)) (hst : st.length ≤ 1) : irun 61 ((x, 2) :: st) 1 0 = false := by
  have sp : ∀ {a b c d : List PyData} {p q r : PyData}, x ∈ (a ++ b) ++ (c ++ p :: q :: r :: d) → x ∈ (a ++ b) ++ (c ++ d) ∨ x = p ∨ x = q ∨ x = r := by
    intro a b c d p q r h
    simp only [List.mem_append, List.mem_cons] at h ⊢
    rcases h with (h | h) | h | h | h | h | h
    · exact .inl (.inl (.inl h))
    · exact .inl (.inl (.inr h))
    · exact .inl (.inr (.inl h))
    · exact .inr (.inl h)
    · exact .inr (.inr (.inl h))
    · exact .inr (.inr (.inr h))
    · exact .inl (.inr (.inr h))
  have hs : (((odd1 ++ odd2) ++ (odd3.take 3 ++ odd3.drop 6)).all fun x => !formP x) = true := by decide +kernel
  have h3 : odd3 = odd3.take 3 ++ .tuple [.str "add", .tuple [is1, .none]] :: deepP 8 :: .tuple [.str "add", .tuple (hearsP 13)] :: odd3.drop 6 := rfl
  unfold oddL at hx
  rw [h3] at hx
  rcases sp hx with h | h | h | h
  · have := List.all_eq_true.mp hs x h
    exact irun_form (by simpa using this)
  · rcases irun_step (n := 60) (lv := 2) (st := st) (seen := 1) (heard := 0) (w := .add) (rest := [.tuple [is1, .none]]) h with e | e
    · exact e
    · rw [e]
      exact irun_form rfl
  · rw [h]
    exact irun_deep 8 _ _ _ _ _ (by omega)
  · rw [h, ← wide_eq]
    have hc : wideR.cnt = 14 := by decide +kernel
    have := irun_rl 14 wideR (by rw [hc]; exact Nat.le_refl _) (by decide +kernel) 2 (by decide +kernel) st 47 1 0 (by rw [hc]; omega)
    rw [hc] at this
    rw [show 61 = 47 + 14 from rfl, this]
    exact irun_many _ _ _ _ (by decide +kernel)
theorem most_odd {r x : PyData} (hx : x ∈ oddL) : isRuleP (.tuple [.str "most", .tuple [r, x]]) = false := by
  unfold isRuleP
  rcases irun_step (n := 61) (lv := 1) (st := []) (seen := 0) (heard := 0) (w := .most) (rest := [.tuple [r, x]]) (x := .tuple [.str "most", .tuple [r, x]]) rfl with e | e
  · exact e
  · rw [e]
    exact odd_beside hx [(r, 2)] (by simp)
theorem most_fine {r x : PyData} (hx : x ∈ oddL) (hr : fineD r = true) (hh : headFine [r, x] = true) : fineD (.tuple [.str "most", .tuple [r, x]]) = true := by
  have := List.all_eq_true.mp odd_fine x hx
  have k : known (Str.ofString "most") = true := known_nm .most
  simp only [fineD, fineDs, hr, this, hh, headFine, Bool.and_eq_true, decide_eq_true_eq, and_true, true_and, List.length_cons, List.length_nil]
  exact ⟨⟨k, by decide⟩, hh, by decide⟩
theorem odd_len : oddL.length = 27 := by decide +kernel
/-! some rules by themselves -/
theorem c_deep7 : isRuleP (deepP 7) = true ∧ fineD (deepP 7) = true := by decide +kernel
theorem c_59 : isRuleP (.tuple [.str "least", .tuple (List.replicate 59 is1)]) = true ∧ fineD (.tuple [.str "least", .tuple (List.replicate 59 is1)]) = true := by decide +kernel
theorem c_60 : isRuleP (.tuple [.str "least", .tuple (List.replicate 60 is1)]) = false ∧ fineD (.tuple [.str "least", .tuple (List.replicate 60 is1)]) = true := by decide +kernel
theorem c_row : isRuleP (.tuple [.str "row", .tuple (List.replicate 64 (.int 1000)), .tuple [.str "is", .int 0]]) = true ∧ fineD (.tuple [.str "row", .tuple (List.replicate 64 (.int 1000)), .tuple [.str "is", .int 0]]) = true := by decide +kernel
theorem c_12 : isRuleP (.tuple [.str "add", .tuple (hearsP 12)]) = true ∧ fineD (.tuple [.str "add", .tuple (hearsP 12)]) = true := by decide +kernel

end SM
set_option linter.all false
set_option maxRecDepth 100000
set_option maxHeartbeats 4000000
namespace SM
open PySem PySem.Spec PyProof.Rows L2 NB RZ SV PD
local macro_rules | `(tactic| walk_at "sv") => `(tactic| simp only [fC_ok, kOp2_, kOp1_, fOp_ok, kUn_, fUn_ok, fNilA_ok, kCons2_, kCons1_, fConsA_ok, kTup_, fTup_ok, kLst_, fLst_ok, kTru_, fTru_ok, kB_, fB_ok, kNotT_, fNotT_ok, kAndT_, fAndT_ok, kOrT_, fOrT_ok, kIf_, fIf_ok, kAndV_, kOrV_, fAndV_ok, fOrV_ok, kCallB_, fCallB_ok, kCall_, fCall_ok, kCallK_, fCallK_ok, kRev_, fRev_ok, fNoO_ok, fSomeO_ok, kSl3_, kSl2_, kSl1_, fSl_ok, kCh3_, kCh2_, kCh1_, kCh0_, fChain_ok, kMt2_, kMt1_, fMt_ok, fSkip_ok, fSeq_ok, kSet_, fSet_ok, kDrop_, fDrop_ok, kRet_, fRet_ok, fRetN_ok, kIfS_, fIfS_ok, fBrk_ok, fCt_ok, kAug2_, kAug1_, kAsg2_, kAsg1_, fAsg_ok, fPar_ok, gNm_ok, gN0_ok, kC0_, gC0_ok, kSb3_, kSb2_, kSb1_, gSb_ok, kFor_, fFor_ok, kWk_, fWk_ok, kRng1_, fRng1_ok, kRng2_, fRng2_ok, kEnum_, fEnum_ok, kZip_, fZip_ok, kLc2_, kLc1_, fLc_ok, fYes_ok, kQu2_, kQu1_, fQu_ok, leave_same, defK_k, kFinK_ret, kFinK_nx, fVar0_ok, fVarS_ok, defF_ok, kSeq_nx, kSeq_ret, kSeq_brk, kSeq_ct, kSomeO_int, kPar_two, kFin_ret, kFin_nx, add_ii, sub_ii, lt_ii, le_ii, gt_ii, ge_ii, eq_ii, ne_ii, iadd_ii, gBool_b, gTru_b, gNot_b, gNeg_i, gInt_i, gAbs_i, min_ii, max_ii, len_l, len_t, tup_t, tup_l, lst_l, lst_t, newL_p, ix_t0, ix_t1, ix_t2, ix_t3, ix_l0, wk_t, wk_l, vT_t, mkT0, mkT1, mkT2, mkT3, mkT4, mkT5, newL0, newL1, newL2, newL3, sz0, sz1, sz2, sz3, sz4, sz5, tru_t, tru_l, rev_t, rev_l, ok_ok, startE, dBl, dInt, List.map_cons, List.map_nil, List.length_cons, List.length_nil, List.replicate_succ, List.replicate_zero, Nat.reduceAdd, Nat.reduceSub, Nat.reduceLeDiff, List.cons_append, List.nil_append, List.set_cons_zero, List.set_cons_succ, wipeE, Bool.not_true, Bool.not_false, ↓reduceIte, Bool.false_eq_true, decide_true, decide_false, Bool.and_true, Bool.and_false, Bool.true_and, Bool.false_and])
/-! ### k01's own drawn rules -/
def ruleSpec1 (rule : FN) (d l : Nat) (N top : Int) (any : Bool) (deep : Nat) : Prop := ∀ S, DealS S d l → Ok (rule [.ref d, .p (.int N), .p (.int top), .p (.int deep), .p (.bool any)] S) fun x S' => ∃ r : Rl, x = .p r.toD ∧ Dr N top any deep r ∧ DealS S' d l ∧ KpS d l S S'
theorem ruleSpec1.k {rule : FN} {d l : Nat} {N top : Int} {any : Bool} {deep : Nat} {S : Sto} {P : D → Sto → Prop} (h : ruleSpec1 rule d l N top any deep) (Dl : DealS S d l) (k : ∀ (r : Rl) S', Dr N top any deep r → DealS S' d l → KpS d l S S' → P (.p r.toD) S') :
    Ok (rule [.ref d, .p (.int N), .p (.int top), .p (.int deep), .p (.bool any)] S) P := (h S Dl).imp fun x S' ⟨r, e, h1, h2, h3⟩ => by rw [e]; exact k r S' h1 h2 h3
theorem rules_lc1 {rule : FN} {d l : Nat} {N top : Int} {any : Bool} {deep n : Nat} {te : FE} {E : En} {S : Sto} {P : List D → Sto → Prop} (h : ruleSpec1 rule d l N top any deep) (hn : n ≤ 1000) (Dl : DealS S d l)
    (he : ∀ i S (P : D → Sto → Prop), Ok (rule [.ref d, .p (.int N), .p (.int top), .p (.int deep), .p (.bool any)] S) P → Ok (te (E.set 6 (some (.p (.int i)))) S) P)
    (k : ∀ (rs : List Rl) S', rs.length = n → (∀ r ∈ rs, Dr N top any deep r) → DealS S' d l → KpS d l S S' → P ((Rl.toDs rs).map .p) S') :
    Ok (lcN (.fix (rngD 0 n)) (.one 6) fYes te E (Wk.fix (rngD 0 n)).fuel 0 [] S) P := by
  refine lc_ok (I := fun i acc S1 => ∃ rs : List Rl, rs.length = i ∧ acc = (Rl.toDs rs).map .p ∧ (∀ r ∈ rs, Dr N top any deep r) ∧ DealS S1 d l ∧ KpS d l S S1) (by rw [rng_len]; omega) ⟨[], rfl, rfl, by simp, Dl, KpS.refl _ _ _⟩ ?_ ?_
  · rintro i dd acc S1 hi ⟨rs, rfl, rfl, hr, D1, K1⟩
    refine ⟨_, rfl, ?_⟩
    rw [fYes_ok, if_pos rfl]
    have : ∃ j : Int, dd = .p (.int j) := by
      unfold rngD at hi
      rw [List.getElem?_map] at hi
      obtain ⟨a, _, e⟩ := Option.map_eq_some_iff.mp hi
      exact ⟨_, e.symm⟩
    obtain ⟨j, rfl⟩ := this
    refine he j S1 _ (h.k D1 fun r S' dr D' K' => ⟨rs ++ [r], by simp, ?_, ?_, D', K1.trans K'⟩)
    · rw [Rl.toDs_app]; simp [Rl.toDs]
    · intro x hx
      rcases List.mem_append.mp hx with q | q
      · exact hr x q
      · rw [List.mem_singleton.mp q]; exact dr
  · rintro acc S1 ⟨rs, e, rfl, hr, D1, K1⟩
    rw [rng_len] at e
    exact k rs S1 e hr D1 K1
theorem rule_ok1 {d l : Nat} {N top : Int} {any : Bool} (n1 : 1 ≤ N) (n2 : N ≤ 1000) (t0 : 0 ≤ top) (t1 : top ≤ 900) : ∀ (n deep : Nat), deep + 1 ≤ n → ruleSpec1 (f_law_rule_k01 n) d l N top any deep
  | 0, _, h => by omega
  | n + 1, deep, hd => fun S Dl => by
    show Ok (defF 11 (b_law_rule_k01 (f_law_rule_k01 n)) _ S) _
    unfold b_law_rule_k01
    walk_at "sv"
    have key : ∀ K : D → Sto → Prop, (∀ (form : Int) S1, 0 ≤ form → form < 14 → (deep = 0 → form < 4) → DealS S1 d l → KpS d l S S1 → K (.p (.int form)) S1) →
        if decide ((0 : Int) < deep) = true then Ok (f_law_any [.ref d, .p (.int 14)] S) K else Ok (f_law_any [.ref d, .p (.int 4)] S) K := fun K k => by
      by_cases c : deep = 0
      · rw [if_neg (by simp; omega)]
        exact any_k Dl (by decide) (by decide) fun r S1 r0 r1 D1 K1 => k r S1 r0 (by omega) (fun _ => r1) D1 K1
      · rw [if_pos (by simp; omega)]
        exact any_k Dl (by decide) (by decide) fun r S1 r0 r1 D1 K1 => k r S1 r0 r1 (fun e => absurd e c) D1 K1
    refine key _ fun form S1 f0 f1 f2 D1 K1 => ?_
    walk_at "sv"
    have fin : ∀ {r : Rl} {S2 : Sto}, Dr N top any deep r → DealS S2 d l → KpS d l S S2 → Ok (leave S (.p r.toD) S2) fun x S' => ∃ r : Rl, x = .p r.toD ∧ Dr N top any deep r ∧ DealS S' d l ∧ KpS d l S S' := fun {r S2} h1 h2 h3 => by
      rw [leave_len _ h3.1, ok_ok]
      exact ⟨r, rfl, h1, h2, h3⟩
    refine bi (fun c => ?_) (fun c => ?_)
    · refine any_k D1 (by omega) (by omega) fun r S2 r0 r1 D2 K2 => ?_
      walk_at "sv"
      exact fin (r := .is r) (Dr.leafI _ ⟨r0, by omega⟩ t1) D2 (K1.trans K2)
    have c0 : form ≠ 0 := by simpa using c
    refine bi (fun c => ?_) (fun c => ?_)
    · refine any_k D1 (by omega) (by omega) fun r S2 r0 r1 D2 K2 => ?_
      walk_at "sv"
      exact fin (r := .hear r) (Dr.leafH _ ⟨r0, by omega⟩ n2) D2 (K1.trans K2)
    have c1 : 4 ≤ form := by simpa using c
    obtain ⟨dp, rfl⟩ : ∃ dp, deep = dp + 1 := ⟨deep - 1, by have := f2; omega⟩
    have IH := rule_ok1 (d := d) (l := l) (any := any) n1 n2 t0 t1 n dp (by omega)
    have ed : ((dp + 1 : Nat) : Int) - 1 = (dp : Int) := by omega
    refine bi (fun c => ?_) (fun c => ?_)
    · refine any_k D1 (by omega) (by omega) fun r S2 r0 r1 D2 K2 => ?_
      walk_at "sv"
      rw [rng1_i (by omega)]
      walk_at "sv"
      refine rules_lc1 IH (by omega) D2 (fun i S3 P hq => ?_) fun rs S3 hl hr D3 K3 => ?_
      · walk_at "sv"
        rw [ed]; exact hq
      walk_at "sv"
      refine of_k D3 (by simp) (by simp) fun i x S4 hx D4 K4 => ?_
      walk_at "sv"
      have mk : ∀ k : LK, x = .str k.w → Ok (leave S (.p (.tuple [x, .tuple (Rl.toDs rs)])) S4) fun x S' => ∃ r : Rl, x = .p r.toD ∧ Dr N top any (dp + 1) r ∧ DealS S' d l ∧ KpS d l S S' := fun k e => by
        subst e
        have := fin (r := .lst k rs) (Dr.lst (fun e => by rw [e] at hl; simp at hl; omega) (by omega) hr) D4 (((K1.trans K2).trans K3).trans K4)
        simpa only [Rl.toD] using this
      match i, hx with
      | 0, hx => exact mk .least (Option.some.inj hx).symm
      | 1, hx => exact mk .most (Option.some.inj hx).symm
      | 2, hx => exact mk .add (Option.some.inj hx).symm
      | i + 3, hx => simp at hx
    have c2 : 8 ≤ form := by simpa using c
    refine bi2 (fun c c3 => ?_) (fun cc => ?_)
    · have : dp = 0 := by simp at c3; omega
      subst this
      rw [rng1_i (by omega)]
      walk_at "sv"
      refine rules_lc1 IH (by decide) D1 (fun i S3 P hq => ?_) fun rs S3 hl hr D3 K3 => ?_
      · walk_at "sv"
        exact hq
      walk_at "sv"
      have hl3 : rs.length = 3 := hl
      match rs, hl3, hr with
      | [x, y, z], _, hr =>
        rw [add_tt (by rw [Rl.toDs_len, sizeLine_eq]; simp), ok_ok]
        walk_at "sv"
        have := fin (r := .mid x y z) (Dr.mid (hr x (by simp)) (hr y (by simp)) (hr z (by simp))) D3 (K1.trans K3)
        simpa only [Rl.toD, Rl.toDs] using this
    have nf : ¬ (form = 8 ∧ dp = 0) := fun ⟨h1, h2⟩ => by
      rcases cc with q | q
      · simp [h1] at q
      · simp [h2] at q
    rw [ed]
    refine IH.k D1 fun inner S2 di D2 K2 => ?_
    have K12 := K1.trans K2
    walk_at "sv"
    -- one rule around the inner one
    have fu : ∀ {u : Un} {S3 : Sto}, u.ok N top any → Un.short u → DealS S3 d l → KpS d l S S3 → Ok (leave S (.p (.tuple (.str u.w :: (u.d ++ [inner.toD])))) S3) fun x S' => ∃ r : Rl, x = .p r.toD ∧ Dr N top any (dp + 1) r ∧ DealS S' d l ∧ KpS d l S S' := fun {u S3} h1 hs h2 h3 => by
      have := fin (r := .un u inner) (Dr.un h1 t1 hs di) h2 h3
      simpa only [Rl.toD] using this
    refine bi (fun c => ?_) (fun c => ?_)
    · refine any_k D2 (by decide) (by decide) fun r S3 r0 r1 D3 K3 => ?_
      walk_at "sv"
      exact fu (u := .times r) ⟨r0, r1⟩ trivial D3 (K12.trans K3)
    refine bi (fun c => ?_) (fun c => ?_)
    · refine any_k D2 (by decide) (by decide) fun r S3 r0 r1 D3 K3 => ?_
      walk_at "sv"
      exact fu (u := .part (1 + r)) ⟨by omega, by omega⟩ trivial D3 (K12.trans K3)
    refine bi (fun c => ?_) (fun c => ?_)
    · refine any_k D2 (by omega) (by omega) fun r S3 r0 r1 D3 K3 => ?_
      walk_at "sv"
      refine any_k D3 (by decide) (by decide) fun q S4 q0 q1 D4 K4 => ?_
      walk_at "sv"
      exact fu (u := .clip r (r + q)) ⟨r0, by omega, by omega, by omega⟩ trivial D4 ((K12.trans K3).trans K4)
    refine bi (fun c => ?_) (fun c => ?_)
    · refine any_k D2 (by omega) (by omega) fun r S3 r0 r1 D3 K3 => ?_
      walk_at "sv"
      refine any_k D3 (by omega) (by omega) fun q S4 q0 q1 D4 K4 => ?_
      walk_at "sv"
      refine any_k D4 (by omega) (by omega) fun p S5 p0 p1 D5 K5 => ?_
      walk_at "sv"
      exact fu (u := .bar r q p) ⟨r0, by omega, q0, by omega, p0, by omega⟩ trivial D5 (((K12.trans K3).trans K4).trans K5)
    refine bi (fun c => ?_) (fun c => ?_)
    · have hmin : min (top + 1) 64 ≤ top + 1 ∧ min (top + 1) 64 ≤ 64 ∧ 1 ≤ min (top + 1) 64 := by omega
      refine any_k D2 (by omega) (by omega) fun r S3 r0 r1 D3 K3 => ?_
      walk_at "sv"
      rw [rng1_i (by omega)]
      walk_at "sv"
      refine nums_lc (m := top + 1) (by omega) (by omega) (by omega) D3 (fun i S3 P hq => ?_) fun ns S4 hl hr D4 K4 => ?_
      · walk_at "sv"
        exact hq
      walk_at "sv"
      have ok1 : ∀ ms : List Int, ms.Perm ns → (any = false → ms.Pairwise (· ≤ ·)) → (Un.row ms).ok N top any := fun ms hp hs => by
        have hlm : ms.length = ns.length := hp.length_eq
        refine ⟨fun e => ?_, by omega, fun x hx => ?_, hs⟩
        · rw [e] at hlm; simp at hlm; omega
        · have := hr x (hp.mem_iff.mp hx); omega
      refine bi (fun c5 => ?_) (fun c5 => ?_)
      · exact fu (u := .row ns) (ok1 ns (.refl _) (fun e => by rw [c5] at e; cases e)) (show ns.length ≤ 64 by omega) D4 ((K12.trans K3).trans K4)
      · rw [sorted_l, ok_ok]
        walk_at "sv"
        exact fu (u := .row (isort ns)) (ok1 _ (isort_perm ns) (fun _ => isort_sorted ns)) (show (isort ns).length ≤ 64 by rw [(isort_perm ns).length_eq]; omega) D4 ((K12.trans K3).trans K4)
    · refine any_k D2 (by omega) (by omega) fun r S3 r0 r1 D3 K3 => ?_
      walk_at "sv"
      exact fu (u := .frm r) ⟨r0, by omega⟩ trivial D3 (K12.trans K3)

end SM
set_option linter.all false
set_option maxRecDepth 100000
set_option maxHeartbeats 4000000
namespace SM
open PySem PySem.Spec PyProof.Rows L2 NB RZ SV PD
local macro_rules | `(tactic| walk_at "sv") => `(tactic| simp only [fC_ok, kOp2_, kOp1_, fOp_ok, kUn_, fUn_ok, fNilA_ok, kCons2_, kCons1_, fConsA_ok, kTup_, fTup_ok, kLst_, fLst_ok, kTru_, fTru_ok, kB_, fB_ok, kNotT_, fNotT_ok, kAndT_, fAndT_ok, kOrT_, fOrT_ok, kIf_, fIf_ok, kAndV_, kOrV_, fAndV_ok, fOrV_ok, kCallB_, fCallB_ok, kCall_, fCall_ok, kCallK_, fCallK_ok, kRev_, fRev_ok, fNoO_ok, fSomeO_ok, kSl3_, kSl2_, kSl1_, fSl_ok, kCh3_, kCh2_, kCh1_, kCh0_, fChain_ok, kMt2_, kMt1_, fMt_ok, fSkip_ok, fSeq_ok, kSet_, fSet_ok, kDrop_, fDrop_ok, kRet_, fRet_ok, fRetN_ok, kIfS_, fIfS_ok, fBrk_ok, fCt_ok, kAug2_, kAug1_, kAsg2_, kAsg1_, fAsg_ok, fPar_ok, gNm_ok, gN0_ok, kC0_, gC0_ok, kSb3_, kSb2_, kSb1_, gSb_ok, kFor_, fFor_ok, kWk_, fWk_ok, kRng1_, fRng1_ok, kRng2_, fRng2_ok, kEnum_, fEnum_ok, kZip_, fZip_ok, kLc2_, kLc1_, fLc_ok, fYes_ok, kQu2_, kQu1_, fQu_ok, leave_same, defK_k, kFinK_ret, kFinK_nx, fVar0_ok, fVarS_ok, defF_ok, kSeq_nx, kSeq_ret, kSeq_brk, kSeq_ct, kSomeO_int, kPar_two, kFin_ret, kFin_nx, add_ii, sub_ii, lt_ii, le_ii, gt_ii, ge_ii, eq_ii, ne_ii, iadd_ii, gBool_b, gTru_b, gNot_b, gNeg_i, gInt_i, gAbs_i, min_ii, max_ii, len_l, len_t, tup_t, tup_l, lst_l, lst_t, newL_p, ix_t0, ix_t1, ix_t2, ix_t3, ix_l0, wk_t, wk_l, vT_t, mkT0, mkT1, mkT2, mkT3, mkT4, mkT5, newL0, newL1, newL2, newL3, sz0, sz1, sz2, sz3, sz4, sz5, tru_t, tru_l, rev_t, rev_l, ok_ok, startE, dBl, dInt, List.map_cons, List.map_nil, List.length_cons, List.length_nil, List.replicate_succ, List.replicate_zero, Nat.reduceAdd, Nat.reduceSub, Nat.reduceLeDiff, List.cons_append, List.nil_append, List.set_cons_zero, List.set_cons_succ, wipeE, Bool.not_true, Bool.not_false, ↓reduceIte, Bool.false_eq_true, decide_true, decide_false, Bool.and_true, Bool.and_false, Bool.true_and, Bool.false_and])
/-! ### k01: values that are no rules, as the law writes them -/
def hearD : D → D
  | .p x => .p (.tuple [.str "hear", x])
  | d => d
theorem hears_map (n : Nat) : (rngD 0 n).map hearD = (hearsP n).map D.p := by
  unfold rngD hearsP
  rw [List.map_map, List.map_map]
  apply List.map_congr_left
  intro i hi
  simp [hearD]
theorem mul_t {x : PyData} {k : Int} {n : Nat} {S : Sto} (h : 2 ≤ k ∧ k ≤ 1000) (e : k.toNat = n) : gMul (.p (.tuple [x])) (.p (.int k)) S = .ok (.p (.tuple (List.replicate n x))) S := by
  unfold gMul viewT
  simp only [List.map_cons, List.map_nil, List.length_cons, List.length_nil]
  rw [if_pos ⟨by omega, by simp, h⟩, e, show (List.replicate n [D.p x]).flatten = (List.replicate n x).map D.p by simp, mkT_p]
theorem odd_k {S : Sto} {P : D → Sto → Prop} (k : P (.p (.list oddL)) S) : Ok (f_law_odd_rules [] S) P := by
  unfold f_law_odd_rules
  walk_at "sv"
  rw [rng_c (n := 8) (by decide) rfl, ok_ok]
  walk_at "sv"
  generalize hr : rngD 0 8 = rs
  have hl : rs.length = 8 := by rw [← hr, rng_len]
  refine for_ok (I := fun i E S1 => ∃ o, E = [some (.p (deepP i)), o, none, none, none] ∧ S1 = S) ⟨none, rfl, rfl⟩ ?_ ?_
  · rintro i dd E S1 hi ⟨o, rfl, rfl⟩
    walk_at "sv"
    exact ⟨_, rfl, trivial⟩
  rintro E S1 ⟨o, rfl, rfl⟩
  rw [hl]
  clear hl hr
  walk_at "sv"
  rw [rng_c (n := 13) (by decide) rfl, ok_ok]
  walk_at "sv"
  rw [lc_map (f := hearD) (by rw [rng_len]; decide) (fun d hd => by
    obtain ⟨i, hi⟩ := List.getElem?_of_mem hd
    have := rng_at hi
    subst this
    refine ⟨_, rfl, ?_⟩
    refine Ok.eq ?_
    walk_at "sv"
    trivial), ok_ok]
  simp only [kLc2_, hears_map]
  walk_at "sv"
  rw [if_pos (by rw [sizeLine_eq]; decide)]
  show Ok (newL true (odd1.map D.p) _) _
  rw [newL_p, ok_ok]
  walk_at "sv"
  rw [if_pos (by rw [sizeLine_eq]; decide)]
  show Ok (newL true (odd2.map D.p) _) _
  rw [newL_p, ok_ok]
  walk_at "sv"
  rw [add_ll (by rw [sizeLine_eq]; decide), ok_ok]
  walk_at "sv"
  rw [mul_t (n := 65) (by decide) rfl, ok_ok]
  walk_at "sv"
  rw [if_pos (by rw [sizeLine_eq]; decide)]
  show Ok (newL true (odd3.map D.p) _) _
  rw [newL_p, ok_ok]
  walk_at "sv"
  rw [add_ll (by rw [sizeLine_eq]; decide), ok_ok]
  walk_at "sv"

  exact k

end SM
set_option linter.all false
set_option maxRecDepth 100000
set_option maxHeartbeats 4000000
namespace SM
open PySem PySem.Spec PyProof.Rows L2 NB RZ SV PD
local macro_rules | `(tactic| walk_at "sv") => `(tactic| simp only [fC_ok, kOp2_, kOp1_, fOp_ok, kUn_, fUn_ok, fNilA_ok, kCons2_, kCons1_, fConsA_ok, kTup_, fTup_ok, kLst_, fLst_ok, kTru_, fTru_ok, kB_, fB_ok, kNotT_, fNotT_ok, kAndT_, fAndT_ok, kOrT_, fOrT_ok, kIf_, fIf_ok, kAndV_, kOrV_, fAndV_ok, fOrV_ok, kCallB_, fCallB_ok, kCall_, fCall_ok, kCallK_, fCallK_ok, kRev_, fRev_ok, fNoO_ok, fSomeO_ok, kSl3_, kSl2_, kSl1_, fSl_ok, kCh3_, kCh2_, kCh1_, kCh0_, fChain_ok, kMt2_, kMt1_, fMt_ok, fSkip_ok, fSeq_ok, kSet_, fSet_ok, kDrop_, fDrop_ok, kRet_, fRet_ok, fRetN_ok, kIfS_, fIfS_ok, fBrk_ok, fCt_ok, kAug2_, kAug1_, kAsg2_, kAsg1_, fAsg_ok, fPar_ok, gNm_ok, gN0_ok, kC0_, gC0_ok, kSb3_, kSb2_, kSb1_, gSb_ok, kFor_, fFor_ok, kWk_, fWk_ok, kRng1_, fRng1_ok, kRng2_, fRng2_ok, kEnum_, fEnum_ok, kZip_, fZip_ok, kLc2_, kLc1_, fLc_ok, fYes_ok, kQu2_, kQu1_, fQu_ok, leave_same, defK_k, kFinK_ret, kFinK_nx, fVar0_ok, fVarS_ok, defF_ok, kSeq_nx, kSeq_ret, kSeq_brk, kSeq_ct, kSomeO_int, kPar_two, kFin_ret, kFin_nx, add_ii, sub_ii, lt_ii, le_ii, gt_ii, ge_ii, eq_ii, ne_ii, iadd_ii, gBool_b, gTru_b, gNot_b, gNeg_i, gInt_i, gAbs_i, min_ii, max_ii, len_l, len_t, tup_t, tup_l, lst_l, lst_t, newL_p, ix_t0, ix_t1, ix_t2, ix_t3, ix_l0, wk_t, wk_l, vT_t, mkT0, mkT1, mkT2, mkT3, mkT4, mkT5, newL0, newL1, newL2, newL3, sz0, sz1, sz2, sz3, sz4, sz5, tru_t, tru_l, rev_t, rev_l, ok_ok, startE, dBl, dInt, List.map_cons, List.map_nil, List.length_cons, List.length_nil, List.replicate_succ, List.replicate_zero, Nat.reduceAdd, Nat.reduceSub, Nat.reduceLeDiff, List.cons_append, List.nil_append, List.set_cons_zero, List.set_cons_succ, wipeE, Bool.not_true, Bool.not_false, ↓reduceIte, Bool.false_eq_true, decide_true, decide_false, Bool.and_true, Bool.and_false, Bool.true_and, Bool.false_and])
/-! ### how great what is told can be -/
theorem made_le {n top : Int} {any : Bool} {r : Rl} (hr : r.ok n top any) (ht : top ≤ 900) (nl : r.isLeaf = false) {ns : List Int} {M : Int} (hM : 1000 ≤ M) (hl : ns.length = r.parts.length) (h : ∀ x ∈ ns, 0 ≤ x ∧ x ≤ M) : made r ns ≤ 2 * M := by
  have g0 : ∀ (ms : List Int) (i : Nat), (∀ x ∈ ms, 0 ≤ x ∧ x ≤ M) → 0 ≤ ms.getD i 0 ∧ ms.getD i 0 ≤ M := fun ms i hm => by
    rw [List.getD_eq_getElem?_getD]
    cases e : ms[i]? with
    | none => simp; omega
    | some x => exact hm x (List.mem_of_getElem? e)
  cases r with
  | is w => cases nl
  | hear j => cases nl
  | lst k ps =>
    simp only [Rl.ok] at hr
    simp only [Rl.parts] at hl
    match ns, hl, h with
    | [], hl, _ => exact absurd (List.length_eq_zero_iff.mp hl.symm) hr.1
    | [x], _, h =>
      have := h x (by simp)
      cases k <;> simp [made, minL, maxL] <;> omega
    | [x, y], _, h =>
      have := h x (by simp)
      have := h y (by simp)
      cases k <;> simp [made, minL, maxL] <;> omega
    | x :: y :: z :: r, hl, _ => simp at hl; omega
  | mid a b c =>
    have := g0 (isort ns) 1 fun x hx => h x ((isort_perm ns).mem_iff.mp hx)
    simp only [made]
    omega
  | un u a =>
    simp only [Rl.ok] at hr
    have z := g0 ns 0 h
    cases u with
    | times m =>
      simp only [made]
      simp only [Un.ok] at hr
      rcases (by omega : m = 0 ∨ m = 1 ∨ m = 2) with e | e | e <;> subst e <;> omega
    | part d =>
      simp only [made]
      simp only [Un.ok] at hr
      have := Int.ediv_le_self d z.1
      omega
    | clip lo hi => simp only [made]; simp only [Un.ok] at hr; omega
    | frm w => simp only [made]; simp only [Un.ok] at hr; omega
    | bar k lo hi => simp only [made]; simp only [Un.ok] at hr; split <;> omega
    | row ws =>
      simp only [made]; simp only [Un.ok] at hr
      have := g0 ws (min (ns.getD 0 0) (ws.length - 1)).toNat fun x hx => by have := hr.1.2.2.1 x hx; omega
      omega
theorem tls_le {h : List Int} {M : Int} : ∀ (ps : List Rl) (a : Nat), (∀ p ∈ ps, ∀ a, 0 ≤ tl p h a ∧ tl p h a ≤ M) → ∀ x ∈ tls ps h a, 0 ≤ x ∧ x ≤ M
  | [], _, _, x, hx => by simp [tls] at hx
  | p :: ps, a, hs, x, hx => by
    simp only [tls, List.mem_cons] at hx
    rcases hx with q | q
    · rw [q]; exact hs p (by simp) a
    · exact tls_le ps _ (fun q hq => hs q (by simp [hq])) x q
theorem tl_le {n top : Int} {any : Bool} (ht : top ≤ 900) {h : List Int} (hh : ∀ x ∈ h, 0 ≤ x ∧ x ≤ 1000) : ∀ (d : Nat) (r : Rl) (a : Nat), r.dep ≤ d → r.ok n top any → 0 ≤ tl r h a ∧ tl r h a ≤ 1000 * 2 ^ d := by
  intro d
  induction d with
  | zero =>
    intro r a hd hr
    refine ⟨tl_nn (fun x hx => (hh x hx).1) 0 r a hd hr, ?_⟩
    cases r with
    | is w => simp only [Rl.ok] at hr; simp only [tl]; omega
    | hear j =>
      simp only [tl]
      rw [List.getD_eq_getElem?_getD]
      cases e : h[a]? with
      | none => simp
      | some x => have := hh x (List.mem_of_getElem? e); simp; omega
    | lst k ps => simp [Rl.dep] at hd
    | mid _ _ _ => simp [Rl.dep] at hd
    | un _ _ => simp [Rl.dep] at hd
  | succ d ih =>
    intro r a hd hr
    refine ⟨tl_nn (fun x hx => (hh x hx).1) (d + 1) r a hd hr, ?_⟩
    have p2 : (1 : Int) ≤ 2 ^ d := by
      have : 0 < 2 ^ d := Nat.pow_pos (by decide)
      have e : ((2 ^ d : Nat) : Int) = (2 : Int) ^ d := by simp
      omega
    rw [show (1000 : Int) * 2 ^ (d + 1) = 2 * (1000 * 2 ^ d) by rw [Int.pow_succ]; omega]
    cases hl : r.isLeaf with
    | true =>
      cases r with
      | is w => simp only [Rl.ok] at hr; simp only [tl]; omega
      | hear j => have := (ih (.hear j) a (by simp [Rl.dep]) hr).2; omega
      | lst k ps => cases hl
      | mid _ _ _ => cases hl
      | un _ _ => cases hl
    | false =>
      rw [tl_node hl]
      exact made_le hr ht hl (by omega) (tls_len _ _ _) (tls_le _ _ fun p hp a => ih p a (by have := Rl.part_dep hp; omega) (ok_parts hr hp))

end SM
set_option linter.all false
set_option maxRecDepth 100000
set_option maxHeartbeats 4000000
namespace SM
open PySem PySem.Spec PyProof.Rows L2 NB RZ SV PD
local macro_rules | `(tactic| walk_at "sv") => `(tactic| simp only [fC_ok, kOp2_, kOp1_, fOp_ok, kUn_, fUn_ok, fNilA_ok, kCons2_, kCons1_, fConsA_ok, kTup_, fTup_ok, kLst_, fLst_ok, kTru_, fTru_ok, kB_, fB_ok, kNotT_, fNotT_ok, kAndT_, fAndT_ok, kOrT_, fOrT_ok, kIf_, fIf_ok, kAndV_, kOrV_, fAndV_ok, fOrV_ok, kCallB_, fCallB_ok, kCall_, fCall_ok, kCallK_, fCallK_ok, kRev_, fRev_ok, fNoO_ok, fSomeO_ok, kSl3_, kSl2_, kSl1_, fSl_ok, kCh3_, kCh2_, kCh1_, kCh0_, fChain_ok, kMt2_, kMt1_, fMt_ok, fSkip_ok, fSeq_ok, kSet_, fSet_ok, kDrop_, fDrop_ok, kRet_, fRet_ok, fRetN_ok, kIfS_, fIfS_ok, fBrk_ok, fCt_ok, kAug2_, kAug1_, kAsg2_, kAsg1_, fAsg_ok, fPar_ok, gNm_ok, gN0_ok, kC0_, gC0_ok, kSb3_, kSb2_, kSb1_, gSb_ok, kFor_, fFor_ok, kWk_, fWk_ok, kRng1_, fRng1_ok, kRng2_, fRng2_ok, kEnum_, fEnum_ok, kZip_, fZip_ok, kLc2_, kLc1_, fLc_ok, fYes_ok, kQu2_, kQu1_, fQu_ok, leave_same, defK_k, kFinK_ret, kFinK_nx, fVar0_ok, fVarS_ok, defF_ok, kSeq_nx, kSeq_ret, kSeq_brk, kSeq_ct, kSomeO_int, kPar_two, kFin_ret, kFin_nx, add_ii, sub_ii, lt_ii, le_ii, gt_ii, ge_ii, eq_ii, ne_ii, iadd_ii, gBool_b, gTru_b, gNot_b, gNeg_i, gInt_i, gAbs_i, min_ii, max_ii, len_l, len_t, tup_t, tup_l, lst_l, lst_t, newL_p, ix_t0, ix_t1, ix_t2, ix_t3, ix_l0, wk_t, wk_l, vT_t, mkT0, mkT1, mkT2, mkT3, mkT4, mkT5, newL0, newL1, newL2, newL3, sz0, sz1, sz2, sz3, sz4, sz5, tru_t, tru_l, rev_t, rev_l, ok_ok, startE, dBl, dInt, List.map_cons, List.map_nil, List.length_cons, List.length_nil, List.replicate_succ, List.replicate_zero, Nat.reduceAdd, Nat.reduceSub, Nat.reduceLeDiff, List.cons_append, List.nil_append, List.set_cons_zero, List.set_cons_succ, wipeE, Bool.not_true, Bool.not_false, ↓reduceIte, Bool.false_eq_true, decide_true, decide_false, Bool.and_true, Bool.and_false, Bool.true_and, Bool.false_and])
/-! ### k01: the law -/
def repP (n : Nat) (x : PyData) : List PyData := List.replicate n x
theorem mul_r {x : PyData} {k : Int} {n : Nat} {S : Sto} (h : 2 ≤ k ∧ k ≤ 1000) (e : k.toNat = n) : gMul (.p (.tuple [x])) (.p (.int k)) S = .ok (.p (.tuple (repP n x))) S := mul_t h e
theorem d_59 : isRuleP (.tuple [.str "least", .tuple (repP 59 is1)]) = true ∧ fineD (.tuple [.str "least", .tuple (repP 59 is1)]) = true := c_59
theorem d_60 : isRuleP (.tuple [.str "least", .tuple (repP 60 is1)]) = false ∧ fineD (.tuple [.str "least", .tuple (repP 60 is1)]) = true := c_60
theorem d_row : isRuleP (.tuple [.str "row", .tuple (repP 64 (.int 1000)), .tuple [.str "is", .int 0]]) = true ∧ fineD (.tuple [.str "row", .tuple (repP 64 (.int 1000)), .tuple [.str "is", .int 0]]) = true := c_row
theorem law_true {A : Ad} (o : AdOk A) (ns : List Int) : ∃ S, f_law_k01 A [.scr ns] [] = .ok (.p (.bool true)) S := by
  have main : Ok (f_law_k01 A [.scr ns] []) fun x _ => x = .p (.bool true) := by
    unfold f_law_k01
    walk_at "sv"
    refine draw_k (by decide) (by decide) fun o1 o2 D0 => ?_
    walk_at "sv"
    rw [rng_c (n := 4) (by decide) rfl, ok_ok]
    walk_at "sv"
    generalize hr : rngD 0 4 = rs
    have hl : rs.length = 4 := by rw [← hr, rng_len]
    refine for_ok (I := fun i E S1 => ∃ o2 o3 o4 o5 o6 o7, E = [some (.scr ns), some (.ref 1), o2, o3, o4, o5, o6, o7, none, none] ∧ S1.length = 2 ∧ DealS S1 1 0) ⟨none, none, none, none, none, none, rfl, rfl, D0⟩ ?_ ?_
    · rintro i dd E S1 hi ⟨o2, o3, o4, o5, o6, o7, rfl, L1, D1⟩
      walk_at "sv"
      refine of_k D1 (by simp) (by simp) fun i x S2 hx D2 K2 => ?_
      have htop : ∃ top : Int, x = .int top ∧ 0 ≤ top ∧ top ≤ 900 := by
        match i, hx with
        | 0, hx => exact ⟨3, (Option.some.inj hx).symm, by decide, by decide⟩
        | 1, hx => exact ⟨9, (Option.some.inj hx).symm, by decide, by decide⟩
        | 2, hx => exact ⟨900, (Option.some.inj hx).symm, by decide, by decide⟩
        | i + 3, hx => simp at hx
      obtain ⟨top, rfl, t0, t1⟩ := htop
      clear hx
      walk_at "sv"
      refine any_k D2 (by decide) (by decide) fun dv S3 d0 d1 D3 K3 => ?_
      obtain ⟨deep, rfl⟩ : ∃ deep : Nat, dv = deep := ⟨dv.toNat, by omega⟩
      walk_at "sv"
      refine (rule_ok1 (d := 1) (l := 0) (N := 5) (any := true) (by decide) (by decide) t0 t1 4 deep (by omega)).k D3 fun r S4 dr D4 K4 => ?_
      have hd3 : deep ≤ 3 := by omega
      have L4 : S4.length = 2 := by rw [K4.1, K3.1, K2.1, L1]
      have r1 := dr.isRule hd3
      have hm : cMax deep ≤ 19 ∧ bMax deep ≤ 12 := by
        rcases (by omega : deep = 0 ∨ deep = 1 ∨ deep = 2 ∨ deep = 3) with e | e | e | e <;> subst e <;> decide
      have hdep := dr.dep
      have hcnt := dr.cnt
      have hbrs := dr.brs
      have rf := fine_rl _ r (Nat.le_refl _) (by omega) dr.fit
      walk_at "sv"
      rw [show pick [0] [D.p r.toD] = [D.p r.toD] from rfl, isRule_ok _ rf, ok_ok, r1]
      walk_at "sv"
      rw [isn_bb, ok_ok]
      walk_at "sv"
      rw [if_neg (by decide), show pick [0] [D.p r.toD] = [D.p r.toD] from rfl]
      refine branches_k 10 r (by omega) (by omega) ?_
      walk_at "sv"
      have bin := brs_in _ r (Nat.le_refl _) dr.ok
      have shb : Sh (.tuple (r.brs.map .int)) := shInts (fun n hn => by have := bin n hn; omega) (by omega)
      rw [repr_k shb, ok_ok]
      walk_at "sv"
      refine lbranches_k 10 r (by omega) (by omega) ?_
      walk_at "sv"
      rw [repr_k shb, ok_ok]
      walk_at "sv"
      rw [ne_ss (so_ints _), ok_ok]
      walk_at "sv"
      rw [rng_c (n := 4) (by decide) rfl, ok_ok]
      walk_at "sv"
      generalize hr4 : rngD 0 4 = rs4
      refine for_ok (I := fun i E S1 => ∃ o4 o5 o6 o7, E = [some (.scr ns), some (.ref 1), some dd, some (.p r.toD), o4, o5, o6, o7, none, none] ∧ S1.length = 2 ∧ DealS S1 1 0) ⟨_, _, _, _, rfl, L4, D4⟩ ?_ ?_
      · rintro i4 dd4 E S5 hi4 ⟨o4, o5, o6, o7, rfl, L5, D5⟩
        walk_at "sv"
        refine lbranches_k 10 r (by omega) (by omega) ?_
        walk_at "sv"
        refine lc_ok (I := fun i acc S6 => ∃ hs : List Int, hs.length = i ∧ (∀ x ∈ hs, 0 ≤ x ∧ x ≤ 1000) ∧ acc = (hs.map PyData.int).map .p ∧ S6.length = 2 ∧ DealS S6 1 0) (by simp; omega) ⟨[], rfl, by simp, rfl, L5, D5⟩ ?_ ?_
        · rintro i6 dd6 acc S6 hi6 ⟨hs, rfl, hin, rfl, L6, D6⟩
          refine ⟨_, rfl, ?_⟩
          walk_at "sv"
          refine of_k D6 (by simp) (by simp) fun i7 x S7 hx D7 K7 => ?_
          have hmax : ∃ m : Int, x = .int m ∧ 1 ≤ m ∧ m ≤ 1001 := by
            match i7, hx with
            | 0, hx => exact ⟨2, (Option.some.inj hx).symm, by decide, by decide⟩
            | 1, hx => exact ⟨8, (Option.some.inj hx).symm, by decide, by decide⟩
            | 2, hx => exact ⟨1001, (Option.some.inj hx).symm, by decide, by decide⟩
            | i + 3, hx => simp at hx
          obtain ⟨m, rfl, m0, m1⟩ := hmax
          clear hx
          walk_at "sv"
          refine any_k D7 (by omega) (by omega) fun z S8 z0 z1 D8 K8 => ?_
          refine ⟨hs ++ [z], by simp, fun y hy => ?_, by simp, by rw [K8.1, K7.1, L6], D8⟩
          rcases List.mem_append.mp hy with q | q
          · exact hin y q
          · rw [List.mem_singleton.mp q]; omega
        rintro acc S6 ⟨hs, hl6, hin, rfl, L6, D6⟩
        have hlen : hs.length = r.brs.length := by rw [hl6]; simp
        walk_at "sv"
        rw [show pick [1, 0] [D.p (.tuple (hs.map PyData.int)), D.p r.toD] = [D.p r.toD, D.p (.tuple (hs.map PyData.int))] from rfl]
        have tle := tl_le t1 hin 3 r 0 (by omega) dr.ok
        have sht : Sh (.int (tl r hs 0)) := sh_int (by omega)
        refine told_k o t1 (fun x hx => (hin x hx).1) (by omega) (by omega) dr.ok (by omega) ?_
        walk_at "sv"
        rw [repr_k sht, ok_ok]
        walk_at "sv"
        refine ltold_k t1 10 r (by omega) (by omega) (by omega) dr.ok hs (fun x hx => (hin x hx).1) (by omega) ?_
        walk_at "sv"
        rw [repr_k sht, ok_ok]
        walk_at "sv"
        rw [ne_ss (so_int _), ok_ok]
        walk_at "sv"
        exact ⟨_, _, _, _, rfl, L6, D6⟩
      rintro E S5 ⟨o4, o5, o6, o7, rfl, L5, D5⟩
      walk_at "sv"
      refine odd_k ?_
      walk_at "sv"
      refine of_k D5 (by decide) (by rw [odd_len]; decide) fun i9 bad S9 hx D9 K9 => ?_
      have hbad := List.mem_of_getElem? hx
      have bf := List.all_eq_true.mp odd_fine bad hbad
      have bi0 : isRuleP bad = false := by simpa using List.all_eq_true.mp odd_alone bad hbad
      walk_at "sv"
      rw [isRule_ok _ bf, ok_ok, bi0]
      walk_at "sv"
      rw [isn_bb, ok_ok]
      walk_at "sv"
      rw [if_neg (by decide)]
      have hhf : headFine [r.toD, bad] = true := by rw [toD_eq]; rfl
      rw [isRule_ok _ (most_fine hbad rf hhf), ok_ok, most_odd hbad]
      walk_at "sv"
      rw [isn_bb, ok_ok]
      walk_at "sv"
      rw [if_neg (by decide)]
      rw [show gList true [D.p r.toD] S9 = .ok (.p (.list (.str (rlWd r).nm :: rlRest r))) S9 by rw [toD_eq, lst_t, newL_p], ok_ok]
      walk_at "sv"
      rw [isRule_ok _ rfl, ok_ok, show isRuleP (.list (.str (rlWd r).nm :: rlRest r)) = false from rfl]
      walk_at "sv"
      rw [isn_bb, ok_ok]
      walk_at "sv"
      rw [if_neg (by decide)]
      exact ⟨_, _, _, _, _, _, rfl, by rw [K9.1, L5], D9⟩
    rintro E S1 ⟨o2, o3, o4, o5, o6, o7, rfl, L1, D1⟩
    walk_at "sv"
    rw [rng_c (n := 7) (by decide) rfl, ok_ok]
    walk_at "sv"
    generalize hr7 : rngD 0 7 = rs7
    have hl7 : rs7.length = 7 := by rw [← hr7, rng_len]
    refine for_ok (I := fun i E S2 => ∃ o2, E = [some (.scr ns), some (.ref 1), o2, o3, o4, o5, o6, o7, some (.p (deepP i)), none] ∧ S2 = S1) ⟨_, rfl, rfl⟩ ?_ ?_
    · rintro i dd E S2 hi ⟨o2, rfl, rfl⟩
      walk_at "sv"
      exact ⟨_, rfl, trivial⟩
    rintro E S2 ⟨o2, rfl, rfl⟩
    rw [hl7]
    walk_at "sv"
    rw [mul_r (n := 59) (by decide) rfl, ok_ok]
    walk_at "sv"
    rw [isRule_ok _ d_59.2, ok_ok, d_59.1]
    walk_at "sv"
    rw [isn_bb, ok_ok]
    walk_at "sv"
    rw [if_neg (by decide)]
    rw [mul_r (n := 60) (by decide) rfl, ok_ok]
    walk_at "sv"
    rw [isRule_ok _ d_60.2, ok_ok, d_60.1]
    walk_at "sv"
    rw [isn_bb, ok_ok]
    walk_at "sv"
    rw [if_neg (by decide)]
    rw [mul_r (n := 64) (by decide) rfl, ok_ok]
    walk_at "sv"
    rw [isRule_ok _ d_row.2, ok_ok, d_row.1]
    walk_at "sv"
    rw [isn_bb, ok_ok]
    walk_at "sv"
    rw [if_neg (by decide)]
    rw [isRule_ok _ c_deep7.2, ok_ok, c_deep7.1]
    walk_at "sv"
    rw [is_bb, ok_ok]
    walk_at "sv"
    rw [if_pos (by decide)]
    rw [rng_c (n := 12) (by decide) rfl, ok_ok]
    walk_at "sv"
    rw [lc_map (f := hearD) (by rw [rng_len]; decide) (fun d hd => by
      obtain ⟨i, hi⟩ := List.getElem?_of_mem hd
      have := rng_at hi
      subst this
      refine ⟨_, rfl, ?_⟩
      refine Ok.eq ?_
      walk_at "sv"
      trivial), ok_ok]
    simp only [kLc2_, hears_map]
    walk_at "sv"
    rw [isRule_ok _ c_12.2, ok_ok, c_12.1]
    walk_at "sv"
    rw [is_bb, ok_ok]
    walk_at "sv"
    rw [show S2 = [] ++ S2 from rfl, leave_drop (fun e => by subst e; cases L1) (fre_p _ _ _ _), ok_ok]
    rfl
  revert main
  cases f_law_k01 A [.scr ns] [] with
  | ok x S => exact fun h => ⟨S, by rw [show x = .p (.bool true) from h]⟩
  | exc _ _ _ => exact fun h => h.elim
  | bad => exact fun h => h.elim

end SM
set_option linter.all false
set_option maxRecDepth 100000
set_option maxHeartbeats 4000000
namespace K01
open PySem PySem.Spec PyProof.Rows L2 NB RZ SV PD
theorem all_mk {l : PySem.W.OpenLaw} {w : World} {K : PySem.W.Frag} {h : Heap} {mg : Str → Option Value} {fa : Addr} (X : K.In h) (G : h.Ns mainGlobals mg) (hfa : mg "law" = some (.ref fa))
    {f1 f2 f3 f4 f5 f6 f7 f8 f9 f10 f11 f12 f13 f14 f15 f16 f17 f18 f19 f20 f21 f22 f23 f24 f25 f26 f27 f28 f29 f30 f31 : Addr} {od1 an1 od2 an2 od3 an3 od4 an4 od5 an5 od6 an6 od7 an7 od8 an8 od9 an9 od10 an10 od11 an11 od12 an12 od13 an13 od14 an14 od15 an15 od16 an16 od17 an17 od18 an18 od19 an19 od20 an20 od21 an21 od22 an22 od23 an23 od24 an24 od25 an25 od26 an26 od27 an27 od28 an28 od29 an29 od30 an30 od31 an31 : Option Addr} {sl1 sl2 sl3 sl4 sl5 sl6 sl7 sl8 sl9 sl10 sl11 sl12 sl13 sl14 sl15 sl16 sl17 sl18 sl19 sl20 sl21 sl22 sl23 sl24 sl25 sl26 sl27 sl28 sl29 sl30 sl31 : Array (Option Value)} {oc1 kV1 dc1 pm1 cd1 ct1 oc2 kV2 dc2 pm2 cd2 ct2 oc3 kV3 dc3 pm3 cd3 ct3 oc4 kV4 dc4 pm4 cd4 ct4 oc5 kV5 dc5 pm5 cd5 ct5 oc6 kV6 dc6 pm6 cd6 ct6 oc7 kV7 dc7 pm7 cd7 ct7 oc8 kV8 dc8 pm8 cd8 ct8 oc9 kV9 dc9 pm9 cd9 ct9 oc10 kV10 dc10 pm10 cd10 ct10 oc11 kV11 dc11 pm11 cd11 ct11 oc12 kV12 dc12 pm12 cd12 ct12 oc13 kV13 dc13 pm13 cd13 ct13 oc14 kV14 dc14 pm14 cd14 ct14 oc15 kV15 dc15 pm15 cd15 ct15 oc16 kV16 dc16 pm16 cd16 ct16 oc17 kV17 dc17 pm17 cd17 ct17 oc18 kV18 dc18 pm18 cd18 ct18 oc19 kV19 dc19 pm19 cd19 ct19 oc20 kV20 dc20 pm20 cd20 ct20 oc21 kV21 dc21 pm21 cd21 ct21 oc22 kV22 dc22 pm22 cd22 ct22 oc23 kV23 dc23 pm23 cd23 ct23 oc24 kV24 dc24 pm24 cd24 ct24 oc25 kV25 dc25 pm25 cd25 ct25 oc26 kV26 dc26 pm26 cd26 ct26 oc27 kV27 dc27 pm27 cd27 ct27 oc28 kV28 dc28 pm28 cd28 ct28 oc29 kV29 dc29 pm29 cd29 ct29 oc30 kV30 dc30 pm30 cd30 ct30 oc31 kV31 dc31 pm31 cd31 ct31 : Value} {e1 : Addr} {tk2 : Tok} {tk3 : Tok} {ode1 : Option Addr} {sle1 : Array (Option Value)} {nne1 : Nat} {e5 : Addr} {tk6 : Tok} {tk7 : Tok} {tk8 : Tok} {ode5 : Option Addr} {sle5 : Array (Option Value)} {nne5 : Nat} {tk10 : Tok} {tk11 : Tok} {tk12 : Tok} {tk13 : Tok} {dNUMBER_COUNTS : Addr} {tk14 : Tok} {hs15 : Int} {e16 : Addr} {tk17 : Tok} {tk18 : Tok} {ode16 : Option Addr} {sle16 : Array (Option Value)} {nne16 : Nat} {tk20 : Tok} {hs21 : Int} {e22 : Addr} {tk23 : Tok} {tk24 : Tok} {ode22 : Option Addr} {sle22 : Array (Option Value)} {nne22 : Nat} {tk26 : Tok} {hs27 : Int} {e28 : Addr} {tk29 : Tok} {tk30 : Tok} {ode28 : Option Addr} {sle28 : Array (Option Value)} {nne28 : Nat} {tk32 : Tok} {hs33 : Int} {e34 : Addr} {tk35 : Tok} {tk36 : Tok} {ode34 : Option Addr} {sle34 : Array (Option Value)} {nne34 : Nat} {tk38 : Tok} {hs39 : Int} {e40 : Addr} {tk41 : Tok} {tk42 : Tok} {ode40 : Option Addr} {sle40 : Array (Option Value)} {nne40 : Nat} {tk44 : Tok} {hs45 : Int} {e46 : Addr} {tk47 : Tok} {tk48 : Tok} {ode46 : Option Addr} {sle46 : Array (Option Value)} {nne46 : Nat} {tk50 : Tok} {hs51 : Int} {e52 : Addr} {tk53 : Tok} {tk54 : Tok} {ode52 : Option Addr} {sle52 : Array (Option Value)} {nne52 : Nat} {tk56 : Tok} {hs57 : Int} {e58 : Addr} {tk59 : Tok} {tk60 : Tok} {ode58 : Option Addr} {sle58 : Array (Option Value)} {nne58 : Nat} {tk62 : Tok} {hs63 : Int} {e64 : Addr} {tk65 : Tok} {tk66 : Tok} {ode64 : Option Addr} {sle64 : Array (Option Value)} {nne64 : Nat} {tk68 : Tok} {hs69 : Int} {e70 : Addr} {tk71 : Tok} {tk72 : Tok} {ode70 : Option Addr} {sle70 : Array (Option Value)} {nne70 : Nat} {nnNUMBER_COUNTS : Nat} {dTELLING : Addr} {tk74 : Tok} {hs75 : Int} {tk76 : Tok} {hs77 : Int} {tk78 : Tok} {hs79 : Int} {tk80 : Tok} {hs81 : Int} {tk82 : Tok} {hs83 : Int} {tk84 : Tok} {hs85 : Int} {tk86 : Tok} {hs87 : Int} {tk88 : Tok} {hs89 : Int} {tk90 : Tok} {hs91 : Int} {tk92 : Tok} {hs93 : Int} {nnTELLING : Nat}
    (a1 : PySem.W.nsIn K mainGlobals "is_integer" = some (some (.ref f1))) (l1 : K.lookup f1 = some ⟨oc1, od1, .func (PySem.W.fnOf "is_integer" "is_integer" (defArgs s_is_integer) (defBody s_is_integer) (defScope s_is_integer) .none kV1 dc1 pm1 an1 cd1 ct1), sl1⟩) (c1 : PySem.W.codeIn K cd1 "is_integer" = true) (k1 : PySem.W.keepIn K (.ref f1) = true)
    (a2 : PySem.W.nsIn K mainGlobals "is_integer_in" = some (some (.ref f2))) (l2 : K.lookup f2 = some ⟨oc2, od2, .func (PySem.W.fnOf "is_integer_in" "is_integer_in" (defArgs s_is_integer_in) (defBody s_is_integer_in) (defScope s_is_integer_in) .none kV2 dc2 pm2 an2 cd2 ct2), sl2⟩) (c2 : PySem.W.codeIn K cd2 "is_integer_in" = true) (k2 : PySem.W.keepIn K (.ref f2) = true)
    (a3 : PySem.W.nsIn K mainGlobals "least_number" = some (some (.ref f3))) (l3 : K.lookup f3 = some ⟨oc3, od3, .func (PySem.W.fnOf "least_number" "least_number" (defArgs s_least_number) (defBody s_least_number) (defScope s_least_number) .none kV3 dc3 pm3 an3 cd3 ct3), sl3⟩) (c3 : PySem.W.codeIn K cd3 "least_number" = true) (k3 : PySem.W.keepIn K (.ref f3) = true)
    (a4 : PySem.W.nsIn K mainGlobals "inner_rules" = some (some (.ref f4))) (l4 : K.lookup f4 = some ⟨oc4, od4, .func (PySem.W.fnOf "inner_rules" "inner_rules" (defArgs s_inner_rules) (defBody s_inner_rules) (defScope s_inner_rules) .none kV4 dc4 pm4 an4 cd4 ct4), sl4⟩) (c4 : PySem.W.codeIn K cd4 "inner_rules" = true) (k4 : PySem.W.keepIn K (.ref f4) = true)
    (a5 : PySem.W.nsIn K mainGlobals "_numbers_fit" = some (some (.ref f5))) (l5 : K.lookup f5 = some ⟨oc5, od5, .func (PySem.W.fnOf "_numbers_fit" "_numbers_fit" (defArgs s_numbers_fit) (defBody s_numbers_fit) (defScope s_numbers_fit) .none kV5 dc5 pm5 an5 cd5 ct5), sl5⟩) (c5 : PySem.W.codeIn K cd5 "_numbers_fit" = true) (k5 : PySem.W.keepIn K (.ref f5) = true)
    (a6 : PySem.W.nsIn K mainGlobals "_has_form" = some (some (.ref f6))) (l6 : K.lookup f6 = some ⟨oc6, od6, .func (PySem.W.fnOf "_has_form" "_has_form" (defArgs s_has_form) (defBody s_has_form) (defScope s_has_form) .none kV6 dc6 pm6 an6 cd6 ct6), sl6⟩) (c6 : PySem.W.codeIn K cd6 "_has_form" = true) (k6 : PySem.W.keepIn K (.ref f6) = true)
    (a7 : PySem.W.nsIn K mainGlobals "is_rule" = some (some (.ref f7))) (l7 : K.lookup f7 = some ⟨oc7, od7, .func (PySem.W.fnOf "is_rule" "is_rule" (defArgs s_is_rule) (defBody s_is_rule) (defScope s_is_rule) .none kV7 dc7 pm7 an7 cd7 ct7), sl7⟩) (c7 : PySem.W.codeIn K cd7 "is_rule" = true) (k7 : PySem.W.keepIn K (.ref f7) = true)
    (a8 : PySem.W.nsIn K mainGlobals "branches" = some (some (.ref f8))) (l8 : K.lookup f8 = some ⟨oc8, od8, .func (PySem.W.fnOf "branches" "branches" (defArgs s_branches) (defBody s_branches) (defScope s_branches) .none kV8 dc8 pm8 an8 cd8 ct8), sl8⟩) (c8 : PySem.W.codeIn K cd8 "branches" = true) (k8 : PySem.W.keepIn K (.ref f8) = true)
    (a9 : PySem.W.nsIn K mainGlobals "_least" = some (some (.ref f9))) (l9 : K.lookup f9 = some ⟨oc9, od9, .func (PySem.W.fnOf "_least" "_least" (defArgs s_least) (defBody s_least) (defScope s_least) .none kV9 dc9 pm9 an9 cd9 ct9), sl9⟩) (c9 : PySem.W.codeIn K cd9 "_least" = true) (k9 : PySem.W.keepIn K (.ref f9) = true)
    (a10 : PySem.W.nsIn K mainGlobals "_most" = some (some (.ref f10))) (l10 : K.lookup f10 = some ⟨oc10, od10, .func (PySem.W.fnOf "_most" "_most" (defArgs s_most) (defBody s_most) (defScope s_most) .none kV10 dc10 pm10 an10 cd10 ct10), sl10⟩) (c10 : PySem.W.codeIn K cd10 "_most" = true) (k10 : PySem.W.keepIn K (.ref f10) = true)
    (a11 : PySem.W.nsIn K mainGlobals "_middle" = some (some (.ref f11))) (l11 : K.lookup f11 = some ⟨oc11, od11, .func (PySem.W.fnOf "_middle" "_middle" (defArgs s_middle) (defBody s_middle) (defScope s_middle) .none kV11 dc11 pm11 an11 cd11 ct11), sl11⟩) (c11 : PySem.W.codeIn K cd11 "_middle" = true) (k11 : PySem.W.keepIn K (.ref f11) = true)
    (a12 : PySem.W.nsIn K mainGlobals "_sum" = some (some (.ref f12))) (l12 : K.lookup f12 = some ⟨oc12, od12, .func (PySem.W.fnOf "_sum" "_sum" (defArgs s_sum) (defBody s_sum) (defScope s_sum) .none kV12 dc12 pm12 an12 cd12 ct12), sl12⟩) (c12 : PySem.W.codeIn K cd12 "_sum" = true) (k12 : PySem.W.keepIn K (.ref f12) = true)
    (a13 : PySem.W.nsIn K mainGlobals "_times" = some (some (.ref f13))) (l13 : K.lookup f13 = some ⟨oc13, od13, .func (PySem.W.fnOf "_times" "_times" (defArgs s_times) (defBody s_times) (defScope s_times) .none kV13 dc13 pm13 an13 cd13 ct13), sl13⟩) (c13 : PySem.W.codeIn K cd13 "_times" = true) (k13 : PySem.W.keepIn K (.ref f13) = true)
    (a14 : PySem.W.nsIn K mainGlobals "_part" = some (some (.ref f14))) (l14 : K.lookup f14 = some ⟨oc14, od14, .func (PySem.W.fnOf "_part" "_part" (defArgs s_part) (defBody s_part) (defScope s_part) .none kV14 dc14 pm14 an14 cd14 ct14), sl14⟩) (c14 : PySem.W.codeIn K cd14 "_part" = true) (k14 : PySem.W.keepIn K (.ref f14) = true)
    (a15 : PySem.W.nsIn K mainGlobals "_clip" = some (some (.ref f15))) (l15 : K.lookup f15 = some ⟨oc15, od15, .func (PySem.W.fnOf "_clip" "_clip" (defArgs s_clip) (defBody s_clip) (defScope s_clip) .none kV15 dc15 pm15 an15 cd15 ct15), sl15⟩) (c15 : PySem.W.codeIn K cd15 "_clip" = true) (k15 : PySem.W.keepIn K (.ref f15) = true)
    (a16 : PySem.W.nsIn K mainGlobals "_from" = some (some (.ref f16))) (l16 : K.lookup f16 = some ⟨oc16, od16, .func (PySem.W.fnOf "_from" "_from" (defArgs s_from) (defBody s_from) (defScope s_from) .none kV16 dc16 pm16 an16 cd16 ct16), sl16⟩) (c16 : PySem.W.codeIn K cd16 "_from" = true) (k16 : PySem.W.keepIn K (.ref f16) = true)
    (a17 : PySem.W.nsIn K mainGlobals "_bar" = some (some (.ref f17))) (l17 : K.lookup f17 = some ⟨oc17, od17, .func (PySem.W.fnOf "_bar" "_bar" (defArgs s_bar) (defBody s_bar) (defScope s_bar) .none kV17 dc17 pm17 an17 cd17 ct17), sl17⟩) (c17 : PySem.W.codeIn K cd17 "_bar" = true) (k17 : PySem.W.keepIn K (.ref f17) = true)
    (a18 : PySem.W.nsIn K mainGlobals "_row" = some (some (.ref f18))) (l18 : K.lookup f18 = some ⟨oc18, od18, .func (PySem.W.fnOf "_row" "_row" (defArgs s_row) (defBody s_row) (defScope s_row) .none kV18 dc18 pm18 an18 cd18 ct18), sl18⟩) (c18 : PySem.W.codeIn K cd18 "_row" = true) (k18 : PySem.W.keepIn K (.ref f18) = true)
    (a19 : PySem.W.nsIn K mainGlobals "told_of" = some (some (.ref f19))) (l19 : K.lookup f19 = some ⟨oc19, od19, .func (PySem.W.fnOf "told_of" "told_of" (defArgs s_told_of) (defBody s_told_of) (defScope s_told_of) .none kV19 dc19 pm19 an19 cd19 ct19), sl19⟩) (c19 : PySem.W.codeIn K cd19 "told_of" = true) (k19 : PySem.W.keepIn K (.ref f19) = true)
    (a20 : PySem.W.nsIn K mainGlobals "_told_from" = some (some (.ref f20))) (l20 : K.lookup f20 = some ⟨oc20, od20, .func (PySem.W.fnOf "_told_from" "_told_from" (defArgs s_told_from) (defBody s_told_from) (defScope s_told_from) .none kV20 dc20 pm20 an20 cd20 ct20), sl20⟩) (c20 : PySem.W.codeIn K cd20 "_told_from" = true) (k20 : PySem.W.keepIn K (.ref f20) = true)
    (a21 : PySem.W.nsIn K mainGlobals "told" = some (some (.ref f21))) (l21 : K.lookup f21 = some ⟨oc21, od21, .func (PySem.W.fnOf "told" "told" (defArgs s_told) (defBody s_told) (defScope s_told) .none kV21 dc21 pm21 an21 cd21 ct21), sl21⟩) (c21 : PySem.W.codeIn K cd21 "told" = true) (k21 : PySem.W.keepIn K (.ref f21) = true)
    (a22 : PySem.W.nsIn K mainGlobals "_law_draw" = some (some (.ref f22))) (l22 : K.lookup f22 = some ⟨oc22, od22, .func (PySem.W.fnOf "_law_draw" "_law_draw" (defArgs s_law_draw) (defBody s_law_draw) (defScope s_law_draw) .none kV22 dc22 pm22 an22 cd22 ct22), sl22⟩) (c22 : PySem.W.codeIn K cd22 "_law_draw" = true) (k22 : PySem.W.keepIn K (.ref f22) = true)
    (a23 : PySem.W.nsIn K mainGlobals "_law_any" = some (some (.ref f23))) (l23 : K.lookup f23 = some ⟨oc23, od23, .func (PySem.W.fnOf "_law_any" "_law_any" (defArgs s_law_any) (defBody s_law_any) (defScope s_law_any) .none kV23 dc23 pm23 an23 cd23 ct23), sl23⟩) (c23 : PySem.W.codeIn K cd23 "_law_any" = true) (k23 : PySem.W.keepIn K (.ref f23) = true)
    (a24 : PySem.W.nsIn K mainGlobals "_law_of" = some (some (.ref f24))) (l24 : K.lookup f24 = some ⟨oc24, od24, .func (PySem.W.fnOf "_law_of" "_law_of" (defArgs s_law_of) (defBody s_law_of) (defScope s_law_of) .none kV24 dc24 pm24 an24 cd24 ct24), sl24⟩) (c24 : PySem.W.codeIn K cd24 "_law_of" = true) (k24 : PySem.W.keepIn K (.ref f24) = true)
    (a25 : PySem.W.nsIn K mainGlobals "_law_rule" = some (some (.ref f25))) (l25 : K.lookup f25 = some ⟨oc25, od25, .func (PySem.W.fnOf "_law_rule" "_law_rule" (defArgs s_law_rule_k01) (defBody s_law_rule_k01) (defScope s_law_rule_k01) .none kV25 dc25 pm25 an25 cd25 ct25), sl25⟩) (c25 : PySem.W.codeIn K cd25 "_law_rule" = true) (k25 : PySem.W.keepIn K (.ref f25) = true)
    (a26 : PySem.W.nsIn K mainGlobals "_law_parts" = some (some (.ref f26))) (l26 : K.lookup f26 = some ⟨oc26, od26, .func (PySem.W.fnOf "_law_parts" "_law_parts" (defArgs s_law_parts) (defBody s_law_parts) (defScope s_law_parts) .none kV26 dc26 pm26 an26 cd26 ct26), sl26⟩) (c26 : PySem.W.codeIn K cd26 "_law_parts" = true) (k26 : PySem.W.keepIn K (.ref f26) = true)
    (a27 : PySem.W.nsIn K mainGlobals "_law_branches" = some (some (.ref f27))) (l27 : K.lookup f27 = some ⟨oc27, od27, .func (PySem.W.fnOf "_law_branches" "_law_branches" (defArgs s_law_branches) (defBody s_law_branches) (defScope s_law_branches) .none kV27 dc27 pm27 an27 cd27 ct27), sl27⟩) (c27 : PySem.W.codeIn K cd27 "_law_branches" = true) (k27 : PySem.W.keepIn K (.ref f27) = true)
    (a28 : PySem.W.nsIn K mainGlobals "_law_made" = some (some (.ref f28))) (l28 : K.lookup f28 = some ⟨oc28, od28, .func (PySem.W.fnOf "_law_made" "_law_made" (defArgs s_law_made) (defBody s_law_made) (defScope s_law_made) .none kV28 dc28 pm28 an28 cd28 ct28), sl28⟩) (c28 : PySem.W.codeIn K cd28 "_law_made" = true) (k28 : PySem.W.keepIn K (.ref f28) = true)
    (a29 : PySem.W.nsIn K mainGlobals "_law_told" = some (some (.ref f29))) (l29 : K.lookup f29 = some ⟨oc29, od29, .func (PySem.W.fnOf "_law_told" "_law_told" (defArgs s_law_told) (defBody s_law_told) (defScope s_law_told) .none kV29 dc29 pm29 an29 cd29 ct29), sl29⟩) (c29 : PySem.W.codeIn K cd29 "_law_told" = true) (k29 : PySem.W.keepIn K (.ref f29) = true)
    (a30 : PySem.W.nsIn K mainGlobals "_law_odd_rules" = some (some (.ref f30))) (l30 : K.lookup f30 = some ⟨oc30, od30, .func (PySem.W.fnOf "_law_odd_rules" "_law_odd_rules" (defArgs s_law_odd_rules) (defBody s_law_odd_rules) (defScope s_law_odd_rules) .none kV30 dc30 pm30 an30 cd30 ct30), sl30⟩) (c30 : PySem.W.codeIn K cd30 "_law_odd_rules" = true) (k30 : PySem.W.keepIn K (.ref f30) = true)
    (a31 : PySem.W.nsIn K mainGlobals "law" = some (some (.ref f31))) (l31 : K.lookup f31 = some ⟨oc31, od31, .func (PySem.W.fnOf "law" "law" (defArgs s_law_k01) (defBody s_law_k01) (defScope s_law_k01) .none kV31 dc31 pm31 an31 cd31 ct31), sl31⟩) (c31 : PySem.W.codeIn K cd31 "law" = true) (k31 : PySem.W.keepIn K (.ref f31) = true)
    (z1 : PySem.W.nsIn K mainGlobals "abs" = some none)
    (z2 : PySem.W.nsIn K mainGlobals "bool" = some none)
    (z3 : PySem.W.nsIn K mainGlobals "enumerate" = some none)
    (z4 : PySem.W.nsIn K mainGlobals "int" = some none)
    (z5 : PySem.W.nsIn K mainGlobals "isinstance" = some none)
    (z6 : PySem.W.nsIn K mainGlobals "len" = some none)
    (z7 : PySem.W.nsIn K mainGlobals "list" = some none)
    (z8 : PySem.W.nsIn K mainGlobals "max" = some none)
    (z9 : PySem.W.nsIn K mainGlobals "min" = some none)
    (z10 : PySem.W.nsIn K mainGlobals "range" = some none)
    (z11 : PySem.W.nsIn K mainGlobals "repr" = some none)
    (z12 : PySem.W.nsIn K mainGlobals "sorted" = some none)
    (z13 : PySem.W.nsIn K mainGlobals "str" = some none)
    (z14 : PySem.W.nsIn K mainGlobals "sum" = some none)
    (z15 : PySem.W.nsIn K mainGlobals "tuple" = some none)
    (u_LEAF_WORDS : PySem.W.nsIn K mainGlobals "LEAF_WORDS" = some (some (.ref e1)))
    (we1 : K.lookup e1 = some ⟨.type "tuple", ode1, .seq #[.str "is" tk2, .str "hear" tk3] nne1, sle1⟩)
    (u_LIST_WORDS : PySem.W.nsIn K mainGlobals "LIST_WORDS" = some (some (.ref e5)))
    (we5 : K.lookup e5 = some ⟨.type "tuple", ode5, .seq #[.str "least" tk6, .str "most" tk7, .str "add" tk8] nne5, sle5⟩)
    (u_MOST_BRANCHES : PySem.W.nsIn K mainGlobals "MOST_BRANCHES" = some (some (.int 12 tk10)))
    (u_MOST_LEVELS : PySem.W.nsIn K mainGlobals "MOST_LEVELS" = some (some (.int 8 tk11)))
    (u_MOST_NUMBER : PySem.W.nsIn K mainGlobals "MOST_NUMBER" = some (some (.int 1000 tk12)))
    (u_MOST_RULES : PySem.W.nsIn K mainGlobals "MOST_RULES" = some (some (.int 60 tk13)))
    (u_NUMBER_COUNTS : PySem.W.nsIn K mainGlobals "NUMBER_COUNTS" = some (some (.ref dNUMBER_COUNTS)))
    (w_NUMBER_COUNTS : K.lookup dNUMBER_COUNTS = some ⟨.type "dict", none, .dict #[⟨hs15, .str "least" tk14, .ref e16⟩, ⟨hs21, .str "most" tk20, .ref e22⟩, ⟨hs27, .str "add" tk26, .ref e28⟩, ⟨hs33, .str "middle" tk32, .ref e34⟩, ⟨hs39, .str "times" tk38, .ref e40⟩, ⟨hs45, .str "part" tk44, .ref e46⟩, ⟨hs51, .str "clip" tk50, .ref e52⟩, ⟨hs57, .str "from" tk56, .ref e58⟩, ⟨hs63, .str "bar" tk62, .ref e64⟩, ⟨hs69, .str "row" tk68, .ref e70⟩] nnNUMBER_COUNTS, #[]⟩)
    (we70 : K.lookup e70 = some ⟨.type "tuple", ode70, .seq #[.int 1 tk71, .int 64 tk72] nne70, sle70⟩)
    (we64 : K.lookup e64 = some ⟨.type "tuple", ode64, .seq #[.int 3 tk65, .int 3 tk66] nne64, sle64⟩)
    (we58 : K.lookup e58 = some ⟨.type "tuple", ode58, .seq #[.int 1 tk59, .int 1 tk60] nne58, sle58⟩)
    (we52 : K.lookup e52 = some ⟨.type "tuple", ode52, .seq #[.int 2 tk53, .int 2 tk54] nne52, sle52⟩)
    (we46 : K.lookup e46 = some ⟨.type "tuple", ode46, .seq #[.int 1 tk47, .int 1 tk48] nne46, sle46⟩)
    (we40 : K.lookup e40 = some ⟨.type "tuple", ode40, .seq #[.int 1 tk41, .int 1 tk42] nne40, sle40⟩)
    (we34 : K.lookup e34 = some ⟨.type "tuple", ode34, .seq #[.int 0 tk35, .int 0 tk36] nne34, sle34⟩)
    (we28 : K.lookup e28 = some ⟨.type "tuple", ode28, .seq #[.int 0 tk29, .int 0 tk30] nne28, sle28⟩)
    (we22 : K.lookup e22 = some ⟨.type "tuple", ode22, .seq #[.int 0 tk23, .int 0 tk24] nne22, sle22⟩)
    (we16 : K.lookup e16 = some ⟨.type "tuple", ode16, .seq #[.int 0 tk17, .int 0 tk18] nne16, sle16⟩)
    (q_NUMBER_COUNTS : PySem.W.KeysLit w.params #[⟨hs15, .str "least" tk14, .ref e16⟩, ⟨hs21, .str "most" tk20, .ref e22⟩, ⟨hs27, .str "add" tk26, .ref e28⟩, ⟨hs33, .str "middle" tk32, .ref e34⟩, ⟨hs39, .str "times" tk38, .ref e40⟩, ⟨hs45, .str "part" tk44, .ref e46⟩, ⟨hs51, .str "clip" tk50, .ref e52⟩, ⟨hs57, .str "from" tk56, .ref e58⟩, ⟨hs63, .str "bar" tk62, .ref e64⟩, ⟨hs69, .str "row" tk68, .ref e70⟩].toList)
    (o_NUMBER_COUNTS : (dNUMBER_COUNTS == sysModules) = false)
    (u_TELLING : PySem.W.nsIn K mainGlobals "TELLING" = some (some (.ref dTELLING)))
    (w_TELLING : K.lookup dTELLING = some ⟨.type "dict", none, .dict #[⟨hs75, .str "least" tk74, .ref f9⟩, ⟨hs77, .str "most" tk76, .ref f10⟩, ⟨hs79, .str "middle" tk78, .ref f11⟩, ⟨hs81, .str "add" tk80, .ref f12⟩, ⟨hs83, .str "times" tk82, .ref f13⟩, ⟨hs85, .str "part" tk84, .ref f14⟩, ⟨hs87, .str "clip" tk86, .ref f15⟩, ⟨hs89, .str "from" tk88, .ref f16⟩, ⟨hs91, .str "bar" tk90, .ref f17⟩, ⟨hs93, .str "row" tk92, .ref f18⟩] nnTELLING, #[]⟩)
    (q_TELLING : PySem.W.KeysLit w.params #[⟨hs75, .str "least" tk74, .ref f9⟩, ⟨hs77, .str "most" tk76, .ref f10⟩, ⟨hs79, .str "middle" tk78, .ref f11⟩, ⟨hs81, .str "add" tk80, .ref f12⟩, ⟨hs83, .str "times" tk82, .ref f13⟩, ⟨hs85, .str "part" tk84, .ref f14⟩, ⟨hs87, .str "clip" tk86, .ref f15⟩, ⟨hs89, .str "from" tk88, .ref f16⟩, ⟨hs91, .str "bar" tk90, .ref f17⟩, ⟨hs93, .str "row" tk92, .ref f18⟩].toList)
    (o_TELLING : (dTELLING == sysModules) = false)
    (nd : [f9, f10, f11, f12, f13, f14, f15, f16, f17, f18].Nodup)
    : ∃ fd : FuncData, (∀ (s : Shared) (v : Value), BindsTo s fd ⟨[v], []⟩ [("script", v)]) ∧ ∀ base : Heap, K.In base → base.Ns mainGlobals mg → FnA callerA l.prog w K mg base CX0 fa fd ["script"] (SV.spLaw K) := by
  have e := hfa.symm.trans (PySem.W.mg_of X G a31)
  cases e
  have F1 := fun_mk (st := s_is_integer) l1 c1 k1
  have F2 := fun_mk (st := s_is_integer_in) l2 c2 k2
  have F3 := fun_mk (st := s_least_number) l3 c3 k3
  have F4 := fun_mk (st := s_inner_rules) l4 c4 k4
  have F5 := fun_mk (st := s_numbers_fit) l5 c5 k5
  have F6 := fun_mk (st := s_has_form) l6 c6 k6
  have F7 := fun_mk (st := s_is_rule) l7 c7 k7
  have F8 := fun_mk (st := s_branches) l8 c8 k8
  have F9 := fun_mk (st := s_least) l9 c9 k9
  have F10 := fun_mk (st := s_most) l10 c10 k10
  have F11 := fun_mk (st := s_middle) l11 c11 k11
  have F12 := fun_mk (st := s_sum) l12 c12 k12
  have F13 := fun_mk (st := s_times) l13 c13 k13
  have F14 := fun_mk (st := s_part) l14 c14 k14
  have F15 := fun_mk (st := s_clip) l15 c15 k15
  have F16 := fun_mk (st := s_from) l16 c16 k16
  have F17 := fun_mk (st := s_bar) l17 c17 k17
  have F18 := fun_mk (st := s_row) l18 c18 k18
  have F19 := fun_mk (st := s_told_of) l19 c19 k19
  have F20 := fun_mk (st := s_told_from) l20 c20 k20
  have F21 := fun_mk (st := s_told) l21 c21 k21
  have F22 := fun_mk (st := s_law_draw) l22 c22 k22
  have F23 := fun_mk (st := s_law_any) l23 c23 k23
  have F24 := fun_mk (st := s_law_of) l24 c24 k24
  have F25 := fun_mk (st := s_law_rule_k01) l25 c25 k25
  have F26 := fun_mk (st := s_law_parts) l26 c26 k26
  have F27 := fun_mk (st := s_law_branches) l27 c27 k27
  have F28 := fun_mk (st := s_law_made) l28 c28 k28
  have F29 := fun_mk (st := s_law_told) l29 c29 k29
  have F30 := fun_mk (st := s_law_odd_rules) l30 c30 k30
  have F31 := fun_mk (st := s_law_k01) l31 c31 k31
  have b1 := F1.binds (ps := ["value"]) fun _ _ _ _ _ _ us hl => match us, hl with | [_], _ => rfl
  have b2 := F2.binds (ps := ["value", "low", "high"]) fun _ _ _ _ _ _ us hl => match us, hl with | [_, _, _], _ => rfl
  have b3 := F3.binds (ps := ["word", "numbers"]) fun _ _ _ _ _ _ us hl => match us, hl with | [_, _], _ => rfl
  have b4 := F4.binds (ps := ["rule"]) fun _ _ _ _ _ _ us hl => match us, hl with | [_], _ => rfl
  have b5 := F5.binds (ps := ["word", "numbers"]) fun _ _ _ _ _ _ us hl => match us, hl with | [_, _], _ => rfl
  have b6 := F6.binds (ps := ["value"]) fun _ _ _ _ _ _ us hl => match us, hl with | [_], _ => rfl
  have b7 := F7.binds (ps := ["value"]) fun _ _ _ _ _ _ us hl => match us, hl with | [_], _ => rfl
  have b8 := F8.binds (ps := ["rule"]) fun _ _ _ _ _ _ us hl => match us, hl with | [_], _ => rfl
  have b9 := F9.binds (ps := ["rule", "worths"]) fun _ _ _ _ _ _ us hl => match us, hl with | [_, _], _ => rfl
  have b10 := F10.binds (ps := ["rule", "worths"]) fun _ _ _ _ _ _ us hl => match us, hl with | [_, _], _ => rfl
  have b11 := F11.binds (ps := ["rule", "worths"]) fun _ _ _ _ _ _ us hl => match us, hl with | [_, _], _ => rfl
  have b12 := F12.binds (ps := ["rule", "worths"]) fun _ _ _ _ _ _ us hl => match us, hl with | [_, _], _ => rfl
  have b13 := F13.binds (ps := ["rule", "worths"]) fun _ _ _ _ _ _ us hl => match us, hl with | [_, _], _ => rfl
  have b14 := F14.binds (ps := ["rule", "worths"]) fun _ _ _ _ _ _ us hl => match us, hl with | [_, _], _ => rfl
  have b15 := F15.binds (ps := ["rule", "worths"]) fun _ _ _ _ _ _ us hl => match us, hl with | [_, _], _ => rfl
  have b16 := F16.binds (ps := ["rule", "worths"]) fun _ _ _ _ _ _ us hl => match us, hl with | [_, _], _ => rfl
  have b17 := F17.binds (ps := ["rule", "worths"]) fun _ _ _ _ _ _ us hl => match us, hl with | [_, _], _ => rfl
  have b18 := F18.binds (ps := ["rule", "worths"]) fun _ _ _ _ _ _ us hl => match us, hl with | [_, _], _ => rfl
  have b19 := F19.binds (ps := ["rule", "worths"]) fun _ _ _ _ _ _ us hl => match us, hl with | [_, _], _ => rfl
  have b20 := F20.binds (ps := ["rule", "heard", "at"]) fun _ _ _ _ _ _ us hl => match us, hl with | [_, _, _], _ => rfl
  have b21 := F21.binds (ps := ["rule", "heard"]) fun _ _ _ _ _ _ us hl => match us, hl with | [_, _], _ => rfl
  have b22 := F22.binds (ps := ["script", "salt"]) fun _ _ _ _ _ _ us hl => match us, hl with | [_, _], _ => rfl
  have b23 := F23.binds (ps := ["deal", "bound"]) fun _ _ _ _ _ _ us hl => match us, hl with | [_, _], _ => rfl
  have b24 := F24.binds (ps := ["deal", "some"]) fun _ _ _ _ _ _ us hl => match us, hl with | [_, _], _ => rfl
  have b25 := F25.binds (ps := ["deal", "n", "top", "deep", "any_row"]) fun _ _ _ _ _ _ us hl => match us, hl with | [_, _, _, _, _], _ => rfl
  have b26 := F26.binds (ps := ["rule"]) fun _ _ _ _ _ _ us hl => match us, hl with | [_], _ => rfl
  have b27 := F27.binds (ps := ["rule"]) fun _ _ _ _ _ _ us hl => match us, hl with | [_], _ => rfl
  have b28 := F28.binds (ps := ["rule", "some"]) fun _ _ _ _ _ _ us hl => match us, hl with | [_, _], _ => rfl
  have b29 := F29.binds (ps := ["rule", "heard"]) fun _ _ _ _ _ _ us hl => match us, hl with | [_, _], _ => rfl
  have b30 := F30.binds (ps := []) fun _ _ _ _ _ _ us hl => match us, hl with | [], _ => rfl
  have g1 := PySem.W.mg_of X G a1
  have g2 := PySem.W.mg_of X G a2
  have g3 := PySem.W.mg_of X G a3
  have g4 := PySem.W.mg_of X G a4
  have g5 := PySem.W.mg_of X G a5
  have g6 := PySem.W.mg_of X G a6
  have g7 := PySem.W.mg_of X G a7
  have g8 := PySem.W.mg_of X G a8
  have g9 := PySem.W.mg_of X G a9
  have g10 := PySem.W.mg_of X G a10
  have g11 := PySem.W.mg_of X G a11
  have g12 := PySem.W.mg_of X G a12
  have g13 := PySem.W.mg_of X G a13
  have g14 := PySem.W.mg_of X G a14
  have g15 := PySem.W.mg_of X G a15
  have g16 := PySem.W.mg_of X G a16
  have g17 := PySem.W.mg_of X G a17
  have g18 := PySem.W.mg_of X G a18
  have g19 := PySem.W.mg_of X G a19
  have g20 := PySem.W.mg_of X G a20
  have g21 := PySem.W.mg_of X G a21
  have g22 := PySem.W.mg_of X G a22
  have g23 := PySem.W.mg_of X G a23
  have g24 := PySem.W.mg_of X G a24
  have g25 := PySem.W.mg_of X G a25
  have g26 := PySem.W.mg_of X G a26
  have g27 := PySem.W.mg_of X G a27
  have g28 := PySem.W.mg_of X G a28
  have g29 := PySem.W.mg_of X G a29
  have g30 := PySem.W.mg_of X G a30
  have g31 := PySem.W.mg_of X G a31
  have n1 := PySem.W.mg_none_of X G z1
  have n2 := PySem.W.mg_none_of X G z2
  have n3 := PySem.W.mg_none_of X G z3
  have n4 := PySem.W.mg_none_of X G z4
  have n5 := PySem.W.mg_none_of X G z5
  have n6 := PySem.W.mg_none_of X G z6
  have n7 := PySem.W.mg_none_of X G z7
  have n8 := PySem.W.mg_none_of X G z8
  have n9 := PySem.W.mg_none_of X G z9
  have n10 := PySem.W.mg_none_of X G z10
  have n11 := PySem.W.mg_none_of X G z11
  have n12 := PySem.W.mg_none_of X G z12
  have n13 := PySem.W.mg_none_of X G z13
  have n14 := PySem.W.mg_none_of X G z14
  have n15 := PySem.W.mg_none_of X G z15
  refine ⟨PySem.W.fnOf "law" "law" (defArgs s_law_k01) (defBody s_law_k01) (defScope s_law_k01) .none kV31 dc31 pm31 an31 cd31 ct31, fun s v => .of_eq rfl, fun base _ _ => ?_⟩
  have h4 := rp_tup we1 (show 2 ≤ sizeLine by decide) (vs := [.str "is", .str "hear"]) (.cons ⟨_, rfl⟩ (.cons ⟨_, rfl⟩ .nil)) (fun H w => (.cons (.str _) (.cons (.str _) .nil)))
  have h9 := rp_tup we5 (show 3 ≤ sizeLine by decide) (vs := [.str "least", .str "most", .str "add"]) (.cons ⟨_, rfl⟩ (.cons ⟨_, rfl⟩ (.cons ⟨_, rfl⟩ .nil))) (fun H w => (.cons (.str _) (.cons (.str _) (.cons (.str _) .nil))))
  have h19 := rp_tup we16 (show 2 ≤ sizeLine by decide) (vs := [.int 0, .int 0]) (.cons ⟨_, rfl⟩ (.cons ⟨_, rfl⟩ .nil)) (fun H w => (.cons (.int _) (.cons (.int _) .nil)))
  have h25 := rp_tup we22 (show 2 ≤ sizeLine by decide) (vs := [.int 0, .int 0]) (.cons ⟨_, rfl⟩ (.cons ⟨_, rfl⟩ .nil)) (fun H w => (.cons (.int _) (.cons (.int _) .nil)))
  have h31 := rp_tup we28 (show 2 ≤ sizeLine by decide) (vs := [.int 0, .int 0]) (.cons ⟨_, rfl⟩ (.cons ⟨_, rfl⟩ .nil)) (fun H w => (.cons (.int _) (.cons (.int _) .nil)))
  have h37 := rp_tup we34 (show 2 ≤ sizeLine by decide) (vs := [.int 0, .int 0]) (.cons ⟨_, rfl⟩ (.cons ⟨_, rfl⟩ .nil)) (fun H w => (.cons (.int _) (.cons (.int _) .nil)))
  have h43 := rp_tup we40 (show 2 ≤ sizeLine by decide) (vs := [.int 1, .int 1]) (.cons ⟨_, rfl⟩ (.cons ⟨_, rfl⟩ .nil)) (fun H w => (.cons (.int _) (.cons (.int _) .nil)))
  have h49 := rp_tup we46 (show 2 ≤ sizeLine by decide) (vs := [.int 1, .int 1]) (.cons ⟨_, rfl⟩ (.cons ⟨_, rfl⟩ .nil)) (fun H w => (.cons (.int _) (.cons (.int _) .nil)))
  have h55 := rp_tup we52 (show 2 ≤ sizeLine by decide) (vs := [.int 2, .int 2]) (.cons ⟨_, rfl⟩ (.cons ⟨_, rfl⟩ .nil)) (fun H w => (.cons (.int _) (.cons (.int _) .nil)))
  have h61 := rp_tup we58 (show 2 ≤ sizeLine by decide) (vs := [.int 1, .int 1]) (.cons ⟨_, rfl⟩ (.cons ⟨_, rfl⟩ .nil)) (fun H w => (.cons (.int _) (.cons (.int _) .nil)))
  have h67 := rp_tup we64 (show 2 ≤ sizeLine by decide) (vs := [.int 3, .int 3]) (.cons ⟨_, rfl⟩ (.cons ⟨_, rfl⟩ .nil)) (fun H w => (.cons (.int _) (.cons (.int _) .nil)))
  have h73 := rp_tup we70 (show 2 ≤ sizeLine by decide) (vs := [.int 1, .int 64]) (.cons ⟨_, rfl⟩ (.cons ⟨_, rfl⟩ .nil)) (fun H w => (.cons (.int _) (.cons (.int _) .nil)))
  have kd_NUMBER_COUNTS : KD K w dNUMBER_COUNTS t_NUMBER_COUNTS := ⟨_, _, ⟨w_NUMBER_COUNTS, q_NUMBER_COUNTS, o_NUMBER_COUNTS⟩, (.cons ⟨⟨_, rfl⟩, .ref e16, rfl, fun H w => .p (h19 H w)⟩
    (.cons ⟨⟨_, rfl⟩, .ref e22, rfl, fun H w => .p (h25 H w)⟩
    (.cons ⟨⟨_, rfl⟩, .ref e28, rfl, fun H w => .p (h31 H w)⟩
    (.cons ⟨⟨_, rfl⟩, .ref e34, rfl, fun H w => .p (h37 H w)⟩
    (.cons ⟨⟨_, rfl⟩, .ref e40, rfl, fun H w => .p (h43 H w)⟩
    (.cons ⟨⟨_, rfl⟩, .ref e46, rfl, fun H w => .p (h49 H w)⟩
    (.cons ⟨⟨_, rfl⟩, .ref e52, rfl, fun H w => .p (h55 H w)⟩
    (.cons ⟨⟨_, rfl⟩, .ref e58, rfl, fun H w => .p (h61 H w)⟩
    (.cons ⟨⟨_, rfl⟩, .ref e64, rfl, fun H w => .p (h67 H w)⟩
    (.cons ⟨⟨_, rfl⟩, .ref e70, rfl, fun H w => .p (h73 H w)⟩
    .nil))))))))))⟩
  have kd_TELLING : KD K w dTELLING (t_TELLING (⟨f9, f10, f11, f12, f13, f14, f15, f16, f17, f18, f1, f1, f1, f1, f1, f1, f1, f1, f1, f1⟩ : Ad)) := ⟨_, _, ⟨w_TELLING, q_TELLING, o_TELLING⟩, (.cons ⟨⟨_, rfl⟩, .ref f9, rfl, fun _ _ => .glb _⟩
    (.cons ⟨⟨_, rfl⟩, .ref f10, rfl, fun _ _ => .glb _⟩
    (.cons ⟨⟨_, rfl⟩, .ref f11, rfl, fun _ _ => .glb _⟩
    (.cons ⟨⟨_, rfl⟩, .ref f12, rfl, fun _ _ => .glb _⟩
    (.cons ⟨⟨_, rfl⟩, .ref f13, rfl, fun _ _ => .glb _⟩
    (.cons ⟨⟨_, rfl⟩, .ref f14, rfl, fun _ _ => .glb _⟩
    (.cons ⟨⟨_, rfl⟩, .ref f15, rfl, fun _ _ => .glb _⟩
    (.cons ⟨⟨_, rfl⟩, .ref f16, rfl, fun _ _ => .glb _⟩
    (.cons ⟨⟨_, rfl⟩, .ref f17, rfl, fun _ _ => .glb _⟩
    (.cons ⟨⟨_, rfl⟩, .ref f18, rfl, fun _ _ => .glb _⟩
    .nil))))))))))⟩
  have B : Bl mg := ⟨n1, n2, n3, n4, n5, n6, n7, n8, n9, n10, n11, n12, n13, n14, n15⟩
  have Cs : Cns K w mg (⟨f9, f10, f11, f12, f13, f14, f15, f16, f17, f18, f1, f1, f1, f1, f1, f1, f1, f1, f1, f1⟩ : Ad) := ⟨gc_ref (PySem.W.mg_of X G u_LEAF_WORDS) h4, gc_ref (PySem.W.mg_of X G u_LIST_WORDS) h9, gc_int (PySem.W.mg_of X G u_MOST_BRANCHES), gc_int (PySem.W.mg_of X G u_MOST_LEVELS), gc_int (PySem.W.mg_of X G u_MOST_NUMBER), gc_int (PySem.W.mg_of X G u_MOST_RULES), ⟨_, PySem.W.mg_of X G u_NUMBER_COUNTS, kd_NUMBER_COUNTS⟩, ⟨_, PySem.W.mg_of X G u_TELLING, kd_TELLING⟩⟩
  have C_is_integer := cal_is_integer (P := l.prog) (W_ := w) (base := base) (A := (⟨f9, f10, f11, f12, f13, f14, f15, f16, f17, f18, f1, f1, f1, f1, f1, f1, f1, f1, f1, f1⟩ : Ad)) F1 g1 B Cs
  have C_is_integer_in := cal_is_integer_in (P := l.prog) (W_ := w) (base := base) (A := (⟨f9, f10, f11, f12, f13, f14, f15, f16, f17, f18, f1, f1, f1, f1, f1, f1, f1, f1, f1, f1⟩ : Ad)) F2 g2 B Cs C_is_integer
  have C_least_number := cal_least_number (P := l.prog) (W_ := w) (base := base) (A := (⟨f9, f10, f11, f12, f13, f14, f15, f16, f17, f18, f1, f1, f1, f1, f1, f1, f1, f1, f1, f1⟩ : Ad)) F3 g3 B Cs
  have C_inner_rules := cal_inner_rules (P := l.prog) (W_ := w) (base := base) (A := (⟨f9, f10, f11, f12, f13, f14, f15, f16, f17, f18, f1, f1, f1, f1, f1, f1, f1, f1, f1, f1⟩ : Ad)) F4 g4 B Cs
  have C_numbers_fit := cal_numbers_fit (P := l.prog) (W_ := w) (base := base) (A := (⟨f9, f10, f11, f12, f13, f14, f15, f16, f17, f18, f1, f1, f1, f1, f1, f1, f1, f1, f1, f1⟩ : Ad)) F5 g5 B Cs C_is_integer_in C_least_number
  have C_has_form := cal_has_form (P := l.prog) (W_ := w) (base := base) (A := (⟨f9, f10, f11, f12, f13, f14, f15, f16, f17, f18, f1, f1, f1, f1, f1, f1, f1, f1, f1, f1⟩ : Ad)) F6 g6 B Cs C_is_integer_in C_numbers_fit
  have C_is_rule := cal_is_rule (P := l.prog) (W_ := w) (base := base) (A := (⟨f9, f10, f11, f12, f13, f14, f15, f16, f17, f18, f1, f1, f1, f1, f1, f1, f1, f1, f1, f1⟩ : Ad)) F7 g7 B Cs C_has_form C_inner_rules
  have C_branches := cal_branches (P := l.prog) (W_ := w) (base := base) (A := (⟨f9, f10, f11, f12, f13, f14, f15, f16, f17, f18, f1, f1, f1, f1, f1, f1, f1, f1, f1, f1⟩ : Ad)) F8 g8 B Cs C_inner_rules 10
  have C_least := cal_least (P := l.prog) (W_ := w) (base := base) (A := (⟨f9, f10, f11, f12, f13, f14, f15, f16, f17, f18, f1, f1, f1, f1, f1, f1, f1, f1, f1, f1⟩ : Ad)) F9 g9 B Cs
  have C_most := cal_most (P := l.prog) (W_ := w) (base := base) (A := (⟨f9, f10, f11, f12, f13, f14, f15, f16, f17, f18, f1, f1, f1, f1, f1, f1, f1, f1, f1, f1⟩ : Ad)) F10 g10 B Cs
  have C_middle := cal_middle (P := l.prog) (W_ := w) (base := base) (A := (⟨f9, f10, f11, f12, f13, f14, f15, f16, f17, f18, f1, f1, f1, f1, f1, f1, f1, f1, f1, f1⟩ : Ad)) F11 g11 B Cs
  have C_sum := cal_sum (P := l.prog) (W_ := w) (base := base) (A := (⟨f9, f10, f11, f12, f13, f14, f15, f16, f17, f18, f1, f1, f1, f1, f1, f1, f1, f1, f1, f1⟩ : Ad)) F12 g12 B Cs
  have C_times := cal_times (P := l.prog) (W_ := w) (base := base) (A := (⟨f9, f10, f11, f12, f13, f14, f15, f16, f17, f18, f1, f1, f1, f1, f1, f1, f1, f1, f1, f1⟩ : Ad)) F13 g13 B Cs
  have C_part := cal_part (P := l.prog) (W_ := w) (base := base) (A := (⟨f9, f10, f11, f12, f13, f14, f15, f16, f17, f18, f1, f1, f1, f1, f1, f1, f1, f1, f1, f1⟩ : Ad)) F14 g14 B Cs
  have C_clip := cal_clip (P := l.prog) (W_ := w) (base := base) (A := (⟨f9, f10, f11, f12, f13, f14, f15, f16, f17, f18, f1, f1, f1, f1, f1, f1, f1, f1, f1, f1⟩ : Ad)) F15 g15 B Cs
  have C_from := cal_from (P := l.prog) (W_ := w) (base := base) (A := (⟨f9, f10, f11, f12, f13, f14, f15, f16, f17, f18, f1, f1, f1, f1, f1, f1, f1, f1, f1, f1⟩ : Ad)) F16 g16 B Cs
  have C_bar := cal_bar (P := l.prog) (W_ := w) (base := base) (A := (⟨f9, f10, f11, f12, f13, f14, f15, f16, f17, f18, f1, f1, f1, f1, f1, f1, f1, f1, f1, f1⟩ : Ad)) F17 g17 B Cs
  have C_row := cal_row (P := l.prog) (W_ := w) (base := base) (A := (⟨f9, f10, f11, f12, f13, f14, f15, f16, f17, f18, f1, f1, f1, f1, f1, f1, f1, f1, f1, f1⟩ : Ad)) F18 g18 B Cs
  have T : Tbl l.prog w K mg base 1 2 (tbl (⟨f9, f10, f11, f12, f13, f14, f15, f16, f17, f18, f1, f1, f1, f1, f1, f1, f1, f1, f1, f1⟩ : Ad)) := Tbl.of (by
    intro p hp
    simp only [tbl, List.mem_cons, List.not_mem_nil, or_false] at hp
    rcases hp with rfl | rfl | rfl | rfl | rfl | rfl | rfl | rfl | rfl | rfl
    · exact held_of C_least g9 rfl
    · exact held_of C_most g10 rfl
    · exact held_of C_middle g11 rfl
    · exact held_of C_sum g12 rfl
    · exact held_of C_times g13 rfl
    · exact held_of C_part g14 rfl
    · exact held_of C_clip g15 rfl
    · exact held_of C_from g16 rfl
    · exact held_of C_bar g17 rfl
    · exact held_of C_row g18 rfl)
  have C_told_of := cal_told_of (P := l.prog) (W_ := w) (base := base) (A := (⟨f9, f10, f11, f12, f13, f14, f15, f16, f17, f18, f1, f1, f1, f1, f1, f1, f1, f1, f1, f1⟩ : Ad)) F19 g19 B Cs T
  have C_told_from := cal_told_from (P := l.prog) (W_ := w) (base := base) (A := (⟨f9, f10, f11, f12, f13, f14, f15, f16, f17, f18, f1, f1, f1, f1, f1, f1, f1, f1, f1, f1⟩ : Ad)) F20 g20 B Cs C_inner_rules C_told_of 10
  have C_told := cal_told (P := l.prog) (W_ := w) (base := base) (A := (⟨f9, f10, f11, f12, f13, f14, f15, f16, f17, f18, f1, f1, f1, f1, f1, f1, f1, f1, f1, f1⟩ : Ad)) F21 g21 B Cs C_told_from
  have C_law_draw := cal_law_draw (P := l.prog) (W_ := w) (base := base) (A := (⟨f9, f10, f11, f12, f13, f14, f15, f16, f17, f18, f1, f1, f1, f1, f1, f1, f1, f1, f1, f1⟩ : Ad)) F22 g22 B Cs
  have C_law_any := cal_law_any (P := l.prog) (W_ := w) (base := base) (A := (⟨f9, f10, f11, f12, f13, f14, f15, f16, f17, f18, f1, f1, f1, f1, f1, f1, f1, f1, f1, f1⟩ : Ad)) F23 g23 B Cs
  have C_law_of := cal_law_of (P := l.prog) (W_ := w) (base := base) (A := (⟨f9, f10, f11, f12, f13, f14, f15, f16, f17, f18, f1, f1, f1, f1, f1, f1, f1, f1, f1, f1⟩ : Ad)) F24 g24 B Cs C_law_any
  have C_law_rule_k01 := cal_law_rule_k01 (P := l.prog) (W_ := w) (base := base) (A := (⟨f9, f10, f11, f12, f13, f14, f15, f16, f17, f18, f1, f1, f1, f1, f1, f1, f1, f1, f1, f1⟩ : Ad)) F25 g25 B Cs C_law_any C_law_of 4
  have C_law_parts := cal_law_parts (P := l.prog) (W_ := w) (base := base) (A := (⟨f9, f10, f11, f12, f13, f14, f15, f16, f17, f18, f1, f1, f1, f1, f1, f1, f1, f1, f1, f1⟩ : Ad)) F26 g26 B Cs
  have C_law_branches := cal_law_branches (P := l.prog) (W_ := w) (base := base) (A := (⟨f9, f10, f11, f12, f13, f14, f15, f16, f17, f18, f1, f1, f1, f1, f1, f1, f1, f1, f1, f1⟩ : Ad)) F27 g27 B Cs C_law_parts 10
  have C_law_made := cal_law_made (P := l.prog) (W_ := w) (base := base) (A := (⟨f9, f10, f11, f12, f13, f14, f15, f16, f17, f18, f1, f1, f1, f1, f1, f1, f1, f1, f1, f1⟩ : Ad)) F28 g28 B Cs
  have C_law_told := cal_law_told (P := l.prog) (W_ := w) (base := base) (A := (⟨f9, f10, f11, f12, f13, f14, f15, f16, f17, f18, f1, f1, f1, f1, f1, f1, f1, f1, f1, f1⟩ : Ad)) F29 g29 B Cs C_law_parts C_law_branches C_law_made 10
  have C_law_odd_rules := cal_law_odd_rules (P := l.prog) (W_ := w) (base := base) (A := (⟨f9, f10, f11, f12, f13, f14, f15, f16, f17, f18, f1, f1, f1, f1, f1, f1, f1, f1, f1, f1⟩ : Ad)) F30 g30 B Cs
  exact law_end0 (law_rd (A := (⟨f9, f10, f11, f12, f13, f14, f15, f16, f17, f18, f1, f1, f1, f1, f1, f1, f1, f1, f1, f1⟩ : Ad)) F31 B Cs C_law_draw C_law_rule_k01 C_law_of C_law_any C_is_rule C_branches C_law_branches C_told C_law_told C_law_odd_rules) fun ns => SM.law_true (⟨nd⟩ : SM.AdOk (⟨f9, f10, f11, f12, f13, f14, f15, f16, f17, f18, f1, f1, f1, f1, f1, f1, f1, f1, f1, f1⟩ : Ad)) ns
theorem walk {l : PySem.W.OpenLaw} {q : Program} {loose : List Str} {XP : (Str → Option Value) → Heap → Prop} {YP : World → Heap → Prop} {d : DefRec} {K : Params → PySem.W.Frag} (hn : l.most = some 63) (hdf : d.params.defaults = [])
    (hY : ∀ (w : World) (h : Heap), YP w h → (K w.params).In h)
    (F : ∀ (w : World) (mg : Str → Option Value) (fa : Addr) (h : Heap), (K w.params).In h → h.Ns mainGlobals mg → mg d.name = some (.ref fa) →
      ∃ fd : FuncData, (∀ (s : Shared) (u : Value), BindsTo s fd ⟨[u], []⟩ [("script", u)]) ∧ ∀ base : Heap, (K w.params).In base → base.Ns mainGlobals mg → FnA callerA l.prog w (K w.params) mg base CX0 fa fd ["script"] (SV.spLaw (K w.params))) :
    PySem.W.WalkO q loose XP YP l.row.toRowW d [] (fun f vs => PySem.call f vs) :=
  walkA (n := 63) (x := "script") (sp := fun w => SV.spLaw (K w.params)) hn (by decide) hdf hY F (fun _ _ a ns hl hb hS => ⟨a, ns, rfl, hS, fun _ => rfl⟩)
end K01
open PySem PySem.W PyProof.Rows
set_option maxRecDepth 100000 in
set_option maxHeartbeats 0 in
theorem PySem.Challenge.cw_newsbehind_k01_rules_and_what_they_tell_holds : PySem.Challenge.rw_newsbehind_k01_rules_and_what_they_tell.Holds := by
  w_on; o_law; k_head; (case hw => w_witness2)
  k_fill
  refine K01.walk (l := PySem.Challenge.rw_newsbehind_k01_rules_and_what_they_tell) rfl rfl (fun w h Y => PySem.W.kIn_of Y) ?F
  case F =>
    intro w mg fa h KX G hmg
    refine' K01.all_mk KX G hmg ?a1 ?l1 ?c1 ?k1 ?a2 ?l2 ?c2 ?k2 ?a3 ?l3 ?c3 ?k3 ?a4 ?l4 ?c4 ?k4 ?a5 ?l5 ?c5 ?k5 ?a6 ?l6 ?c6 ?k6 ?a7 ?l7 ?c7 ?k7 ?a8 ?l8 ?c8 ?k8 ?a9 ?l9 ?c9 ?k9 ?a10 ?l10 ?c10 ?k10 ?a11 ?l11 ?c11 ?k11 ?a12 ?l12 ?c12 ?k12 ?a13 ?l13 ?c13 ?k13 ?a14 ?l14 ?c14 ?k14 ?a15 ?l15 ?c15 ?k15 ?a16 ?l16 ?c16 ?k16 ?a17 ?l17 ?c17 ?k17 ?a18 ?l18 ?c18 ?k18 ?a19 ?l19 ?c19 ?k19 ?a20 ?l20 ?c20 ?k20 ?a21 ?l21 ?c21 ?k21 ?a22 ?l22 ?c22 ?k22 ?a23 ?l23 ?c23 ?k23 ?a24 ?l24 ?c24 ?k24 ?a25 ?l25 ?c25 ?k25 ?a26 ?l26 ?c26 ?k26 ?a27 ?l27 ?c27 ?k27 ?a28 ?l28 ?c28 ?k28 ?a29 ?l29 ?c29 ?k29 ?a30 ?l30 ?c30 ?k30 ?a31 ?l31 ?c31 ?k31 ?z1 ?z2 ?z3 ?z4 ?z5 ?z6 ?z7 ?z8 ?z9 ?z10 ?z11 ?z12 ?z13 ?z14 ?z15 ?u_LEAF_WORDS ?we1 ?u_LIST_WORDS ?we5 ?u_MOST_BRANCHES ?u_MOST_LEVELS ?u_MOST_NUMBER ?u_MOST_RULES ?u_NUMBER_COUNTS ?w_NUMBER_COUNTS ?we70 ?we64 ?we58 ?we52 ?we46 ?we40 ?we34 ?we28 ?we22 ?we16 ?q_NUMBER_COUNTS ?o_NUMBER_COUNTS ?u_TELLING ?w_TELLING ?q_TELLING ?o_TELLING ?nd
    (case a1 => k_is)
    (case l1 => k_is)
    (case c1 => k_is)
    (case k1 => k_is)
    (case a2 => k_is)
    (case l2 => k_is)
    (case c2 => k_is)
    (case k2 => k_is)
    (case a3 => k_is)
    (case l3 => k_is)
    (case c3 => k_is)
    (case k3 => k_is)
    (case a4 => k_is)
    (case l4 => k_is)
    (case c4 => k_is)
    (case k4 => k_is)
    (case a5 => k_is)
    (case l5 => k_is)
    (case c5 => k_is)
    (case k5 => k_is)
    (case a6 => k_is)
    (case l6 => k_is)
    (case c6 => k_is)
    (case k6 => k_is)
    (case a7 => k_is)
    (case l7 => k_is)
    (case c7 => k_is)
    (case k7 => k_is)
    (case a8 => k_is)
    (case l8 => k_is)
    (case c8 => k_is)
    (case k8 => k_is)
    (case a9 => k_is)
    (case l9 => k_is)
    (case c9 => k_is)
    (case k9 => k_is)
    (case a10 => k_is)
    (case l10 => k_is)
    (case c10 => k_is)
    (case k10 => k_is)
    (case a11 => k_is)
    (case l11 => k_is)
    (case c11 => k_is)
    (case k11 => k_is)
    (case a12 => k_is)
    (case l12 => k_is)
    (case c12 => k_is)
    (case k12 => k_is)
    (case a13 => k_is)
    (case l13 => k_is)
    (case c13 => k_is)
    (case k13 => k_is)
    (case a14 => k_is)
    (case l14 => k_is)
    (case c14 => k_is)
    (case k14 => k_is)
    (case a15 => k_is)
    (case l15 => k_is)
    (case c15 => k_is)
    (case k15 => k_is)
    (case a16 => k_is)
    (case l16 => k_is)
    (case c16 => k_is)
    (case k16 => k_is)
    (case a17 => k_is)
    (case l17 => k_is)
    (case c17 => k_is)
    (case k17 => k_is)
    (case a18 => k_is)
    (case l18 => k_is)
    (case c18 => k_is)
    (case k18 => k_is)
    (case a19 => k_is)
    (case l19 => k_is)
    (case c19 => k_is)
    (case k19 => k_is)
    (case a20 => k_is)
    (case l20 => k_is)
    (case c20 => k_is)
    (case k20 => k_is)
    (case a21 => k_is)
    (case l21 => k_is)
    (case c21 => k_is)
    (case k21 => k_is)
    (case a22 => k_is)
    (case l22 => k_is)
    (case c22 => k_is)
    (case k22 => k_is)
    (case a23 => k_is)
    (case l23 => k_is)
    (case c23 => k_is)
    (case k23 => k_is)
    (case a24 => k_is)
    (case l24 => k_is)
    (case c24 => k_is)
    (case k24 => k_is)
    (case a25 => k_is)
    (case l25 => k_is)
    (case c25 => k_is)
    (case k25 => k_is)
    (case a26 => k_is)
    (case l26 => k_is)
    (case c26 => k_is)
    (case k26 => k_is)
    (case a27 => k_is)
    (case l27 => k_is)
    (case c27 => k_is)
    (case k27 => k_is)
    (case a28 => k_is)
    (case l28 => k_is)
    (case c28 => k_is)
    (case k28 => k_is)
    (case a29 => k_is)
    (case l29 => k_is)
    (case c29 => k_is)
    (case k29 => k_is)
    (case a30 => k_is)
    (case l30 => k_is)
    (case c30 => k_is)
    (case k30 => k_is)
    (case a31 => k_is)
    (case l31 => k_is)
    (case c31 => k_is)
    (case k31 => k_is)
    (case z1 => k_is)
    (case z2 => k_is)
    (case z3 => k_is)
    (case z4 => k_is)
    (case z5 => k_is)
    (case z6 => k_is)
    (case z7 => k_is)
    (case z8 => k_is)
    (case z9 => k_is)
    (case z10 => k_is)
    (case z11 => k_is)
    (case z12 => k_is)
    (case z13 => k_is)
    (case z14 => k_is)
    (case z15 => k_is)
    (case u_LEAF_WORDS => k_is)
    (case we1 => k_is)
    (case u_LIST_WORDS => k_is)
    (case we5 => k_is)
    (case u_MOST_BRANCHES => k_is)
    (case u_MOST_LEVELS => k_is)
    (case u_MOST_NUMBER => k_is)
    (case u_MOST_RULES => k_is)
    (case u_NUMBER_COUNTS => k_is)
    (case w_NUMBER_COUNTS => k_is)
    (case we70 => k_is)
    (case we64 => k_is)
    (case we58 => k_is)
    (case we52 => k_is)
    (case we46 => k_is)
    (case we40 => k_is)
    (case we34 => k_is)
    (case we28 => k_is)
    (case we22 => k_is)
    (case we16 => k_is)
    (case q_NUMBER_COUNTS => k_keys)
    (case o_NUMBER_COUNTS => rfl)
    (case u_TELLING => k_is)
    (case w_TELLING => k_is)
    (case q_TELLING => k_keys)
    (case o_TELLING => rfl)
    (case nd => decide)
