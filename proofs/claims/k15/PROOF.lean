import PyProof.Rows.All
import Wide.All
import OpenK.AllK
import Wide.FinOn
import HandS.ForMost
import HandS.IsInst
import HandS.Wide
import HandS.Deep
import HandS.TupAny
import HandS.Flow
import HandS.EndBits
import PyProof.ReprRoads
import PyProof.ReprLen
import HandS.Style
import HandS.Sort
import HandS.SortOrd
import HandS.SortRule
import HandS.SortKw
import HandS.Zip
import HandS.TupMul
import HandS.Text
import HandS.Codes
import KE.DataCmp
import KE.DataFind
import HandS.Set
import KE.DataEq
import PyProof.Rows.IntBool
import PyProof.CallStr
import PyProof.Rows.ReprOcc
import HandS.Iter
import KE.GoesMore
import HandS.CallLocal
import HandS.Defaults
import PySem.Challenge.RW_stilltold_k15_histories_of_anything
set_option Elab.async false
set_option linter.all false
set_option maxRecDepth 100000
namespace Lw
open PySem PySem.Spec PyProof.Rows L2

/-! ### defs that call repr: what no repr is under way around -/
structure FnG (P : Program) (w : World) (K : PySem.W.Frag) (mg : Str → Option Value) (base : Heap) (k : Nat) (f : Addr) (fd : FuncData) (ps : List Str) (sp : Sp) : Prop where
  lenG : ∀ vs H Q E, sp vs H Q E → vs.length = ps.length
  runG : ∀ (A : Around) (outer : List Env) (s : Shared) (H : Hp) (args : Args) (us : List Value) (vs : List V) (Q : VK) (E : XK), A.guards = some [] →
    Room k A → Env0 P w K mg base A outer s H → BindsTo s fd args (ps.zip us) → Vals vs us → sp vs H Q E →
    codeAny (model P w) A (.call (.ref f) args) (CR CX0 outer P w H s Q E) s

theorem FnG.ofOk {P : Program} {w : World} {K : PySem.W.Frag} {mg : Str → Option Value} {base : Heap} {k : Nat} {f : Addr} {fd : FuncData} {ps : List Str} {sp : Sp}
    (F : FnOk P w K mg base CX0 k f fd ps sp) : FnG P w K mg base k f fd ps sp :=
  ⟨F.len, fun A outer s H args us vs Q E _ => F.run A outer s H args us vs Q E⟩

section
variable {P : Program} {w : World} {K : PySem.W.Frag} {mg : Str → Option Value} {base : Heap}
theorem okG {x qual : Str} {st : Stmt} {f : Addr} {fd : FuncData} {N ps : List Str} {k : Nat} {sp : Sp}
    (F : Fun K x qual st f fd) (S : FnScope N ps (defScope st)) (len : ∀ vs H Q E, sp vs H Q E → vs.length = ps.length)
    (body : ∀ (cdv : Value) (A : Around) (outer : List Env) (s : Shared) (H : Hp) (vs : List V) (Q : VK) (E : XK), A.guards = some [] →
      Room k (A.deeper (envOfC qual (defScope st) s.heap.objs.size f cdv)) → sp vs H Q E →
      ∃ t, PSs (cxOf CX0 P w K mg base N qual (defScope st) f cdv A outer s H E).nox (defBody st) t ∧
        t { nx := fun _ H' => Q .non H', rt := Q } (start N vs) H) :
    FnG P w K mg base (k + 1) f fd ps sp := by
  obtain ⟨oc, od, kV, doc, pm, an, cdv, ct, osl, rfl, lk, hcd⟩ := F.ex
  refine ⟨len, ?_⟩
  intro A outer s H args us vs Q E hgd room e0 bt rv hs
  have hlen := len vs H Q E hs
  have inK : K.In s.heap :=
    e0.mod.kin.keeps fun b o e => (e0.bs b o e).1
  have noLim : s.heap.NoLimit :=
    e0.mod.nolimit.keeps fun b o e => (e0.bs b o e).1
  have kinds : ∀ y ∈ ps.zip us, (defScope st).names.lookup y.1 = some .local ∨
      ((defScope st).names.lookup y.1 = some .cell ∧ ((cellsFrom (s.heap.objs.size + 1) (defScope st).names []).lookup y.1).isSome = true) := by
    rintro ⟨n, v⟩ hy
    rcases S.par n (List.of_mem_zip hy).1 with q | q
    · exact Or.inl q
    · exact Or.inr ⟨q, PySem.W.cellsFrom_some _ _ _ (Or.inl q)⟩
  refine codeAny_call_function room.depth (inK _ _ lk) rfl S.co S.gen rfl (PySem.W.codeRec_of inK hcd) (bt _ _ _ _ ?_)
  refine wpAny_newFunctionEnv_cells S.kind kinds ?_
  intro env henv s1 ic
  subst henv
  refine ⟨noLim.keeps ic.toInCall.keep, codeAny_func ?_⟩
  obtain ⟨t, pt, ht⟩ := body cdv A outer s H vs Q E hgd (room.deeper _) hs
  have I := inv_start (CX := CX0) (E := E) S room.hd e0 hlen rv ic
  refine wpAny_mono (pt.nox.run [] s1 (start N vs) H _ I ht) ?_ (fun _ _ z => z)
  intro fl s' z
  cases fl with
  | ret u =>
    obtain ⟨v, σ', H', J, r', q⟩ := z
    exact ⟨v, H', J.os, J.bare, J.base, J.hok, r', q⟩
  | next =>
    obtain ⟨σ', H', J, q⟩ := z
    exact ⟨V.non, H', J.os, J.bare, J.base, J.hok, rfl, q⟩
  | brk => exact (z.elim fun _ z => z.elim fun _ z => z.2).elim
  | cont => exact (z.elim fun _ z => z.elim fun _ z => z.2).elim
end

section
variable {X : Cx} {k : Nat} {f : Addr} {fd : FuncData} {ps : List Str} {sp : Sp} {x : Str} {p pos : Pos} {e : Expr} {es : List Expr} {t : TA}
theorem pe_callG (F : FnG X.prog X.w X.K X.mg X.base k f fd ps sp) (hgd : X.A.guards = some []) (room : Room k X.A) (hg : Gl X x) (hm : X.mg x = some (.ref f))
    (hk : PySem.W.keepIn X.K (.ref f) = true) (hb : Binds X.K fd ps []) (ha : PA X (e :: es) t)
    (hdb : (x == ("__debug__" : Str)) = false := by decide) (he : starEach (e :: es) X.env = (false, eval e X.env) :: starEach es X.env := by rfl)
    (hpl : (backTo pos (starEach es X.env)).any (·.1) = false := by rfl) : PE X (.Call (.Name x p) (e :: es) [] pos) (tCall sp [] E0 t) := by
  refine ⟨fun pins s σ H Q I h => wpAny_Call_Name_kw (ld_glob I hg hm ?_ hdb)⟩
  refine PySem.W.callWith_K (h₀ := X.base) I.ok.mod.kin hk ?_ he hpl
  refine thn (ha.run pos pins s σ H _ I h) ?_
  rintro us s1 ⟨vs, H1, I1, r, q⟩
  refine ⟨I1.kIn, ?_⟩
  have q' : sp (vs ++ []) H1 Q E0 := q
  rw [List.append_nil] at q'
  have hl : us.length = ps.length := by
    rw [← r.length]
    exact F.lenG _ _ _ _ q'
  have bt : BindsTo s1 fd ⟨us, []⟩ (ps.zip us) := by
    have := hb s1 us I1.kIn (by rw [List.append_nil]; exact hl)
    rw [List.append_nil] at this
    exact this
  refine wpAny_call (codeAny_mono (F.runG X.A X.stack s1 H1 ⟨us, []⟩ us vs Q E0 hgd room I1.env0 bt r q') ?_)
  intro r' s' hq
  cases r' with
  | error e => exact False.elim hq
  | ok fl =>
    cases fl with
    | ret u => exact I1.after hq
    | next => exact False.elim hq
    | brk => exact False.elim hq
    | cont => exact False.elim hq

/-! ### a call by keywords alone -/
theorem pe_kw0 {kws : List Keyword} {ks : List Str} {tk : TA} {g : List Value → List Value → List Value} {gV : List V → List V → List V}
    (F : FnOk X.prog X.w X.K X.mg X.base CX0 k f fd ps sp) (room : Room k X.A) (hg : Gl X x) (hm : X.mg x = some (.ref f)) (hk : PySem.W.keepIn X.K (.ref f) = true)
    (hb : KBinds X.K fd ps ks g gV) (hkw : PK X kws tk) (hall : (backToKw pos (keywordEach kws X.env)).all (·.1.isSome) = true := by rfl)
    (hks : (backToKw pos (keywordEach kws X.env)).filterMap (·.1) = ks := by rfl) (hdb : (x == ("__debug__" : Str)) = false := by decide)
    (hpl : ((backTo pos (starEach [] X.env)).any (·.1) || (backToKw pos (keywordEach kws X.env)).any (·.1.isNone)) = false := by rfl) :
    PE X (.Call (.Name x p) [] kws pos) (tCallK sp gV E0 tNil tk) := by
  refine ⟨fun pins s σ H Q I h => wpAny_Call_Name_kw (ld_glob I hg hm ?_ hdb)⟩
  refine PySem.W.callWith_KW0 (h₀ := X.base) I.ok.mod.kin hk hall ?_ hpl
  refine thn (hkw.run pos pins s σ H _ I h) ?_
  rintro ws s2 ⟨zs, H2, I2, rz, q2⟩
  refine ⟨I2.kIn, ?_⟩
  rw [hks]
  exact run_fnk (us := []) (vs := []) F room hb pass0 I2 .nil rz q2

/-! ### a list display, its place not that of sys.modules -/
def tLstN (t : TA) : TE := fun σ H Q => t σ H fun xs H1 => xs.length ≤ sizeLine ∧ ∀ p, H1 p = none → p ≠ sysModules → Q (.ref p) (upd H1 p (.lst xs))
theorem pe_lstN (h : PA X es t) : PE X (.List es pos) (tLstN t) := by
  refine ⟨fun pins s σ H Q I hq => wpAny_List_spliced (thn (h.run pos pins s σ H _ I hq) ?_)⟩
  rintro us s1 ⟨xs, H1, I1, r, z, q⟩
  refine ⟨by rw [← r.length]; exact z, ?_⟩
  have fresh : H1 s1.heap.objs.size = none := I1.hok.fresh (Nat.le_refl _)
  have big : sysModules < s1.heap.objs.size := by
    have h1 : mainGlobals < X.base.objs.size := I1.ok.mod.glob.lt
    have h2 := Nat.le_trans I1.ok.bsz I1.sz
    exact Nat.lt_of_lt_of_le (Nat.lt_trans (by decide) h1) h2
  refine ⟨.ref s1.heap.objs.size, upd H1 s1.heap.objs.size (.lst xs), I1.laid (t' := s1.toks) ?_ (Nat.le_refl _) ?_, rfl, q _ fresh (Nat.ne_of_gt big)⟩
  · intro b u e
    exact Heap.get?_push_of_some _ e
  · exact ⟨z, us, 0, r, Heap.get?_push_size _ rfl⟩
end
end Lw

namespace Lw
open PySem PySem.Spec PyProof.Rows L2

/-! ### the law's own call, no repr under way around -/
theorem enterG {P : Program} {w : World} {K : PySem.W.Frag} {mg mb : Str → Option Value} {k : Nat} {fa a : Addr} {fd : FuncData} {x : Str} {sp : Sp} {s₁ : Shared} {vs : List Value} {ns : List Int}
    (inK : K.In s₁.heap) (gl : s₁.heap.Ns mainGlobals mg) (bl : s₁.heap.Ns builtinsNs mb) (bb : ∀ x : Str, x ≠ "__name__" → mb x = bootBuiltins x) (lim : s₁.heap.NoLimit) (gens : s₁.gens = #[])
    (ha : s₁.heap.get? a = some { cls := .type "list", data := .seq vs.toArray }) (hints : IntsAre vs ns) (short : ns.length ≤ sizeLine) (room : Room k callerA)
    (F : ∀ base : Heap, K.In base → base.Ns mainGlobals mg → FnG P w K mg base k fa fd [x] sp)
    (bind : ∀ (s : Shared) (u : Value), BindsTo s fd ⟨[u], []⟩ [(x, u)])
    (hsp : ∀ H : Hp, SqL K H a (ns.map V.int) → sp [.ref a] H (fun v _ => v = .bl true) fun _ _ _ => False) :
    codeAny (model P w) callerA (.call (.ref fa) ⟨[.ref a], []⟩)
      (fun r s' => r = .ok (.ret (.bool true)) ∧ OldK s₁.heap s'.heap ∧ s'.os = s₁.os ∧ AllBare s'.gens) s₁ := by
  have rv := vals_ints hints
  have lenV := hints.length
  have main : ∀ H : Hp, (∀ b, H b = none ∨ ∃ o xs, H b = some (.frz o (.lst xs))) → SqL K H a (ns.map V.int) → HOk P w H s₁.heap →
      (∀ b, H b ≠ none → b = a) → (H a ≠ none → K.lookup a = none) →
      codeAny (model P w) callerA (.call (.ref fa) ⟨[.ref a], []⟩)
        (fun r s' => r = .ok (.ret (.bool true)) ∧ OldK s₁.heap s'.heap ∧ s'.os = s₁.os ∧ AllBare s'.gens) s₁ := by
    intro H only sq hok isA notK
    have free : ∀ {b : Addr} {o : Obj} {es : Array DictEntry} {ep : Nat},
        s₁.heap.get? b = some o → o.data = .dict es ep → H b = none := by
      intro b o es ep hb hd
      cases q : H b with
      | none => rfl
      | some u =>
        have eb : b = a := isA b (by rw [q]; exact fun z => nomatch z)
        rw [eb, ha] at hb
        cases hb
        have z : Data.seq vs.toArray _ = Data.dict es ep := hd
        cases z
    have nsT : ∀ {b : Addr} {m : Str → Option Value}, s₁.heap.Ns b m → (hidT s₁.heap H).Ns b m := by
      rintro b m ⟨o, es, ep, e, d, r⟩
      exact ⟨o, es, ep, hidT_get e (free e d), d, r⟩
    have kT : K.In (hidT s₁.heap H) := by
      intro b o e
      refine hidT_get (inK b o e) ?_
      cases q : H b with
      | none => rfl
      | some u =>
        have eb : b = a := isA b (by rw [q]; exact fun z => nomatch z)
        have nl := notK (by rw [← eb, q]; exact fun z => nomatch z)
        rw [← eb, e] at nl
        cases nl
    have md : Mod K mg (hidT s₁.heap H) := by
      obtain ⟨mc, l1, l2⟩ := lim
      exact ⟨kT, nsT gl, ⟨mb, nsT bl, bb⟩, mc, nsT l1, l2⟩
    have e0 : Env0 P w K mg (hidT s₁.heap H) callerA [] s₁ H := by
      refine ⟨rfl, md, fun b o e => of_hidT e, ?_, trivial, ?_, hok, .of_eq gens⟩
      · exact Nat.le_of_eq (hidT_size _ _)
      · intro b hb
        exact absurd (show b ∈ ([] : List Addr) from hb) (List.not_mem_nil)
    have ran := (F _ kT (nsT gl)).runG callerA [] s₁ H ⟨[.ref a], []⟩ [.ref a] [.ref a] _ _ rfl room e0 (bind s₁ (.ref a)) (.cons rfl .nil) (hsp H sq)
    refine codeAny_mono ran ?_
    intro r s' h
    cases r with
    | error e => exact False.elim h
    | ok fl =>
      cases fl with
      | next => exact False.elim h
      | brk => exact False.elim h
      | cont => exact False.elim h
      | ret u =>
        obtain ⟨v, H', os, bare, un, hok', r', q⟩ := h
        have ev : v = .bl true := q
        subst ev
        obtain rfl : u = Value.bool true := r'
        refine ⟨rfl, OldK.of_keep ?_, os, bare⟩
        intro b o e
        rcases only b with z | ⟨ob, xs, z⟩
        · exact un.keep b o e z (fun y => absurd (show b ∈ ([] : List Addr) from y) List.not_mem_nil) List.not_mem_nil
        · have z2 := un.frzs b ob _ z
          have e1 := (hok b _ z).1
          have e2 := (hok' b _ z2).1
          rw [e] at e1
          cases e1
          exact e2
  cases hk : K.lookup a with
  | some o =>
    have e := inK a o hk
    rw [ha] at e
    cases e
    refine main (fun _ => none) (fun _ => Or.inl rfl) (Or.inr ?_) ?_ (fun b z => absurd rfl z) (fun z => absurd rfl z)
    · exact ⟨_, vs.toArray, _, hk, rfl, rfl, rfl, by rw [List.size_toArray, lenV]; exact short, by simpa using rv⟩
    · intro b u z
      have z' : (none : Option HO) = some u := z
      cases z'
  | none =>
    let o₀ : Obj := { cls := .type "list", data := .seq vs.toArray }
    let H₀ : Hp := fun b => if b = a then some (.frz o₀ (.lst (ns.map V.int))) else none
    have at_a : H₀ a = some (.frz o₀ (.lst (ns.map V.int))) := if_pos rfl
    have off : ∀ b, b ≠ a → H₀ b = none := fun b hb => if_neg hb
    refine main H₀ ?_ (Or.inl (Or.inr ⟨o₀, at_a⟩)) ?_ ?_ (fun _ => hk)
    · intro b
      by_cases hb : b = a
      · rw [hb]
        exact Or.inr ⟨_, _, at_a⟩
      · exact Or.inl (off b hb)
    · intro b u z
      by_cases hb : b = a
      · rw [hb, at_a] at z
        cases z
        rw [hb]
        exact ⟨ha, by rw [List.length_map]; exact short, vs, _, rv, ha⟩
      · rw [off b hb] at z
        cases z
    · intro b z
      by_cases hb : b = a
      · exact hb
      · exact absurd (off b hb) z

theorem walkG {l : PySem.W.OpenLaw} {n k : Nat} {q : Program} {loose : List Str} {XP : (Str → Option Value) → Heap → Prop} {YP : World → Heap → Prop} {d : DefRec}
    {K : Params → PySem.W.Frag} {sp : PySem.W.Frag → Sp} {x : Str} (hn : l.most = some n) (hn2 : n ≤ sizeLine) (hdf : d.params.defaults = []) (room : Room k callerA)
    (hY : ∀ (w : World) (h : Heap), YP w h → (K w.params).In h)
    (F : ∀ (w : World) (mg : Str → Option Value) (fa : Addr) (h : Heap), (K w.params).In h → h.Ns mainGlobals mg → mg d.name = some (.ref fa) →
      ∃ fd : FuncData, (∀ (s : Shared) (u : Value), BindsTo s fd ⟨[u], []⟩ [(x, u)]) ∧
        ∀ base : Heap, (K w.params).In base → base.Ns mainGlobals mg → FnG l.prog w (K w.params) mg base k fa fd [x] (sp (K w.params)))
    (hsp : ∀ (K : PySem.W.Frag) (H : Hp) (a : Addr) (ns : List Int), ns.length ≤ n → (∀ z ∈ ns, Builtin.Int.intBits z ≤ 1048576) → SqL K H a (ns.map V.int) →
      sp K [.ref a] H (fun v _ => v = .bl true) fun _ _ _ => False) :
    PySem.W.WalkO q loose XP YP l.row.toRowW d [] (fun f vs => PySem.call f vs) := by
  refine Att.attach_callB hn hdf ?_
  intro w s₀ s₁ mg mb fa o pm cd doc a vs ns G Y ho hd hcd hmg hobj hints hlen hbits hg
  have inK := hY w _ Y
  obtain ⟨fd, hb, hF⟩ := F w mg fa _ inK G.T.g hmg
  exact enterG inK G.T.g G.T.b G.T.builtins G.T.nolimit hg hobj hints (Nat.le_trans hlen hn2) room hF hb fun H hS => hsp _ H a ns hlen hbits hS

/-! ### data in the heap -/
def keyD : Key → PyData
  | .inl i => .int i
  | .inr x => .str x
mutual
/-- v holds the data d; f: no list of it stands at the place of sys.modules -/
inductive D (f : Bool) (H : Hp) : V → PyData → Prop
  | non : D f H .non .none
  | bl (b : Bool) : D f H (.bl b) (.bool b)
  | int (i : Int) : D f H (.int i) (.int i)
  | str (x : Str) : D f H (.str x) (.str x)
  | lst {a : Addr} {xs : List V} {ds : List PyData} : H a = some (.lst xs) → (f = true → a ≠ sysModules) → DA f H xs ds → D f H (.ref a) (.list ds)
  | tup {a : Addr} {xs : List V} {ds : List PyData} : H a = some (.tup xs) → DA f H xs ds → D f H (.ref a) (.tuple ds)
  | dct {a : Addr} {kvs : List (Key × V)} {ds : List PyData} : H a = some (.dK kvs) → DA f H (kvs.map (·.2)) ds → D f H (.ref a) (.dict ((kvs.map fun p => keyD p.1).zip ds))
inductive DA (f : Bool) (H : Hp) : List V → List PyData → Prop
  | nil : DA f H [] []
  | cons {v : V} {vs : List V} {d : PyData} {ds : List PyData} : D f H v d → DA f H vs ds → DA f H (v :: vs) (d :: ds)
end
theorem DA.length {f : Bool} {H : Hp} : ∀ {vs : List V} {ds : List PyData}, DA f H vs ds → vs.length = ds.length
  | _, _, .nil => rfl
  | _, _, .cons _ t => by rw [List.length_cons, List.length_cons, t.length]
theorem DA.get {f : Bool} {H : Hp} : ∀ {vs : List V} {ds : List PyData} (i : Nat) {v : V}, DA f H vs ds → vs[i]? = some v → ∃ d, ds[i]? = some d ∧ D f H v d
  | _, _, _, _, .nil, e => by simp at e
  | _, _, 0, _, .cons h _, e => by
    simp at e
    subst e
    exact ⟨_, rfl, h⟩
  | _, _, i + 1, v, .cons _ t, e => by
    obtain ⟨d, e1, h⟩ := DA.get i (v := v) t (by simpa using e)
    exact ⟨d, by simpa using e1, h⟩
theorem DA.append {f : Bool} {H : Hp} : ∀ {vs ws : List V} {ds es : List PyData}, DA f H vs ds → DA f H ws es → DA f H (vs ++ ws) (ds ++ es)
  | _, _, _, _, .nil, h => h
  | _, _, _, _, .cons h t, g => .cons h (t.append g)
theorem DA.take {f : Bool} {H : Hp} : ∀ {vs : List V} {ds : List PyData} (n : Nat), DA f H vs ds → DA f H (vs.take n) (ds.take n)
  | _, _, 0, _ => .nil
  | _, _, _ + 1, .nil => .nil
  | _, _, n + 1, .cons h t => .cons h (t.take n)
theorem DA.drop {f : Bool} {H : Hp} : ∀ {vs : List V} {ds : List PyData} (n : Nat), DA f H vs ds → DA f H (vs.drop n) (ds.drop n)
  | _, _, 0, h => h
  | _, _, _ + 1, .nil => .nil
  | _, _, n + 1, .cons _ t => t.drop n
theorem DA.rev {f : Bool} {H : Hp} : ∀ {vs : List V} {ds : List PyData}, DA f H vs ds → DA f H vs.reverse ds.reverse
  | _, _, .nil => .nil
  | _, _, .cons h t => by
    rw [List.reverse_cons, List.reverse_cons]
    exact t.rev.append (.cons h .nil)
mutual
theorem D.same {f : Bool} {H H' : Hp} (s : Same H H') : ∀ {v : V} {d : PyData}, D f H v d → D f H' v d
  | _, _, .non => .non
  | _, _, .bl b => .bl b
  | _, _, .int i => .int i
  | _, _, .str x => .str x
  | _, _, .lst e n t => .lst (s _ _ e) n (DA.same s t)
  | _, _, .tup e t => .tup (s _ _ e) (DA.same s t)
  | _, _, .dct e t => .dct (s _ _ e) (DA.same s t)
theorem DA.same {f : Bool} {H H' : Hp} (s : Same H H') : ∀ {vs : List V} {ds : List PyData}, DA f H vs ds → DA f H' vs ds
  | _, _, .nil => .nil
  | _, _, .cons a b => .cons (D.same s a) (DA.same s b)
end
mutual
theorem D.weak {f : Bool} {H : Hp} : ∀ {v : V} {d : PyData}, D f H v d → D false H v d
  | _, _, .non => .non
  | _, _, .bl b => .bl b
  | _, _, .int i => .int i
  | _, _, .str x => .str x
  | _, _, .lst e _ t => .lst e (fun z => nomatch z) (DA.weak t)
  | _, _, .tup e t => .tup e (DA.weak t)
  | _, _, .dct e t => .dct e (DA.weak t)
theorem DA.weak {f : Bool} {H : Hp} : ∀ {vs : List V} {ds : List PyData}, DA f H vs ds → DA false H vs ds
  | _, _, .nil => .nil
  | _, _, .cons a b => .cons (D.weak a) (DA.weak b)
end

/-! ### the data are read by the machine -/
theorem readsAll_app {h : Heap} : ∀ {vs : List Value} {ds : List PyData} {as : List Addr}, ReadsAll h vs ds as → True := fun _ => trivial
theorem pairs_keys {P : Program} {w : World} {h : Heap} : ∀ {es : List DictEntry} {kvs : List (Key × Value)}, Pairs (mixKind P w) es kvs →
    ReadsAll h (es.map (·.key)) (kvs.map fun p => keyD p.1) []
  | _, _, .nil => .nil
  | _, _, .cons (kv := kv) (e := e) hk _ t => by
    have r : Reads h e.key (keyD kv.1) [] := by
      rcases keyIs_shape (show keyIs kv.1 e.key = true from hk) with ⟨i, tk, e1, e2⟩ | ⟨x, tk, e1, e2⟩
      · rw [e1, e2]; exact Reads.int i tk
      · rw [e1, e2]; exact Reads.str x tk
    exact ReadsAll.cons r (pairs_keys t)
theorem pairs_vals {P : Program} {w : World} : ∀ {es : List DictEntry} {kvs : List (Key × Value)}, Pairs (mixKind P w) es kvs → es.map (·.val) = kvs.map (·.2)
  | _, _, .nil => rfl
  | _, _, .cons _ hv t => by rw [List.map_cons, List.map_cons, hv, pairs_vals t]
theorem kv_keys : ∀ {kvs : List (Key × V)} {vs : List (Key × Value)}, KV kvs vs → kvs.map (fun p => keyD p.1) = vs.map fun p => keyD p.1
  | _, _, .nil => rfl
  | _, _, .cons h t => by rw [List.map_cons, List.map_cons, h.1, kv_keys t]
theorem kv_vals : ∀ {kvs : List (Key × V)} {vs : List (Key × Value)}, KV kvs vs → Vals (kvs.map (·.2)) (vs.map (·.2))
  | _, _, .nil => .nil
  | _, _, .cons h t => .cons h.2 (kv_vals t)
section
variable {X : Cx} {pins : List (Addr × Obj)} {σ : L2.St} {H : Hp} {s : Shared}
mutual
theorem D.reads {f : Bool} (I : Inv X pins σ H s) : ∀ {v : V} {d : PyData}, D f H v d → ∀ u, RelV v u → ∃ as, Reads s.heap u d as ∧ (f = true → sysModules ∉ as)
  | _, _, .non, u, r => by
    cases r
    exact ⟨_, Reads.none, fun _ => List.not_mem_nil⟩
  | _, _, .bl b, u, r => by
    cases r
    exact ⟨_, Reads.bool b, fun _ => List.not_mem_nil⟩
  | _, _, .int i, u, r => by
    obtain ⟨t, rfl⟩ := r
    exact ⟨_, Reads.int i t, fun _ => List.not_mem_nil⟩
  | _, _, .str x, u, r => by
    obtain ⟨t, rfl⟩ := r
    exact ⟨_, Reads.str x t, fun _ => List.not_mem_nil⟩
  | _, _, .lst (a := a) (xs := xs) e n t, u, r => by
    cases (show u = Value.ref a from r)
    obtain ⟨_, its, k, rv, ho⟩ := (show ObjOk X.prog X.w H s.heap a (.lst xs) from I.hok a _ e)
    obtain ⟨as, ra, na⟩ := DA.reads I t its rv
    refine ⟨_, Reads.list ho rfl rfl ra, fun hf z => ?_⟩
    rcases List.mem_cons.mp z with z | z
    · exact n hf z.symm
    · exact na hf z
  | _, _, .tup (a := a) (xs := xs) e t, u, r => by
    cases (show u = Value.ref a from r)
    obtain ⟨_, its, rv, o, ho, hc, k, hd⟩ := (show ObjOk X.prog X.w H s.heap a (.tup xs) from I.hok a _ e)
    obtain ⟨as, ra, na⟩ := DA.reads I t its rv
    exact ⟨_, Reads.tuple ho hc hd ra, na⟩
  | _, _, .dct (a := a) (kvs := kvs) (ds := ds) e t, u, r => by
    cases (show u = Value.ref a from r)
    obtain ⟨_, ns, vs, kv, o, es, ep, ho, ex, hd, _, pr, _⟩ := (show ObjOk X.prog X.w H s.heap a (.dK kvs) from I.hok a _ e)
    obtain ⟨as, ra, na⟩ := DA.reads I t _ (kv_vals kv)
    have hl : (kvs.map fun p => keyD p.1).length = ds.length := by
      have := t.length
      rw [List.length_map] at this
      rw [List.length_map]
      exact this
    have r1 := pairs_keys (h := s.heap) pr
    rw [← kv_keys kv] at r1
    rw [← pairs_vals pr] at ra
    refine ⟨_, Reads.dict ho ex.1 hd (as := []) (bs := as) ?_ ?_, fun hf z => ?_⟩
    · rw [List.map_fst_zip (Nat.le_of_eq hl)]
      exact r1
    · rw [List.map_snd_zip (Nat.le_of_eq hl.symm)]
      exact ra
    · rcases List.mem_cons.mp z with z | z
      · rw [← z] at ns
        exact absurd ns (by decide)
      · exact na hf (by simpa using z)
theorem DA.reads {f : Bool} (I : Inv X pins σ H s) : ∀ {vs : List V} {ds : List PyData}, DA f H vs ds → ∀ us, Vals vs us → ∃ as, ReadsAll s.heap us ds as ∧ (f = true → sysModules ∉ as)
  | _, _, .nil, us, r => by
    cases r
    exact ⟨_, ReadsAll.nil, fun _ => List.not_mem_nil⟩
  | _, _, .cons h t, us, r => by
    cases r with
    | cons r1 r2 =>
      obtain ⟨as, q1, n1⟩ := D.reads I h _ r1
      obtain ⟨bs, q2, n2⟩ := DA.reads I t _ r2
      exact ⟨_, ReadsAll.cons q1 q2, fun hf z => (List.mem_append.mp z).elim (n1 hf) (n2 hf)⟩
end
end

/-! ### repr -/
/-- what repr takes -/
structure Ok (d : PyData) : Prop where
  sh : d.showable = true
  dp : d.depth ≤ 100
  ln : d.shown.length ≤ sizeLine
def rRepr : List V → Hp → VK → Prop := fun xs H Q => ∃ (v : V) (d : PyData) (f : Bool), xs = [v] ∧ D f H v d ∧ (d.hasDict = true → f = true) ∧ Ok d ∧ Q (.str d.shown) H
theorem call_repr {X : Cx} {k : Nat} (hgd : X.A.guards = some []) (room : Room k X.A) : CallR X (.builtin "repr") rRepr := by
  intro pins s σ H xs us Q I r h
  obtain ⟨v, d, f, rfl, hd, hf, ok, q⟩ := h
  obtain ⟨u, rfl, ru⟩ := vals1 r
  cases hd with
  | non =>
    cases ru
    exact PySem.P.repr_of_none ⟨.str _, H, I.tok _, ⟨_, rfl⟩, by simpa only [PyData.shown] using q⟩
  | bl b =>
    cases ru
    exact PySem.P.repr_of_bool ⟨.str _, H, I.tok _, ⟨_, rfl⟩, by simpa only [PyData.shown] using q⟩
  | int i =>
    obtain ⟨t, rfl⟩ := ru
    have hz : i.natAbs.log2 < 1920 := by simpa only [PyData.showable, decide_eq_true_eq] using ok.sh
    exact PySem.P.repr_of_int hz ⟨.str _, H, I.tok _, ⟨_, rfl⟩, by simpa only [PyData.shown] using q⟩
  | str x =>
    obtain ⟨t, rfl⟩ := ru
    have hz : (reprText x).length ≤ sizeLine := by simpa only [PyData.shown] using ok.ln
    exact PySem.P.repr_of_str ⟨.str _, H, I.tok _, ⟨_, rfl⟩, by simpa only [PyData.shown] using q⟩ hz
  | lst e n t =>
    cases ru
    obtain ⟨as, rd, na⟩ := D.reads I (.lst e n t) _ rfl
    have hu := room.un
    have hdp := ok.dp
    exact repr_of_reads' rd ok.sh (fun z => na (hf z)) hgd (by omega) (fun _ _ e => e) (fun h' tk t2 hk => ⟨.str _, H, I.kept (t' := t2) hk, ⟨_, rfl⟩, q⟩) ok.ln
  | tup e t =>
    cases ru
    obtain ⟨as, rd, na⟩ := D.reads I (.tup e t) _ rfl
    have hu := room.un
    have hdp := ok.dp
    exact repr_of_reads' rd ok.sh (fun z => na (hf z)) hgd (by omega) (fun _ _ e => e) (fun h' tk t2 hk => ⟨.str _, H, I.kept (t' := t2) hk, ⟨_, rfl⟩, q⟩) ok.ln
  | dct e t =>
    cases ru
    obtain ⟨as, rd, na⟩ := D.reads I (.dct e t) _ rfl
    have hu := room.un
    have hdp := ok.dp
    exact repr_of_reads' rd ok.sh (fun z => na (hf z)) hgd (by omega) (fun _ _ e => e) (fun h' tk t2 hk => ⟨.str _, H, I.kept (t' := t2) hk, ⟨_, rfl⟩, q⟩) ok.ln
end Lw

namespace Lw
open PySem PySem.Spec PyProof.Rows L2

/-! ### powers of great numbers -/
def CPowW (i j : Int) : Prop := 0 ≤ j ∧ (Builtin.Int.intBits i : Int) * j ≤ 2 ^ 27
theorem op_powW {X : Cx} : OpR X (binaryOp .Pow) (rI CPowW fun i j => .int (i ^ j.toNat)) :=
  opI fun _ _ _ _ _ _ _ hc q => pow_int hc.1 hc.2 q

/-! ### a tuple turned about -/
section
variable {prog : Program} {w : World} {A : Around} {E : Value → Shared → Prop} {s : Shared}
theorem places_back (n : Nat) : Builtin.Slice.slicePlaces ((n : Int) - 1) (-1) (-1) = n := by
  unfold Builtin.Slice.slicePlaces
  rw [if_neg (by decide)]
  by_cases h : n = 0
  · subst h
    rfl
  · rw [if_pos (by omega)]
    have e : (((n : Int) - 1 - -1 - 1) / (- -1)) = (n : Int) - 1 := by
      rw [show (- -1 : Int) = 1 from rfl, Int.ediv_one]
      omega
    rw [e]
    omega
theorem pick_back (xs : Array Value) : ((List.range xs.size).filterMap fun (k : Nat) => xs[((xs.size : Int) - 1 + (k : Int) * (-1)).toNat]?) = xs.toList.reverse := by
  have e : ∀ k ∈ List.range xs.size, xs[((xs.size : Int) - 1 + (k : Int) * (-1)).toNat]? = xs.toList.reverse[k]? := by
    intro k hk
    have hk' : k < xs.size := List.mem_range.mp hk
    have e1 : ((xs.size : Int) - 1 + (k : Int) * (-1)).toNat = xs.size - 1 - k := by omega
    rw [e1, List.getElem?_reverse (by rw [Array.length_toList]; exact hk'), Array.length_toList, Array.getElem?_toList]
  have fm : ∀ (l : List Nat) (f g : Nat → Option Value), (∀ k ∈ l, f k = g k) → l.filterMap f = l.filterMap g := by
    intro l f g
    induction l with
    | nil => intro _; rfl
    | cons k l ih =>
      intro h
      rw [List.filterMap_cons, List.filterMap_cons, h k List.mem_cons_self, ih fun j hj => h j (List.mem_cons_of_mem _ hj)]
  rw [fm _ _ _ e]
  have e2 : xs.size = xs.toList.reverse.length := by rw [List.length_reverse, Array.length_toList]
  rw [e2]
  generalize xs.toList.reverse = ys
  induction ys with
  | nil => rfl
  | cons y ys ih =>
    rw [List.length_cons, List.range_succ_eq_map, List.filterMap_cons]
    show y :: _ = _
    rw [List.filterMap_map]
    exact congrArg (y :: ·) ih
theorem getItem_back {t sl : Addr} {items : Array Value} {tk : Tok} {Q : Value → Shared → Prop} (ht : IsTup s.heap t items) (hs : s.heap.IsSliceOf sl .none .none (.int (-1) tk))
    (h : Q (.ref s.heap.objs.size) { s with heap := s.heap.push { cls := .type "tuple", data := .seq items.toList.reverse.toArray } }) (hz : items.size ≤ sizeLine) :
    wpAny (model prog w) A (getItem (.ref t) (.ref sl)) Q E s := by
  have room : sizeOk (.seq items.toList.reverse.toArray) := by
    show items.toList.reverse.toArray.size ≤ sizeLine
    rw [List.size_toArray, List.length_reverse, Array.length_toList]
    exact hz
  obtain ⟨os, hos, hcs, hds⟩ := id hs
  have hTs : s.TypeIs (.ref sl) "slice" := ⟨os, hos, hcs⟩
  unfold getItem
  try with_reducible refine wpAny_holding ?_
  first
    | refine wpAny_bind (wpAny_pure ?_)
    | skip
  refine wpAny_bind (wpAny_sequenceKey ht.typeIs (by decide) ?_)
  refine wpAny_bind (wpAny_callSpecial?_slot (name := Str.ofString "__getitem__") ht.typeIs
    PyProof.Rows.slot_tuple_getitem (wpAny_call_entry PyProof.Rows.slot_tuple_getitem ht.typeIs entry_tuple_getitem ?_ (args_tuple_getitem _ _)))
  show wpAny _ _ (Builtin.Tuple.tupleItemsOf (.ref t) >>= _) _ _ s
  refine wpAny_bind (tupleItemsOf_ ht ?_)
  refine wpAny_bind (wpAny_typeOf hTs ?_)
  rw [if_pos (by decide)]
  refine wpAny_bind (m := Builtin.Slice.sliceApplied (.ref sl) (pure (items.size : Int))) ?_
  unfold Builtin.Slice.sliceApplied Builtin.Slice.sliceFields
  refine wpAny_bind (wpAny_bind (wpAny_field hos hds (x := Value.none) rfl (wpAny_bind
    (wpAny_field hos hds (x := Value.none) rfl (wpAny_bind (wpAny_field hos hds (x := .int (-1) tk) rfl (wpAny_pure ?_)))))))
  refine wpAny_bind (slicePart_int ?_)
  show wpAny _ _ (if ((-1 : Int) == 0) = true then _ else _) _ _ s
  rw [if_neg (by decide)]
  refine wpAny_bind (slicePart_none (wpAny_bind (slicePart_none (wpAny_bind (wpAny_pure ?_)))))
  show wpAny _ _ (pure ((items.size : Int) - 1, (-1 : Int), Builtin.Slice.slicePlaces ((items.size : Int) - 1) (-1) (-1))) _ _ s
  rw [places_back]
  refine wpAny_pure ?_
  show wpAny _ _ (if (((items.size : Int) - 1 == 0) && ((-1 : Int) == 1) && (items.size == items.size)) = true then _ else _) _ _ s
  rw [if_neg (by simp), pick_back]
  first
    | exact wpAny_bind (m := Builtin.Tuple.tupleExact _) (wpAny_newObj_type (wpAny_pure ⟨_, rfl, wpAny_pure h⟩) room)
    | exact wpAny_bind (m := Builtin.Tuple.tupleExact _)
        (wpAny_newObj_type (wpAny_bind (wpAny_pure (wpAny_pure ⟨_, rfl, wpAny_pure h⟩))) room)
end
section
variable {X : Cx}
def tRevT (K : PySem.W.Frag) (te : TE) : TE := fun σ H Q => te σ H fun x H1 => ∃ a xs, x = .ref a ∧ SqT K H1 a xs ∧ ∀ p, H1 p = none → Q (.ref p) (upd H1 p (.tup xs.reverse))
theorem vals_rev : ∀ {xs : List V} {us : List Value}, Vals xs us → Vals xs.reverse us.reverse
  | _, _, .nil => .nil
  | _, _, .cons h t => by
    rw [List.reverse_cons, List.reverse_cons]
    exact (vals_rev t).append (.cons h .nil)
theorem pe_revT {e : Expr} {te : TE} {k : Nat} {p1 p2 p3 pos : Pos} (he : PE X e te) :
    PE X (.Subscript e (.Slice none none (some (.UnaryOp .USub (.Constant (.int 1) k p1) p2)) p3) pos) (tRevT X.K te) := by
  refine ⟨fun pins s σ H Q I h => Subscript_ (thn (he.run pins s σ H _ I h) ?_)⟩
  rintro v s1 ⟨x, H1, I1, r1, a, xs, rfl, hx, q⟩
  cases r1
  have hst : PO X (some (.UnaryOp .USub (.Constant (.int 1) k p1) p2)) (tPart (tUn (rU fun i => .int (-i)) (tC (.int 1)))) :=
    po_some (pe_un un_neg pe_int)
  refine wpAny_Slice (thn (po_none.run pins s1 σ H1 (fun o H2 => o = none ∧ H2 = H1) I1 ⟨rfl, rfl⟩) ?_)
  rintro vl s2 ⟨l, H2, I2, pl, el, e2⟩
  subst el e2
  refine thn (po_none.run pins s2 σ H2 (fun o H3 => o = none ∧ H3 = H2) I2 ⟨rfl, rfl⟩) ?_
  rintro vu s3 ⟨u, H3, I3, pu, eu, e3⟩
  subst eu e3
  refine thn (hst.run pins s3 σ H3 (fun o H4 => o = some (-1) ∧ H4 = H3) I3 ⟨1, rfl, -1, rfl, rfl, rfl⟩) ?_
  rintro vs s4 ⟨o, H4, I4, ps, eo, e4⟩
  subst eo e4
  cases pl
  cases pu
  cases ps with
  | int i tk =>
    have I5 : Inv X pins σ H4 { s4 with heap := s4.heap.push { cls := .type "slice", data := .fields #[.none, .none, .int (-1) tk] } } :=
      I4.kept (t' := s4.toks) fun b ob q => Heap.get?_push_of_some _ q
    obtain ⟨its, r, ht, hz⟩ := I5.tuple hx
    have hlen := r.length
    show wpAny (model X.prog X.w) X.A (subscriptTail e (.Slice none none (some (.UnaryOp .USub (.Constant (.int 1) k p1) p2)) p3) (.ref a)
      (.ref s4.heap.objs.size)) (EP X pins σ Q) X.xe { s4 with heap := s4.heap.push { cls := .type "slice", data := .fields #[.none, .none, .int (-1) tk] } }
    refine tail_any (ops := [.ref a, .ref s4.heap.objs.size]) ht.typeIs PyProof.Rows.slot_tuple_getitem.lookup ?_ (by with_unfolding_all rfl)
    refine getItem_back ht (Heap.IsSliceOf.new _ _ _ _) ?_ (by rw [List.size_toArray]; omega)
    refine ⟨.ref _, _, I5.laid (t' := s4.toks) (o := .tup xs.reverse) (fun b ob q => Heap.get?_push_of_some _ q) (Nat.le_refl _) ?_, rfl, q _ (I5.hok.fresh (Nat.le_refl _))⟩
    exact ⟨by rw [List.length_reverse]; exact hz, its.reverse, vals_rev r, IsTup.new _ _⟩
/-! ### tuples cut and put together: one way out -/
theorem cut_whole {xs : List V} {lo hi : Option Int} (h : HT.sIx xs.length 0 lo = 0 ∧ HT.sIx xs.length xs.length hi = xs.length) : cutV xs lo hi = xs := by
  unfold cutV
  rw [h.1, h.2, List.drop_zero, Nat.sub_zero]
  exact List.take_length
def rSlU : V → Option Int → Option Int → Hp → VK → Prop := fun x lo hi H Q => ∃ a xs, x = .ref a ∧ H a = some (.tup xs) ∧
  ∀ p H', Same H H' → H' p = some (.tup (cutV xs lo hi)) → (p = a ∨ H p = none) → Q (.ref p) H'
theorem upd_grow {H : Hp} {p : Addr} {o : HO} (h : H p = none) : Same H (upd H p o) := fun b u q => by
  rw [upd_ne (ne_of_none q h)]
  exact q
theorem sl_U : SlR X rSlU := by
  intro pins s σ H x v vl vu lo hi sl Q I rx hs pl pu h
  obtain ⟨a, xs, rfl, hx, q⟩ := h
  refine sl_tupA pins s σ H _ v vl vu lo hi sl Q I rx hs pl pu ⟨a, xs, rfl, SqT.of hx, fun hw => ?_, fun _ p np => ?_⟩
  · exact q a H (Same.refl H) (by rw [cut_whole hw]; exact hx) (Or.inl rfl)
  · exact q p _ (upd_grow np) upd_same (Or.inr np)
def rCatU : R2 := fun x y H Q => ∃ a b xs ys, x = .ref a ∧ y = .ref b ∧ H a = some (.tup xs) ∧ H b = some (.tup ys) ∧ xs.length + ys.length ≤ sizeLine ∧
  ∀ p H', Same H H' → H' p = some (.tup (xs ++ ys)) → (p = a ∨ p = b ∨ H p = none) → Q (.ref p) H'
theorem op_catU : OpR X (binaryOp .Add) rCatU := by
  intro pins s σ H x y v u Q I rx ry h
  obtain ⟨a, b, xs, ys, rfl, rfl, ha, hb, hz, q⟩ := h
  refine op_catA pins s σ H _ _ v u Q I rx ry ⟨a, b, xs, ys, rfl, rfl, SqT.of ha, SqT.of hb, hz, fun e => ?_, fun _ e => ?_, fun _ _ p np => ?_⟩
  · exact q b H (Same.refl H) (by rw [e]; exact hb) (Or.inr (Or.inl rfl))
  · exact q a H (Same.refl H) (by rw [e, List.append_nil]; exact ha) (Or.inl rfl)
  · exact q p _ (upd_grow np) upd_same (Or.inr (Or.inr np))
def cutD (ds : List PyData) (lo hi : Option Int) : List PyData := (ds.drop (HT.sIx ds.length 0 lo)).take (HT.sIx ds.length ds.length hi - HT.sIx ds.length 0 lo)
theorem DA.cut {f : Bool} {H : Hp} {xs : List V} {ds : List PyData} (h : DA f H xs ds) (lo hi : Option Int) : DA f H (cutV xs lo hi) (cutD ds lo hi) := by
  unfold cutV cutD
  rw [h.length]
  exact (h.drop _).take _
theorem cutD_mem {ds : List PyData} {lo hi : Option Int} {x : PyData} (h : x ∈ cutD ds lo hi) : x ∈ ds := List.mem_of_mem_drop (List.mem_of_mem_take h)
theorem cutV_le (xs : List V) (lo hi : Option Int) : (cutV xs lo hi).length ≤ xs.length := cutV_length xs lo hi
end
end Lw

namespace Lw
open PySem PySem.Spec PyProof.Rows L2

/-! ### kinds of data -/
def tyD : PyData → String
  | .none => "NoneType"
  | .bool _ => "bool"
  | .int _ => "int"
  | .str _ => "str"
  | .list _ => "list"
  | .tuple _ => "tuple"
  | .dict _ => "dict"
theorem D.ty {f : Bool} {K : PySem.W.Frag} {H : Hp} {v : V} {d : PyData} (h : D f H v d) : TyX K H v (.type (tyD d)) := by
  cases h with
  | non => exact .base .non
  | bl b => exact .base (.bl b)
  | int i => exact .base (.int i)
  | str x => exact .base (.str x)
  | lst e n t => exact .base (.lst e)
  | tup e t => exact .base (.tup e)
  | dct e t => exact .base (.dK e)
def isIntD : PyData → Bool
  | .int _ => true
  | .bool _ => true
  | _ => false
def isBoolD : PyData → Bool
  | .bool _ => true
  | _ => false
def isTupD : PyData → Bool
  | .tuple _ => true
  | _ => false
def isStrD : PyData → Bool
  | .str _ => true
  | _ => false
section
variable {K : PySem.W.Frag} {H : Hp} {f : Bool} {v : V} {d : PyData} {Q : VK}
theorem kit_int (d : PyData) : PySem.W.kitOne K (.type (tyD d)) (.type "int") = some (isIntD d) := by
  cases d with
  | none => exact kit_ty (by decide +kernel : kitB "NoneType" "int" = some false)
  | bool b => exact kit_ty (by decide +kernel : kitB "bool" "int" = some true)
  | int i => exact kit_ty (by decide +kernel : kitB "int" "int" = some true)
  | str x => exact kit_ty (by decide +kernel : kitB "str" "int" = some false)
  | list xs => exact kit_ty (by decide +kernel : kitB "list" "int" = some false)
  | tuple xs => exact kit_ty (by decide +kernel : kitB "tuple" "int" = some false)
  | dict kvs => exact kit_ty (by decide +kernel : kitB "dict" "int" = some false)
theorem kit_bool (d : PyData) : PySem.W.kitOne K (.type (tyD d)) (.type "bool") = some (isBoolD d) := by
  cases d with
  | none => exact kit_ty (by decide +kernel : kitB "NoneType" "bool" = some false)
  | bool b => exact kit_ty (by decide +kernel : kitB "bool" "bool" = some true)
  | int i => exact kit_ty (by decide +kernel : kitB "int" "bool" = some false)
  | str x => exact kit_ty (by decide +kernel : kitB "str" "bool" = some false)
  | list xs => exact kit_ty (by decide +kernel : kitB "list" "bool" = some false)
  | tuple xs => exact kit_ty (by decide +kernel : kitB "tuple" "bool" = some false)
  | dict kvs => exact kit_ty (by decide +kernel : kitB "dict" "bool" = some false)
theorem kit_tup (d : PyData) : PySem.W.kitOne K (.type (tyD d)) (.type "tuple") = some (isTupD d) := by
  cases d with
  | none => exact kit_ty (by decide +kernel : kitB "NoneType" "tuple" = some false)
  | bool b => exact kit_ty (by decide +kernel : kitB "bool" "tuple" = some false)
  | int i => exact kit_ty (by decide +kernel : kitB "int" "tuple" = some false)
  | str x => exact kit_ty (by decide +kernel : kitB "str" "tuple" = some false)
  | list xs => exact kit_ty (by decide +kernel : kitB "list" "tuple" = some false)
  | tuple xs => exact kit_ty (by decide +kernel : kitB "tuple" "tuple" = some true)
  | dict kvs => exact kit_ty (by decide +kernel : kitB "dict" "tuple" = some false)
theorem kit_str (d : PyData) : PySem.W.kitOne K (.type (tyD d)) (.type "str") = some (isStrD d) := by
  cases d with
  | none => exact kit_ty (by decide +kernel : kitB "NoneType" "str" = some false)
  | bool b => exact kit_ty (by decide +kernel : kitB "bool" "str" = some false)
  | int i => exact kit_ty (by decide +kernel : kitB "int" "str" = some false)
  | str x => exact kit_ty (by decide +kernel : kitB "str" "str" = some true)
  | list xs => exact kit_ty (by decide +kernel : kitB "list" "str" = some false)
  | tuple xs => exact kit_ty (by decide +kernel : kitB "tuple" "str" = some false)
  | dict kvs => exact kit_ty (by decide +kernel : kitB "dict" "str" = some false)
end
/-- a new thing is laid -/
theorem same_new {H : Hp} {p : Addr} {o : HO} (h : H p = none) : Same H (upd H p o) := fun b u q => by
  rw [upd_ne (ne_of_none q h)]
  exact q

/-! ### draws -/
/-- the hand that draws: at most n draws were mixed -/
def Hd (H : Hp) (a : Addr) (n : Nat) : Prop := ∃ g m c : Int, H a = some (.lst [.int g, .int m, .int c]) ∧ 0 ≤ m ∧ m < 2305843009213693921 ∧ 0 ≤ c ∧ c ≤ n
/-- all but what stands at a is as it was -/
def Kp (a : Addr) (H H' : Hp) : Prop := ∀ b o, b ≠ a → H b = some o → H' b = some o
theorem Kp.refl (a : Addr) (H : Hp) : Kp a H H := fun _ _ _ h => h
theorem Kp.trans {a : Addr} {H H1 H2 : Hp} (x : Kp a H H1) (y : Kp a H1 H2) : Kp a H H2 := fun b o n h => y b o n (x b o n h)
theorem Kp.of_same {a : Addr} {H H' : Hp} (x : Same H H') : Kp a H H' := fun b o _ h => x b o h
theorem Kp.upd {a : Addr} {H H' : Hp} {o : HO} (x : Kp a H H') : Kp a H (L2.upd H' a o) := fun b u n h => by
  rw [upd_ne n]
  exact x b u n h
theorem Hd.same {H H' : Hp} {a : Addr} {n : Nat} (x : Hd H a n) (s : Same H H') : Hd H' a n := by
  obtain ⟨g, m, c, e, r⟩ := x
  exact ⟨g, m, c, s _ _ e, r⟩
theorem Hd.mono {H : Hp} {a : Addr} {n k : Nat} (x : Hd H a n) (h : n ≤ k) : Hd H a k := by
  obtain ⟨g, m, c, e, h1, h2, h3, h4⟩ := x
  exact ⟨g, m, c, e, h1, h2, h3, by omega⟩
/-- the heap without what stands at some places -/
def remL (as : List Addr) (H : Hp) : Hp := fun b => if b ∈ as then none else H b
theorem remL_ne {as : List Addr} {b : Addr} {H : Hp} (h : b ∉ as) : remL as H b = H b := if_neg h
theorem remL_some {as : List Addr} {b : Addr} {H : Hp} {o : HO} (h : remL as H b = some o) : b ∉ as ∧ H b = some o := by
  by_cases e : b ∈ as
  · rw [show remL as H b = none from if_pos e] at h
    cases h
  · rw [remL_ne e] at h
    exact ⟨e, h⟩
theorem remL_same {as : List Addr} {H : Hp} : Same (remL as H) H := fun b o h => (remL_some h).2
theorem same_remL {as : List Addr} {H H' : Hp} (k : Same H H') : Same (remL as H) (remL as H') := fun b o h => by
  obtain ⟨n, e⟩ := remL_some h
  rw [remL_ne n]
  exact k b o e
theorem Kp.remL {as : List Addr} {a : Addr} {H H' : Hp} (ha : a ∈ as) (k : Kp a H H') : Same (Lw.remL as H) (Lw.remL as H') := fun b o h => by
  obtain ⟨n, e⟩ := remL_some h
  rw [remL_ne n]
  exact k b o (fun z => n (z ▸ ha)) e
/-- these places are taken -/
def Trk (as : List Addr) (H : Hp) : Prop := ∀ b ∈ as, H b ≠ none
theorem Trk.same {as : List Addr} {H H' : Hp} (t : Trk as H) (k : Same H H') : Trk as H' := fun b hb z => by
  cases e : H b with
  | none => exact t b hb e
  | some o =>
    rw [k b o e] at z
    cases z
theorem Trk.kp {as : List Addr} {a : Addr} {n : Nat} {H H' : Hp} (t : Trk as H) (k : Kp a H H') (h : Hd H' a n) : Trk as H' := fun b hb z => by
  by_cases e0 : b = a
  · obtain ⟨g, m, c, e, _⟩ := h
    rw [e0, e] at z
    cases z
  · cases e : H b with
    | none => exact t b hb e
    | some o =>
      rw [k b o e0 e] at z
      cases z
theorem Trk.new {as : List Addr} {H : Hp} {p : Addr} (t : Trk as H) (h : H p = none) : p ∉ as := fun z => t p z h
theorem remL_new {as : List Addr} {H : Hp} {p : Addr} {o : HO} (t : Trk as H) (h : H p = none) : remL as (upd H p o) p = some o := by
  rw [remL_ne (t.new h), upd_same]

/-! ### how large data are -/
theorem int_short {i : Int} (h : i.natAbs < 10 ^ 62) : (PyData.shown (.int i)).length ≤ 64 := by
  have e := int_text_length_le10 (k := 62) (by decide) h
  show (Str.ofString (toString i)).length ≤ 64
  rw [PySem.ofString_length]
  omega
structure Bd (n m : Nat) (d : PyData) : Prop where
  lf : d.leavesShort 64 = true
  sh : d.showable = true
  dp : d.depth ≤ n
  wt : d.weight ≤ m
theorem Bd.mono {n m n' m' : Nat} {d : PyData} (h : Bd n m d) (hn : n ≤ n') (hm : m ≤ m') : Bd n' m' d := ⟨h.lf, h.sh, Nat.le_trans h.dp hn, Nat.le_trans h.wt hm⟩
theorem Bd.ok {n m : Nat} {d : PyData} (h : Bd n m d) (hn : n ≤ 100) (hm : m ≤ 250000) : Ok d := by
  refine ⟨h.sh, Nat.le_trans h.dp hn, ?_⟩
  have h1 := PyData.shown_le 64 (by decide) d h.lf
  have h2 : (64 + 2) * d.weight + 64 ≤ 16777216 := by
    have := h.wt
    omega
  exact Nat.le_trans h1 h2
theorem all_of {n m : Nat} : ∀ {ds : List PyData}, (∀ x ∈ ds, Bd n m x) → PyData.leavesShortAll 64 ds = true ∧ PyData.showableAll ds = true ∧ PyData.depthAll ds ≤ n ∧ PyData.weightAll ds ≤ ds.length * (m + 1)
  | [], _ => by
    refine ⟨rfl, rfl, ?_, ?_⟩
    · show PyData.depthAll [] ≤ n
      simp only [PyData.depthAll]
      exact Nat.zero_le _
    · simp only [PyData.weightAll]
      exact Nat.zero_le _
  | x :: ds, h => by
    have hx := h x List.mem_cons_self
    obtain ⟨a, b, c, d⟩ := all_of (ds := ds) fun y hy => h y (List.mem_cons_of_mem _ hy)
    refine ⟨?_, ?_, ?_, ?_⟩
    · simp only [PyData.leavesShortAll, hx.lf, a, Bool.and_self]
    · simp only [PyData.showableAll, hx.sh, b, Bool.and_self]
    · simp only [PyData.depthAll]
      have := hx.dp
      omega
    · simp only [PyData.weightAll, List.length_cons, Nat.succ_mul]
      have := hx.wt
      omega
theorem Bd.tuple {n m k : Nat} {ds : List PyData} (h : ∀ x ∈ ds, Bd n m x) (hk : ds.length * (m + 1) ≤ k) : Bd (n + 1) k (.tuple ds) := by
  obtain ⟨a, b, c, d⟩ := all_of h
  exact ⟨by simpa only [PyData.leavesShort] using a, by simpa only [PyData.showable] using b, by simp only [PyData.depth]; omega, by simp only [PyData.weight]; omega⟩
theorem Bd.list {n m k : Nat} {ds : List PyData} (h : ∀ x ∈ ds, Bd n m x) (hk : ds.length * (m + 1) ≤ k) : Bd (n + 1) k (.list ds) := by
  obtain ⟨a, b, c, d⟩ := all_of h
  exact ⟨by simpa only [PyData.leavesShort] using a, by simpa only [PyData.showable] using b, by simp only [PyData.depth]; omega, by simp only [PyData.weight]; omega⟩
theorem Bd.int {n : Nat} {i : Int} (h : i.natAbs < 10 ^ 62) : Bd n 210 (.int i) := by
  have hl : i.natAbs.log2 < 206 := PySem.Flt.log2_lt_of (by decide) (Nat.lt_of_lt_of_le h (by decide +kernel))
  refine ⟨?_, ?_, ?_, ?_⟩
  · simp only [PyData.leavesShort, decide_eq_true_eq]
    exact int_short h
  · simp only [PyData.showable, decide_eq_true_eq]
    omega
  · simp only [PyData.depth]
    exact Nat.zero_le _
  · simp only [PyData.weight]
    split <;> omega
theorem Bd.flat0 {n m : Nat} {d : PyData} (h : d = .none ∨ (∃ b, d = .bool b) ∨ d = .str "" ∨ d = .str "0" ∨ d = .tuple [] ∨ d = .list [] ∨ d = .dict []) (hn : 1 ≤ n) (hm : 1 ≤ m) : Bd n m d := by
  have z : Bd 1 1 d := by
    rcases h with rfl | ⟨b, rfl⟩ | rfl | rfl | rfl | rfl | rfl
    all_goals exact ⟨by decide +kernel +revert, by decide +kernel +revert, by decide +kernel +revert, by decide +kernel +revert⟩
  exact z.mono hn hm
/-! ### rows of data, by their whole weight -/
structure BA (n t : Nat) (ds : List PyData) : Prop where
  lf : PyData.leavesShortAll 64 ds = true
  sh : PyData.showableAll ds = true
  dp : PyData.depthAll ds ≤ n
  wt : PyData.weightAll ds ≤ t
theorem BA.mono {n t n' t' : Nat} {ds : List PyData} (h : BA n t ds) (hn : n ≤ n') (ht : t ≤ t') : BA n' t' ds := ⟨h.lf, h.sh, Nat.le_trans h.dp hn, Nat.le_trans h.wt ht⟩
theorem BA.nil {n t : Nat} : BA n t [] := ⟨rfl, rfl, by simp only [PyData.depthAll]; exact Nat.zero_le _, by simp only [PyData.weightAll]; exact Nat.zero_le _⟩
theorem wa_append : ∀ (ds es : List PyData), PyData.weightAll (ds ++ es) = PyData.weightAll ds + PyData.weightAll es
  | [], es => by simp only [List.nil_append, PyData.weightAll, Nat.zero_add]
  | d :: ds, es => by
    have := wa_append ds es
    simp only [List.cons_append, PyData.weightAll]
    omega
theorem da_append : ∀ (ds es : List PyData), PyData.depthAll (ds ++ es) = max (PyData.depthAll ds) (PyData.depthAll es)
  | [], es => by simp only [List.nil_append, PyData.depthAll, Nat.zero_max]
  | d :: ds, es => by
    have := da_append ds es
    simp only [List.cons_append, PyData.depthAll]
    omega
theorem la_append : ∀ (ds es : List PyData), PyData.leavesShortAll 64 (ds ++ es) = (PyData.leavesShortAll 64 ds && PyData.leavesShortAll 64 es)
  | [], es => by simp only [List.nil_append, PyData.leavesShortAll, Bool.true_and]
  | d :: ds, es => by simp only [List.cons_append, PyData.leavesShortAll, la_append ds es, Bool.and_assoc]
theorem sa_append : ∀ (ds es : List PyData), PyData.showableAll (ds ++ es) = (PyData.showableAll ds && PyData.showableAll es)
  | [], es => by simp only [List.nil_append, PyData.showableAll, Bool.true_and]
  | d :: ds, es => by simp only [List.cons_append, PyData.showableAll, sa_append ds es, Bool.and_assoc]
theorem BA.append {n t u : Nat} {ds es : List PyData} (h : BA n t ds) (g : BA n u es) : BA n (t + u) (ds ++ es) := by
  refine ⟨?_, ?_, ?_, ?_⟩
  · rw [la_append, h.lf, g.lf]
    rfl
  · rw [sa_append, h.sh, g.sh]
    rfl
  · rw [da_append]
    have := h.dp
    have := g.dp
    omega
  · rw [wa_append]
    have := h.wt
    have := g.wt
    omega
theorem BA.parts {n t : Nat} {ds es : List PyData} (h : BA n t (ds ++ es)) : BA n t ds ∧ BA n t es := by
  have h1 := h.lf
  have h2 := h.sh
  have h3 := h.dp
  have h4 := h.wt
  rw [la_append, Bool.and_eq_true] at h1
  rw [sa_append, Bool.and_eq_true] at h2
  rw [da_append] at h3
  rw [wa_append] at h4
  exact ⟨⟨h1.1, h2.1, by omega, by omega⟩, ⟨h1.2, h2.2, by omega, by omega⟩⟩
theorem BA.take {n t : Nat} {ds : List PyData} (h : BA n t ds) (k : Nat) : BA n t (ds.take k) := by
  rw [← List.take_append_drop k ds] at h
  exact h.parts.1
theorem BA.drop {n t : Nat} {ds : List PyData} (h : BA n t ds) (k : Nat) : BA n t (ds.drop k) := by
  rw [← List.take_append_drop k ds] at h
  exact h.parts.2
theorem BA.cut {n t : Nat} {ds : List PyData} (h : BA n t ds) (lo hi : Option Int) : BA n t (cutD ds lo hi) := (h.drop _).take _
theorem BA.one {n m : Nat} {d : PyData} (h : Bd n m d) : BA n (m + 1) [d] := by
  refine ⟨?_, ?_, ?_, ?_⟩
  · simp only [PyData.leavesShortAll, h.lf, Bool.and_self]
  · simp only [PyData.showableAll, h.sh, Bool.and_self]
  · simp only [PyData.depthAll]
    have := h.dp
    omega
  · simp only [PyData.weightAll]
    have := h.wt
    omega
theorem BA.rev {n t : Nat} : ∀ {ds : List PyData}, BA n t ds → BA n t ds.reverse
  | [], h => h
  | d :: ds, h => by
    have e : d :: ds = [d] ++ ds := rfl
    have p := (e ▸ h : BA n t ([d] ++ ds)).parts
    have hw := h.wt
    simp only [PyData.weightAll] at hw
    have r : BA n (PyData.weightAll ds) ds.reverse := BA.rev ⟨p.2.lf, p.2.sh, p.2.dp, Nat.le_refl _⟩
    have o : BA n (d.weight + 1) [d] := ⟨p.1.lf, p.1.sh, p.1.dp, by simp only [PyData.weightAll]; omega⟩
    rw [List.reverse_cons]
    exact (r.append o).mono (Nat.le_refl _) (by omega)
theorem BA.tuple {n t : Nat} {ds : List PyData} (h : BA n t ds) : Bd (n + 1) t (.tuple ds) :=
  ⟨by simpa only [PyData.leavesShort] using h.lf, by simpa only [PyData.showable] using h.sh, by simp only [PyData.depth]; have := h.dp; omega, by simp only [PyData.weight]; exact h.wt⟩
theorem BA.list {n t : Nat} {ds : List PyData} (h : BA n t ds) : Bd (n + 1) t (.list ds) :=
  ⟨by simpa only [PyData.leavesShort] using h.lf, by simpa only [PyData.showable] using h.sh, by simp only [PyData.depth]; have := h.dp; omega, by simp only [PyData.weight]; exact h.wt⟩
/-- v is a tuple of the data ds, apart from some places -/
def Tp (as : List Addr) (H : Hp) (b : Addr) (ds : List PyData) : Prop := b ∉ as ∧ ∃ xs, H b = some (.tup xs) ∧ DA true (remL as H) xs ds
theorem Tp.same {as : List Addr} {H H' : Hp} {b : Addr} {ds : List PyData} (h : Tp as H b ds) (s : Same H H') : Tp as H' b ds := by
  obtain ⟨n, xs, e, t⟩ := h
  exact ⟨n, xs, s _ _ e, t.same (same_remL s)⟩
theorem Tp.kp {as : List Addr} {a : Addr} {H H' : Hp} {b : Addr} {ds : List PyData} (h : Tp as H b ds) (ha : a ∈ as) (k : Kp a H H') : Tp as H' b ds := by
  obtain ⟨n, xs, e, t⟩ := h
  exact ⟨n, xs, k _ _ (fun z => n (z ▸ ha)) e, t.same (k.remL ha)⟩
theorem Tp.d {as : List Addr} {H : Hp} {b : Addr} {ds : List PyData} (h : Tp as H b ds) : D true (remL as H) (.ref b) (.tuple ds) := by
  obtain ⟨n, xs, e, t⟩ := h
  exact .tup (by rw [remL_ne n]; exact e) t
end Lw

namespace Lw
open PySem PySem.Spec PyProof.Rows L2

/-! ### rows of ints, by their order -/
abbrev lex := HT.lexLt
theorem lex_cons (x y : Int) (xs ys : List Int) : lex (x :: xs) (y :: ys) = if x = y then lex xs ys else decide (x < y) := rfl
theorem lex_irr : ∀ x : List Int, lex x x = false
  | [] => rfl
  | a :: x => by
    rw [lex_cons, if_pos rfl]
    exact lex_irr x
theorem lex_asym : ∀ x y : List Int, lex x y = true → lex y x = false
  | [], [], h => by cases h
  | [], _ :: _, _ => rfl
  | _ :: _, [], h => by cases h
  | a :: x, b :: y, h => by
    rw [lex_cons] at h ⊢
    by_cases e : a = b
    · subst e
      rw [if_pos rfl] at h ⊢
      exact lex_asym x y h
    · rw [if_neg e, decide_eq_true_eq] at h
      rw [if_neg (fun z => e z.symm), decide_eq_false_iff_not]
      omega
theorem lex_tr : ∀ x y z : List Int, lex y x = false → lex z y = false → lex z x = false
  | [], [], [], _, _ => rfl
  | [], [], _ :: _, _, _ => rfl
  | [], _ :: _, [], _, h => by cases h
  | [], _ :: _, _ :: _, _, _ => rfl
  | _ :: _, [], _, h, _ => by cases h
  | _ :: _, _ :: _, [], _, h => by cases h
  | a :: x, b :: y, c :: z, h1, h2 => by
    rw [lex_cons] at h1 h2 ⊢
    by_cases e1 : b = a
    · subst e1
      rw [if_pos rfl] at h1
      by_cases e2 : c = b
      · subst e2
        rw [if_pos rfl] at h2 ⊢
        exact lex_tr x y z h1 h2
      · rw [if_neg e2] at h2 ⊢
        exact h2
    · rw [if_neg e1, decide_eq_false_iff_not] at h1
      by_cases e2 : c = b
      · subst e2
        rw [if_neg e1, decide_eq_false_iff_not]
        omega
      · rw [if_neg e2, decide_eq_false_iff_not] at h2
        rw [if_neg (show ¬ c = a by omega), decide_eq_false_iff_not]
        omega
theorem lex_eq : ∀ x y : List Int, lex x y = false → lex y x = false → x = y
  | [], [], _, _ => rfl
  | [], _ :: _, h, _ => by cases h
  | _ :: _, [], _, h => by cases h
  | a :: x, b :: y, h1, h2 => by
    rw [lex_cons] at h1 h2
    by_cases e : a = b
    · subst e
      rw [if_pos rfl] at h1 h2
      rw [lex_eq x y h1 h2]
    · rw [if_neg e, decide_eq_false_iff_not] at h1
      rw [if_neg (fun z => e z.symm), decide_eq_false_iff_not] at h2
      omega
theorem swo_key {α : Type} (k : α → List Int) : SrtO.Swo fun v u => lex (k v) (k u) :=
  ⟨fun x y h => lex_asym _ _ h, fun x y z h1 h2 => lex_tr _ _ _ h1 h2⟩

/-- v is a tuple of the ints ns -/
def TI (h : Heap) (v : Value) (ns : List Int) : Prop := ∃ (a : Addr) (o : Obj) (its : Array Value) (n : Nat), v = .ref a ∧ h.get? a = some o ∧ o.cls = .type "tuple" ∧ o.data = .seq its n ∧ IntsAre its.toList ns
theorem TI.keeps {h h' : Heap} {v : Value} {ns : List Int} (t : TI h v ns) (k : ∀ b o, h.get? b = some o → o.cls = .type "tuple" → h'.get? b = some o) : TI h' v ns := by
  obtain ⟨a, o, its, n, e, ho, hc, r⟩ := t
  exact ⟨a, o, its, n, e, k a o ho hc, hc, r⟩
section
variable {prog : Program} {w : World} {A : Around} {E : Value → Shared → Prop} {s : Shared} {Q : Bool → Shared → Prop}
theorem lex_walk {b : Bool} : ∀ {xs ys : List Value} {ns ms : List Int} {fin : Bool} (i : Nat), IntsAre xs ns → IntsAre ys ms → fin = decide (ns.length < ms.length) → Q (lex ns ms) s → PySem.W.KatLex prog w A b fin Q (xs.zip ys) i s
  | _, _, _, _, fin, i, .nil, .nil, hf, h => by
    subst hf
    exact PySem.W.kat_nil h
  | _, _, _, _, fin, i, .nil, .cons (ns := ms) m t hy, hf, h => by
    have e : fin = true := by
      rw [hf]
      exact decide_eq_true (by simp)
    rw [e]
    exact PySem.W.kat_nil (i := i) h
  | _, _, _, _, fin, i, .cons (ns := ns) m t hy, .nil, hf, h => by
    have e : fin = false := by
      rw [hf]
      exact decide_eq_false (by simp)
    rw [e]
    exact PySem.W.kat_nil (i := i) h
  | _, _, _, _, fin, i, .cons (ns := ns) x t hx, .cons (ns := ms) y u hy, hf, h => by
    refine PySem.W.kat_cons (SeqAt.EqAt.int_int x t y u prog w _ _ ?_)
    refine PySem.W.kat_go (fun e1 => ?_) (fun e1 => ?_)
    · have ex : x = y := by simpa using e1
      have h' : Q (lex ns ms) s := by
        rw [show lex (x :: ns) (y :: ms) = lex ns ms by rw [lex_cons, if_pos ex]] at h
        exact h
      refine PySem.W.kat_yes (lex_walk (i + 1) hx hy ?_ h')
      rw [hf]
      exact decide_eq_decide.mpr (by simp)
    · have ex : ¬ x = y := by simpa using e1
      have h' : Q (decide (x < y)) s := by
        rw [show lex (x :: ns) (y :: ms) = decide (x < y) by rw [lex_cons, if_neg ex]] at h
        exact h
      exact PySem.W.kat_no (TS.oneLt_ints _ h')
/-- the three ways in which two such tuples are compared -/
theorem ti_tuples {x y : Value} {ns ms : List Int} (hx : TI s.heap x ns) (hy : TI s.heap y ms) (h : Q (lex ns ms) s) : wpAny (model prog w) A (keyLt' (tuples' true) x y) Q E s := by
  obtain ⟨a, o, its, n, rfl, ho, hc, hd, hi⟩ := hx
  obtain ⟨b, p, jts, m, rfl, hp, hc2, hd2, hj⟩ := hy
  refine PySem.W.kat_lt ho hd hp hd2 (lex_walk 0 hi hj ?_ h)
  have e1 := hi.length
  have e2 := hj.length
  rw [Array.length_toList] at e1 e2
  rw [← e1, ← e2]
theorem ti_general {x y : Value} {ns ms : List Int} (hu : A.units < cLine) (hx : TI s.heap x ns) (hy : TI s.heap y ms) (h : Q (lex ns ms) s) : wpAny (model prog w) A (keyLt' general' x y) Q E s := by
  obtain ⟨a, o, its, n, rfl, ho, hc, hd, hi⟩ := hx
  obtain ⟨b, p, jts, m, rfl, hp, hc2, hd2, hj⟩ := hy
  show wpAny _ _ (oneLt' false (.ref a) (.ref b)) Q E s
  exact PySem.W.kat_one _ _ (HT.lt_tupInts ⟨o, ho, hc, n, hd⟩ ⟨p, hp, hc2, m, hd2⟩ hi hj hu h)
theorem ti_one {x y : Value} {ns ms : List Int} (hu : A.units < cLine) (hx : TI s.heap x ns) (hy : TI s.heap y ms) (h : Q (lex ns ms) s) : wpAny (model prog w) A (keyLt' oneType' x y) Q E s := by
  obtain ⟨a, ⟨cls, dd, data, sl⟩, its, n, rfl, ho, hc, hd, hi⟩ := hx
  obtain ⟨b, ⟨cls2, dd2, data2, sl2⟩, jts, m, rfl, hp, hc2, hd2, hj⟩ := hy
  simp only at hc hd hc2 hd2
  subst hc hd hc2 hd2
  rw [keyLt'_oneType, oneLt'_eq]
  simp only [if_true]
  refine wpAny_bind (wpAny_cRoomFor hu ?_)
  refine wpAny_bind (wpAny_callSpecialIfBound?_slot ⟨_, ho, rfl⟩ PySem.F.slot_tuple_lt (call_meets PySem.F.slot_tuple_lt ⟨_, ho, rfl⟩ PySem.F.entry_tuple_lt (PySem.F.args_tuple_lt_2 _ _)
    (HT.tuple_lt_ints a b its jts n m dd dd2 sl sl2 ns ms hi hj) ⟨ho, hp, ?_⟩))
  exact wpAny_truthy_bool h
end
section
variable {M : Model} {A : Around} {E : Value → Shared → Prop} {s : Shared}
/-- the first part of a tuple -/
def fstH (h : Heap) : Value → Option Value
  | .ref a => match h.get? a with
    | some o => match o.data with
      | .seq its _ => its[0]?
      | _ => none
    | none => none
  | _ => none
theorem fst_ti {h : Heap} {a : Addr} {o : Obj} {its : Array Value} {n : Nat} (ho : h.get? a = some o) (hd : o.data = .seq its n) : fstH h (.ref a) = its[0]? := by
  unfold fstH
  simp only [ho, hd]
theorem fst_some {h : Heap} {v : Value} {ns : List Int} (t : TI h v ns) : (fstH h v).isSome = true ↔ ns ≠ [] := by
  obtain ⟨a, o, its, n, e, ho, hc, hd, hi⟩ := t
  subst e
  rw [fst_ti ho hd, ← Array.getElem?_toList]
  generalize its.toList = l at hi
  cases hi with
  | nil => simp
  | cons x t r => simp
theorem firsts_run {k : Value → List Int} : ∀ (vs : List Value) {Q : List (Option Value) → Shared → Prop}, (∀ v ∈ vs, TI s.heap v (k v)) → Q (vs.map (fstH s.heap)) s → wpAny M A (vs.mapM firstOfTuple') Q E s
  | [], _, _, h => by
    rw [List.mapM_nil]
    exact wpAny_pure h
  | v :: vs, Q, hp, h => by
    obtain ⟨a, o, its, n, e, ho, hc, hd, hi⟩ := hp v List.mem_cons_self
    subst e
    rw [List.mapM_cons]
    refine wpAny_bind ?_
    rw [PySem.W.kas_first_eq]
    refine wpAny_bind (PySem.W.Looks.here (show PySem.W.Looks M s.heap (typeOf (.ref a)) o.cls from (PySem.W.Looks.ld ho).andThen .now) ?_)
    rw [hc, if_neg (by first | decide | simp)]
    refine wpAny_bind (listItems_at ho hd (wpAny_pure ?_))
    refine wpAny_bind (firsts_run vs (Q := fun bs s' => wpAny M A (pure (its[0]? :: bs)) Q E s') (fun u hu => hp u (List.mem_cons_of_mem _ hu)) (wpAny_pure ?_))
    rw [List.map_cons, fst_ti ho hd] at h
    exact h
theorem types_tup {k : Value → List Int} {vs : List Value} (h : ∀ v ∈ vs, TI s.heap v (k v)) (h0 : 0 < vs.length) {Q : Option Value → Shared → Prop} (hq : Q (some (.type "tuple")) s) : wpAny M A (oneTypeOnly' vs.toArray) Q E s := by
  rw [oneTypeOnly'_eq, List.mapM_toArray, map_eq_pure_bind]
  refine wpAny_bind (wpAny_bind (PySem.W.kas_mapM (r := Value.type "tuple") _ (fun v hv Q' hq' => ?_) (wpAny_pure ?_)))
  · obtain ⟨a, o, its, n, e, ho, hc, _⟩ := h v hv
    subst e
    have l : PySem.W.Looks M s.heap (typeOf (.ref a)) o.cls := (PySem.W.Looks.ld ho).andThen .now
    rw [hc] at l
    exact l.here hq'
  · have all : ((List.map (fun _ => Value.type "tuple") vs).toArray.all fun x => x == Value.type "tuple") = true := by
      simp only [List.all_toArray, List.all_map, List.all_eq_true]
      intro _ _
      rfl
    have at0 : (List.map (fun _ => Value.type "tuple") vs).toArray[0]? = some (Value.type "tuple") := by
      match vs, h0 with
      | v :: vs, _ => simp
    rw [at0]
    simp only [all, if_true]
    exact wpAny_pure hq
end
section
variable {prog : Program} {w : World} {A : Around} {E : Value → Shared → Prop} {s : Shared}
theorem tups_sortable {a : Addr} {vs : List Value} {k : Value → List Int} (hu : A.units < cLine) (h0 : 0 < vs.length) (hp : ∀ v ∈ vs, TI s.heap v (k v)) (ha : ∀ o, s.heap.get? a = some o → o.cls ≠ .type "tuple") :
    SrtO.SortableO prog w A s a vs fun v u => lex (k v) (k u) := by
  intro h' keep
  have hp' : ∀ v ∈ vs, TI h' v (k v) := fun v hm => (hp v hm).keeps fun b o e c => keep b o (fun z => by subst z; exact ha o e c) e
  by_cases hall : ∀ v ∈ vs, k v ≠ []
  · refine ⟨tuples' true, fun Q E hq => ?_, fun p q hm hm' => ti_tuples (hp' _ hm) (hp' _ hm') ⟨rfl, rfl⟩⟩
    have ks : ∀ us : List Value, (∀ v ∈ us, TI h' v (k v) ∧ k v ≠ []) → ∃ fs : List Value, PySem.W.KatTups h' us fs ∧ fs.length = us.length ∧ ∀ f ∈ fs, ∃ x t, f = Value.int x t := by
      intro us
      induction us with
      | nil => intro _; exact ⟨[], PySem.W.KatTups.nil, rfl, fun f hf => by cases hf⟩
      | cons u us ih =>
        intro hus
        obtain ⟨fs, f1, f2, f3⟩ := ih fun v hv => hus v (List.mem_cons_of_mem _ hv)
        obtain ⟨⟨b, o, its, n, e, ho, hc, hd, hi⟩, hne⟩ := hus u List.mem_cons_self
        subst e
        obtain ⟨x, t, hx⟩ : ∃ x t, its[0]? = some (Value.int x t) := by
          rw [← Array.getElem?_toList]
          generalize its.toList = l at hi
          generalize k (.ref b) = ns at hi hne
          cases hi with
          | nil => exact absurd rfl hne
          | cons x t r => exact ⟨x, t, rfl⟩
        refine ⟨.int x t :: fs, PySem.W.KatTups.cons ho hc hd hx f1, by rw [List.length_cons, List.length_cons, f2], fun f hf => ?_⟩
        rcases List.mem_cons.mp hf with e | hf
        · exact ⟨x, t, e⟩
        · exact f3 f hf
    obtain ⟨fs, f1, f2, f3⟩ := ks vs fun v hv => ⟨hp' v hv, hall v hv⟩
    refine PySem.W.kat_kind (T := .type "int") f1 (by omega) (fun f hm => ?_) (by rfl) ?_
    · obtain ⟨x, t, rfl⟩ := f3 f hm
      exact PySem.W.Looks.now
    · have e : (Value.type "int" != Value.type "tuple") = true := by
        first
          | decide +kernel
          | rfl
      rw [e]
      exact hq
  · have notall : ¬ ((vs.map (fstH h')).toArray.all fun x => x.isSome) = true := fun z => hall fun v hv => by
      rw [List.all_toArray, List.all_eq_true] at z
      exact (fst_some (hp' v hv)).mp (z _ (List.mem_map.mpr ⟨v, hv, rfl⟩))
    by_cases h1 : (((vs.map (fstH h')).toArray[0]?).bind id).isSome = true
    · refine ⟨general', fun Q E hq => ?_, fun p q hm hm' => ti_general hu (hp' _ hm) (hp' _ hm') ⟨rfl, rfl⟩⟩
      rw [keyKind'_eq, List.mapM_toArray, map_eq_pure_bind]
      refine wpAny_bind (wpAny_bind (firsts_run (s := { s with heap := h' }) (k := k) vs hp' (wpAny_pure ?_)))
      rw [if_neg notall, if_pos h1]
      exact wpAny_pure hq
    · refine ⟨oneType', fun Q E hq => ?_, fun p q hm hm' => ti_one hu (hp' _ hm) (hp' _ hm') ⟨rfl, rfl⟩⟩
      rw [keyKind'_eq, List.mapM_toArray, map_eq_pure_bind]
      refine wpAny_bind (wpAny_bind (firsts_run (s := { s with heap := h' }) (k := k) vs hp' (wpAny_pure ?_)))
      rw [if_neg notall, if_neg h1]
      exact wpAny_bind (types_tup (s := { s with heap := h' }) hp' h0 (wpAny_pure hq))
end
/-! ### sorted of a tuple -/
section
variable {prog : Program} {w : World} {A : Around} {E : Value → Shared → Prop} {s : Shared}
theorem collect_tup {l : Addr} {vs : List Value} {Q : List Value → Shared → Prop} (hl : IsTup s.heap l vs.toArray) (hsz : vs.length ≤ sizeLine)
    (h : Q vs { s with heap := (s.heap.push (seqObj "list" #[] 0)).update s.heap.objs.size (Obj.mapSeq (· ++ vs.toArray)) }) : wpAny (model prog w) A (collect (.ref l)) Q E s := by
  obtain ⟨o, ho, hc, n, hd⟩ := id hl
  unfold collect
  refine wpAny_bind (wpAny_runValue (codeAny_builtin entry_proto_collect' ?_))
  show wpAny _ _ (do again (.builtin "list.__iadd__" ⟨[← newList [], .ref l], []⟩)) _ _ s
  refine wpAny_bind (wpAny_newList (wpAny_pure ⟨Code.quiet_builtin _ (by decide +kernel), codeAny_builtin entry_list_iadd' ?_⟩))
  show wpAny _ _ (Builtin.List.listExtendWith (.ref s.heap.objs.size) (.ref l) (.ref s.heap.objs.size)) _ _ { s with heap := s.heap.push (seqObj "list" #[] 0) }
  unfold Builtin.List.listExtendWith
  have old : (s.heap.push (seqObj "list" #[] 0)).get? l = some o := Heap.get?_push_of_some _ ho
  refine wpAny_bind (wpAny_typeOf (T := "tuple") ⟨o, old, hc⟩ ?_)
  have yes : (Value.type "tuple" == Value.type "tuple") = true := by rfl
  rw [if_pos (by rw [yes]; simp)]
  refine wpAny_bind (listItems_at old hd ?_)
  refine wpAny_bind (listItems_at (xs := #[]) (n := 0) (Heap.get?_push_size _ rfl) rfl ?_)
  rw [if_neg (by simp)]
  refine wpAny_bind (listUpdate_at (xs := #[]) (n := 0) (Heap.get?_push_size _ rfl) rfl ?_ (Nat.zero_le _)
    (by show (#[] ++ vs.toArray).size ≤ sizeLine + 1; simp only [Array.size_append, List.size_toArray, List.length_nil]; omega))
  refine wpAny_pure ?_
  show wpAny (model prog w) A (do
      let o ← load s.heap.objs.size
      match o.data with
      | .seq xs _ => pure xs.toList
      | _ => unsupported "internal:collect") Q E { s with heap := (s.heap.push (seqObj "list" #[] 0)).update s.heap.objs.size (Obj.mapSeq (· ++ vs.toArray)) }
  refine wpAny_bind (wpAny_load (get?_update_seq (Heap.get?_push_size _ rfl) _) ?_)
  show wpAny _ _ (pure ((#[] : Array Value) ++ vs.toArray).toList) Q E _
  have e : ((#[] : Array Value) ++ vs.toArray).toList = vs := by simp
  rw [e]
  exact wpAny_pure h
/-- sorted(t, reverse=True), t a tuple or a list of tuples of ints -/
theorem sorted_tups {l : Addr} {vs : List Value} {k : Value → List Int} {Q : Value → Shared → Prop} (hu : A.units + 2 < cLine) (hl : IsTup s.heap l vs.toArray ∨ s.heap.IsList l vs.toArray) (hz : vs.length ≤ sizeLine) (hp : ∀ v ∈ vs, TI s.heap v (k v))
    (h : ∀ out : List Value, out.Perm vs → out.Pairwise (fun x y => lex (k x) (k y) = false) → Q (.ref (s.heap.objs.size + 1)) { s with heap := sortedAll s.heap vs out.toArray }) :
    wpAny (model prog w) A (call (.builtin "sorted") [.ref l] [(Str.ofString "reverse", .bool true)]) Q E s := by
  have fin : ∀ out : List Value, SrtO.Srtd (fun v u => lex (k v) (k u)) out → SrtO.Stb (fun v u => lex (k v) (k u)) out (if true = true then vs.reverse else vs) →
      Q (.ref (s.heap.objs.size + 1)) { s with heap := sortedAll s.heap vs (if true = true then out.toArray.reverse else out.toArray) } := by
    intro out h1 h2
    rw [if_pos rfl] at h2 ⊢
    have e : out.toArray.reverse = out.reverse.toArray := by simp
    rw [e]
    refine h _ (((List.reverse_perm out).trans h2.perm).trans (List.reverse_perm vs)) ?_
    exact List.pairwise_reverse.mpr h1
  have sortable : 2 ≤ vs.length → ∀ (h₁ : Heap) (a : Addr), h₁.get? a = some (seqObj "list" vs.toArray 0) → (∀ b o, s.heap.get? b = some o → b ≠ a ∧ h₁.get? b = some o) →
      SrtO.SortableO prog w A.in1.in1 { s with heap := h₁ } a vs fun v u => lex (k v) (k u) := by
    intro h2 h₁ a ha kk
    refine tups_sortable (s := { s with heap := h₁ }) (by show A.units + 1 + 1 < cLine; omega) (by omega) (fun v hm => (hp v hm).keeps fun b o e _ => (kk b o e).2) fun o e => ?_
    have e' : some o = some (seqObj "list" vs.toArray 0) := e.symm.trans ha
    cases e'
    exact fun c => absurd (Value.type.inj c) (by decide)
  rcases hl with hl | hl
  · refine call_function_entry_kw kind_sorted plain_sorted entry_sorted (args_sorted_rev _ _) ?_
    unfold Builtin.«sorted»
    refine wpAny_bind (m := checkCount "sorted" 1 1 _) (wpAny_pure ?_)
    refine wpAny_bind (collect_tup hl hz ?_)
    refine wpAny_bind (wpAny_newList ?_ hz)
    have sz : ((s.heap.push (seqObj "list" #[] 0)).update s.heap.objs.size (Obj.mapSeq (· ++ vs.toArray))).objs.size = s.heap.objs.size + 1 := by
      rw [Heap.size_update, size_push']
    have new : (((s.heap.push (seqObj "list" #[] 0)).update s.heap.objs.size (Obj.mapSeq (· ++ vs.toArray))).push (seqObj "list" vs.toArray 0)).get? (s.heap.objs.size + 1) = some (seqObj "list" vs.toArray 0) := by
      rw [← sz]
      exact Heap.get?_push_size _ rfl
    have keep : ∀ b o, s.heap.get? b = some o → b ≠ s.heap.objs.size + 1 ∧ (((s.heap.push (seqObj "list" #[] 0)).update s.heap.objs.size (Obj.mapSeq (· ++ vs.toArray))).push (seqObj "list" vs.toArray 0)).get? b = some o := by
      intro b o q
      have lt : b < s.heap.objs.size := Heap.lt_size q
      refine ⟨Nat.ne_of_lt (Nat.lt_succ_of_lt lt), Heap.get?_push_of_some _ ?_⟩
      rw [Heap.get?_update_ne _ _ _ _ (Nat.ne_of_lt lt)]
      exact Heap.get?_push_of_some _ q
    show wpAny _ _ _ _ _ { s with heap := ((s.heap.push (seqObj "list" #[] 0)).update s.heap.objs.size (Obj.mapSeq (· ++ vs.toArray))).push (seqObj "list" vs.toArray 0) }
    rw [sz]
    refine wpAny_bind (wpAny_holding (wpAny_call_entry_kw slot_list_sort ⟨_, new, rfl⟩ entry_list_sort ?_ (args_list_sort_rev _ _)))
    refine SrtR.list_sort_ordR (swo_key k) new hz (fun h2 => sortable h2 _ _ new keep) fun out hs hb => ⟨_, rfl, ?_⟩
    exact wpAny_pure ⟨_, rfl, fin out hs hb⟩
  · exact SrtR.sorted_ordK (fun _ => rfl) (args_sorted_rev _ _) (fun _ => args_list_sort_rev _ _) (swo_key k) hl hz sortable fin
end
section
variable {X : Cx}
def rSortTR (K : PySem.W.Frag) : List V → List V → Hp → VK → Prop := fun vs zs H Q => ∃ (a : Addr) (xs : List V) (k : V → List Int), vs = [V.ref a] ∧ zs = [V.bl true] ∧ (SqT K H a xs ∨ SqL K H a xs) ∧
  (∀ x ∈ xs, ∃ t, x = V.ref t ∧ H t = some (.tup ((k x).map V.int))) ∧
  ∀ ys p, ys.Perm xs → ys.Pairwise (fun x y => lex (k x) (k y) = false) → H p = none → Q (.ref p) (upd H p (.lst ys))
theorem cr_sortTR {r : Nat} (room : Room r X.A) : CallRK X (.builtin "sorted") [Str.ofString "reverse"] (rSortTR X.K) := by
  intro pins s σ H vs zs us ws Q I r rz h
  obtain ⟨a, xs, k, rfl, rfl, hs, hx, q⟩ := h
  obtain rfl := Vals.ref1 r
  obtain ⟨w1, rfl, e1⟩ := vals1 rz
  obtain rfl : w1 = Value.bool true := e1
  obtain ⟨its, rv, hl, hz⟩ : ∃ its : List Value, Vals xs its ∧ (IsTup s.heap a its.toArray ∨ s.heap.IsList a its.toArray) ∧ xs.length ≤ sizeLine := by
    rcases hs with hs | hs
    · obtain ⟨its, rv, p, hz⟩ := I.tuple hs
      exact ⟨its, rv, .inl p, hz⟩
    · obtain ⟨its, rv, p, hz⟩ := I.list hs
      exact ⟨its, rv, .inr p.isList, hz⟩
  obtain ⟨e1, e2⟩ := refs_back rv fun x m => by
    obtain ⟨t, e, _⟩ := hx x m
    exact ⟨t, e⟩
  refine sorted_tups (k := fun u => k (backV u)) (by have := room.un; omega) hl (by rw [← rv.length]; exact hz) (fun v hv => ?_) fun out h1 h2 => ?_
  · obtain ⟨t, rfl⟩ := e2 v hv
    have hm : V.ref t ∈ xs := by
      rw [e1]
      exact List.mem_map.mpr ⟨_, hv, rfl⟩
    obtain ⟨t', e, ht⟩ := hx _ hm
    cases e
    obtain ⟨_, its2, r2, o, ho, hc, n, hd⟩ := I.hok _ _ ht
    exact ⟨t, o, its2.toArray, n, rfl, ho, hc, hd, intsAre_of r2⟩
  · have h3 : ∀ u ∈ out, ∃ b, u = Value.ref b := fun u hu => e2 u (h1.mem_iff.mp hu)
    obtain ⟨n, hn⟩ := PyProof.Rows.sortedAll_at s.heap its out.toArray
    have hb : (out.map backV).Perm xs := by
      rw [e1]
      exact h1.map backV
    refine ⟨.ref _, upd H (s.heap.objs.size + 1) (.lst (out.map backV)), I.laid (t' := s.toks) (fun _ _ => PyProof.Rows.sortedAll_old) (Nat.le_succ _) ⟨?_, out, n, vals_back h3, hn⟩, rfl, q _ _ hb (List.pairwise_map.mpr h2) (I.hok.fresh (Nat.le_succ _))⟩
    rw [hb.length_eq]
    exact hz
end
end Lw

namespace Lw
open PySem PySem.Spec PyProof.Rows L2

/-! ### comprehensions over a tuple, over a range -/
/-- what a comprehension's reading asks behind its source -/
def LcEnd (J : It) (g : TG) (tt : TT) (te : TE) (vs : List Nat) (σ : L2.St) (H1 : Hp) (D : Addr) (Qd : Hp → Prop) : Prop :=
  ∃ W : Nat → Nat → Hp → Prop, (∃ m, W 0 m (upd H1 D (.lst []))) ∧ ∀ i m H, W i m H →
    (J.stop i H ∧ Qd H) ∨ (J.go i H ∧ ∃ Nx : Hp → Prop, (∀ H', Nx H' → ∃ m', m' < m ∧ W (i + 1) m' H') ∧ ∀ x H', J.yld i H x H' → g x (wipe σ vs) H' fun σ2 H2 => wipe σ2 vs = wipe σ vs ∧ tt σ2 H2 fun b H3 =>
      if b = true then te σ2 H3 fun y H4 => ∃ acc, H4 D = some (.lst acc) ∧ acc.length < sizeLine ∧ Nx (upd H4 D (.lst (acc ++ [y]))) else Nx H3)
theorem lc_tup {K : PySem.W.Frag} {a : Addr} {xs : List V} {g : TG} {tt : TT} {te : TE} {vs : List Nat} {σ : L2.St} {H1 : Hp} {D : Addr} {Qd : Hp → Prop} (Pv : Nat → Hp → Prop) (h0 : Pv 0 (upd H1 D (.lst []))) (hl : ∀ i H, i ≤ xs.length → Pv i H → SqT K H a xs)
    (hs : ∀ i x H, xs[i]? = some x → Pv i H → g x (wipe σ vs) H fun σ2 H2 => wipe σ2 vs = wipe σ vs ∧ tt σ2 H2 fun b H3 =>
      if b = true then te σ2 H3 fun y H4 => ∃ acc, H4 D = some (.lst acc) ∧ acc.length < sizeLine ∧ Pv (i + 1) (upd H4 D (.lst (acc ++ [y]))) else Pv (i + 1) H3) (hd : ∀ H, Pv xs.length H → Qd H) :
    LcEnd (Itt K a) g tt te vs σ H1 D Qd := by
  refine ⟨fun i m H => m = xs.length - i ∧ i ≤ xs.length ∧ Pv i H, ⟨xs.length, by simp, Nat.zero_le _, h0⟩, ?_⟩
  rintro i m H ⟨rfl, hi, p⟩
  have q := hl i H hi p
  by_cases lt : i < xs.length
  · refine Or.inr ⟨⟨xs, xs[i], q, by simp [lt]⟩, Pv (i + 1), ?_, ?_⟩
    · intro H' p'
      exact ⟨xs.length - (i + 1), by omega, rfl, lt, p'⟩
    · rintro x H' ⟨e, y⟩
      subst e
      exact hs i x _ (y xs q) p
  · have e : i = xs.length := by omega
    subst e
    exact Or.inl ⟨⟨xs, q, Nat.le_refl _⟩, hd H p⟩
theorem lc_range {lo : Int} {n : Nat} {g : TG} {tt : TT} {te : TE} {vs : List Nat} {σ : L2.St} {H1 : Hp} {D : Addr} {Qd : Hp → Prop} (Pv : Nat → Hp → Prop) (h0 : Pv 0 (upd H1 D (.lst [])))
    (hs : ∀ i H, i < n → Pv i H → g (.int (lo + i)) (wipe σ vs) H fun σ2 H2 => wipe σ2 vs = wipe σ vs ∧ tt σ2 H2 fun b H3 =>
      if b = true then te σ2 H3 fun y H4 => ∃ acc, H4 D = some (.lst acc) ∧ acc.length < sizeLine ∧ Pv (i + 1) (upd H4 D (.lst (acc ++ [y]))) else Pv (i + 1) H3) (hd : ∀ H, Pv n H → Qd H) :
    LcEnd (Itr lo n) g tt te vs σ H1 D Qd := by
  refine ⟨fun i m H => m = n - i ∧ i ≤ n ∧ Pv i H, ⟨n, by simp, Nat.zero_le _, h0⟩, ?_⟩
  rintro i m H ⟨rfl, hi, p⟩
  by_cases lt : i < n
  · refine Or.inr ⟨lt, Pv (i + 1), ?_, ?_⟩
    · intro H' p'
      exact ⟨n - (i + 1), by omega, rfl, lt, p'⟩
    · rintro x H' ⟨e, y⟩
      subst e y
      exact hs i _ lt p
  · have e : i = n := by omega
    subst e
    exact Or.inl ⟨Nat.le_refl _, hd H p⟩

/-! ### the k-th greatest -/
section
variable {α : Type}
def above (key : α → List Int) (xs : List α) (v : α) : Nat := (xs.filter fun x => lex (key v) (key x)).length
def below (key : α → List Int) (xs : List α) (v : α) : Nat := (xs.filter fun x => lex (key x) (key v)).length
structure IsKth (key : α → List Int) (xs : List α) (k : Nat) (v : α) : Prop where
  up : above key xs v < k
  dn : below key xs v + k ≤ xs.length
theorem filter_false {p : α → Bool} {l : List α} (h : ∀ x ∈ l, p x = false) : l.filter p = [] :=
  List.filter_eq_nil_iff.mpr fun x hx => by
    rw [h x hx]
    exact Bool.false_ne_true
theorem kth_parts {key : α → List Int} {xs A B : List α} {v : α} (hp : (A ++ v :: B).Perm xs) (hs : (A ++ v :: B).Pairwise fun x y => lex (key x) (key y) = false) : IsKth key xs (A.length + 1) v := by
  obtain ⟨h1, h2, h3⟩ := List.pairwise_append.mp hs
  obtain ⟨h4, h5⟩ := List.pairwise_cons.mp h2
  have up : ∀ x ∈ v :: B, lex (key v) (key x) = false := by
    intro x hx
    rcases List.mem_cons.mp hx with z | hx
    · rw [z]
      exact lex_irr _
    · exact h4 x hx
  have dn : ∀ x ∈ A, lex (key x) (key v) = false := fun x hx => h3 x hx _ List.mem_cons_self
  have n1 : above key xs v = ((A ++ v :: B).filter fun x => lex (key v) (key x)).length := (hp.filter _).length_eq.symm
  have n2 : below key xs v = ((A ++ v :: B).filter fun x => lex (key x) (key v)).length := (hp.filter _).length_eq.symm
  rw [List.filter_append, filter_false up, List.append_nil] at n1
  rw [List.filter_append, filter_false dn, List.nil_append, List.filter_cons_of_neg (by rw [lex_irr]; exact Bool.false_ne_true)] at n2
  have f1 := List.length_filter_le (fun x => lex (key v) (key x)) A
  have f2 := List.length_filter_le (fun x => lex (key x) (key v)) B
  have hl := hp.length_eq
  rw [List.length_append, List.length_cons] at hl
  exact ⟨by omega, by omega⟩
theorem kth_of_sorted {key : α → List Int} {xs ys : List α} {k : Nat} {v : α} (hp : ys.Perm xs) (hs : ys.Pairwise fun x y => lex (key x) (key y) = false) (h : ys[k]? = some v) : IsKth key xs (k + 1) v := by
  obtain ⟨hk, hv⟩ := List.getElem?_eq_some_iff.mp h
  have e : ys = ys.take k ++ v :: ys.drop (k + 1) := by
    rw [← hv, ← List.drop_eq_getElem_cons hk]
    exact (List.take_append_drop k ys).symm
  have lt : (ys.take k).length = k := by
    rw [List.length_take]
    omega
  have r := kth_parts (key := key) (xs := xs) (A := ys.take k) (v := v) (B := ys.drop (k + 1)) (by rw [← e]; exact hp) (by rw [← e]; exact hs)
  rw [lt] at r
  exact r
theorem filter_le {p q : α → Bool} : ∀ {l : List α}, (∀ x, p x = true → q x = true) → (l.filter p).length ≤ (l.filter q).length
  | [], _ => Nat.le_refl _
  | x :: l, h => by
    have ih := filter_le (l := l) h
    cases hp : p x with
    | true =>
      rw [List.filter_cons_of_pos hp, List.filter_cons_of_pos (h x hp), List.length_cons, List.length_cons]
      omega
    | false =>
      rw [List.filter_cons_of_neg (by rw [hp]; exact Bool.false_ne_true)]
      cases hq : q x with
      | true =>
        rw [List.filter_cons_of_pos hq, List.length_cons]
        omega
      | false =>
        rw [List.filter_cons_of_neg (by rw [hq]; exact Bool.false_ne_true)]
        exact ih
theorem filter_split {p : α → Bool} : ∀ l : List α, (l.filter p).length + (l.filter fun x => !p x).length = l.length
  | [] => rfl
  | x :: l => by
    have ih := filter_split (p := p) l
    cases hp : p x with
    | true =>
      rw [List.filter_cons_of_pos hp, List.filter_cons_of_neg (by rw [hp]; decide), List.length_cons, List.length_cons]
      omega
    | false =>
      rw [List.filter_cons_of_neg (by rw [hp]; decide), List.filter_cons_of_pos (by rw [hp]; rfl), List.length_cons, List.length_cons]
      omega
theorem kth_less {key : α → List Int} {xs : List α} {k : Nat} {u v : α} (hu : IsKth key xs k u) (hv : IsKth key xs k v) : lex (key u) (key v) = false := by
  cases h : lex (key u) (key v) with
  | false => rfl
  | true =>
    exfalso
    have O := swo_key key
    have e1 : (xs.filter fun x => !lex (key x) (key v)).length ≤ above key xs u := by
      refine filter_le fun x hx => ?_
      have hx' : lex (key x) (key v) = false := by simpa using hx
      exact O.ltle (x := u) (y := v) (z := x) h hx'
    have e2 := filter_split (p := fun x => lex (key x) (key v)) xs
    have e3 : (xs.filter fun x => lex (key x) (key v)).length = below key xs v := rfl
    have := hu.up
    have := hv.dn
    omega
theorem kth_same {key : α → List Int} {xs : List α} {k : Nat} {u v : α} (hu : IsKth key xs k u) (hv : IsKth key xs k v) : key u = key v := lex_eq _ _ (kth_less hu hv) (kth_less hv hu)
end
end Lw

namespace Lw
open PySem PySem.Spec PyProof.Rows L2

/-! ### a text once or not at all -/
def rMulS : R2 := fun x y H Q => ∃ (z : Str) (b : Bool), x = .str z ∧ y = .int (if b = true then 1 else 0) ∧ Q (.str (if b = true then z else Str.empty)) H
theorem op_mulS {X : Cx} : OpR X (binaryOp .Mult) rMulS := by
  intro pins s σ H x y v u Q I rx ry h
  obtain ⟨z, b, rfl, rfl, q⟩ := h
  obtain ⟨t, rfl⟩ := rx
  obtain ⟨t', rfl⟩ := ry
  cases b with
  | false => exact PySem.P.mul_str_none (by decide) (by decide) ⟨.str Str.empty, H, I.tok _, ⟨_, rfl⟩, q⟩
  | true =>
    refine PySem.P.mul_str (by decide) (fun _ e => ?_) (fun _ e => ?_) ?_
    · exact absurd e (by simp)
    · exact absurd e (by simp)
    · exact ⟨.str z, H, I, ⟨_, rfl⟩, q⟩

/-! ### a tuple once, or several times -/
theorem tuple_mul1 (l : Addr) (items : Array Value) (n : Nat) (dd : Option Addr) (sl : Array (Option Value)) (u : Tok) :
    Meets (Builtin.«tuple.__mul__» ⟨[.ref l, .int 1 u], []⟩) (fun _ R s => s.heap.get? l = some { cls := .type "tuple", dict := dd, data := .seq items n, slots := sl } ∧ R (.ok (.ret (Value.ref l))) s) :=
  .of_wp fun prog w A R s h => by
    obtain ⟨hp, g, d, tk, os⟩ := s
    obtain ⟨hl, h⟩ := h
    have f1 := AutoSeq1.idx_int
    wp_walk using wpAny_loadPart' hl
    exact ⟨_, rfl, h⟩
def rRepU : R2 := fun x y H Q => ∃ l k xs, x = .ref l ∧ y = .int k ∧ H l = some (.tup xs) ∧ xs ≠ [] ∧ 1 ≤ k ∧ k ≤ 1000 ∧ xs.length ≤ 1000 ∧
  ∀ p H', Same H H' → H' p = some (.tup (List.replicate k.toNat xs).flatten) → (p = l ∨ H p = none) → Q (.ref p) H'
theorem op_repU {X : Cx} : OpR X (binaryOp .Mult) rRepU := by
  intro pins s σ H x y v u Q I rx ry h
  obtain ⟨l, k, xs, rfl, rfl, hT, hne, h1, h2, hz, q⟩ := h
  by_cases hk : k = 1
  · subst hk
    cases rx
    obtain ⟨t, rfl⟩ := ry
    obtain ⟨its, r, ⟨⟨cls, dd, data, sl⟩, ho, hc, n, hd⟩, hs⟩ := I.tuple (SqT.of hT)
    simp only at hc hd
    subst hc hd
    refine wpAny_binaryOp_repeat_ref (T := "tuple") (U := "int") (by decide) ⟨_, ho, rfl⟩ (fun s' => typeIs_int s' 1 t) noFill_tuple_mul F.fills_int_mul F.slot_int_rmul repeat_tuple F.slot_int_index.lookup
      (call_meets F.slot_int_rmul (typeIs_int s 1 t) F.entry_int_rmul (F.args_int_rmul_2 _ _) (int_rmul_tuple 1 t l its.toArray n dd sl)
        ⟨ho, rfl, ⟨_, ho, rfl⟩, call_meets F.slot_tuple_mul ⟨_, ho, rfl⟩ F.entry_tuple_mul (F.args_tuple_mul_2 _ _) (tuple_mul1 l its.toArray n dd sl t) ⟨ho, ?_⟩⟩)
    refine ⟨.ref l, H, I, rfl, q l H (Same.refl H) ?_ (Or.inl rfl)⟩
    have e : (List.replicate (1 : Int).toNat xs).flatten = xs := by
      show (List.replicate 1 xs).flatten = xs
      simp
    rw [e]
    exact hT
  · exact op_repT pins s σ H _ _ v u Q I rx ry ⟨l, k, xs, rfl, rfl, SqT.of hT, hne, by omega, h2, hz, fun p np => q p _ (upd_grow np) upd_same (Or.inr np)⟩

/-! ### len, the written part told -/
def rLen (K : PySem.W.Frag) : List V → Hp → VK → Prop := fun xs H Q => ∃ p ys, xs = [V.ref p] ∧ (SqL K H p ys ∨ SqT K H p ys) ∧ Q (.int ys.length) H
theorem call_lenK {X : Cx} {K : PySem.W.Frag} (h : X.K = K := by rfl) : CallR X (.builtin "len") (rLen K) := by
  subst h
  exact call_len_seq
def rIsiKK (K : PySem.W.Frag) : List V → Hp → VK → Prop := rIsi K
theorem call_isiKK {X : Cx} {K : PySem.W.Frag} (h : X.K = K := by rfl) : CallR X (.builtin "isinstance") (rIsi K) := by
  subst h
  exact call_isi

/-! ### texts of letters -/
def Lt (z : Str) : Prop := ∀ c ∈ z.cps.toList, 97 ≤ c ∧ c ≤ 122
theorem app_cps (x y : Str) : (x ++ y).cps.toList = x.cps.toList ++ y.cps.toList := by
  show (x.cps ++ y.cps).toList = _
  simp
theorem len_cps (z : Str) : z.length = z.cps.toList.length := by
  show z.cps.size = _
  simp
theorem lt_app {x y : Str} (hx : Lt x) (hy : Lt y) : Lt (x ++ y) := by
  intro c hc
  rw [app_cps] at hc
  rcases List.mem_append.mp hc with h | h
  · exact hx c h
  · exact hy c h
theorem lt_one {c : Nat} (h : 97 ≤ c ∧ c ≤ 122) : Lt ⟨#[c]⟩ := by
  intro d hd
  have e : d = c := by simpa using hd
  rw [e]
  exact h
theorem lt_empty : Lt Str.empty := by
  intro c hc
  exact absurd hc (by decide +revert)
theorem lt_cut {z : Str} (h : Lt z) (lo hi : Option Int) : Lt (cutS z lo hi) := by
  intro c hc
  have hc' : c ∈ (z.cps.toList.drop (HT.sIx z.length 0 lo)).take (HT.sIx z.length z.length hi - HT.sIx z.length 0 lo) := by
    have : (cutS z lo hi).cps.toList = (z.cps.toList.drop (HT.sIx z.length 0 lo)).take (HT.sIx z.length z.length hi - HT.sIx z.length 0 lo) := by
      unfold cutS
      simp
    rw [← this]
    exact hc
  exact h c (List.mem_of_mem_drop (List.mem_of_mem_take hc'))
theorem cut_len (z : Str) (lo hi : Option Int) : (cutS z lo hi).length = min (HT.sIx z.length z.length hi - HT.sIx z.length 0 lo) (z.length - HT.sIx z.length 0 lo) := by
  rw [len_cps (cutS z lo hi)]
  unfold cutS
  show ((z.cps.toList.drop (HT.sIx z.length 0 lo)).take (HT.sIx z.length z.length hi - HT.sIx z.length 0 lo)).toArray.toList.length = _
  rw [List.toList_toArray, List.length_take, List.length_drop, ← len_cps]
theorem cut_two (z : Str) (i : Nat) : (cutS z none (some (i : Int))).length + (cutS z (some (i : Int)) none).length = z.length := by
  rw [cut_len, cut_len, HT.sIx_none, HT.sIx_none, HT.sIx_nat, HT.sIx_nat]
  omega
theorem join_lt : ∀ {ys : List Str}, (∀ y ∈ ys, Lt y) → Lt (Str.join Str.empty ys) ∧ (Str.join Str.empty ys).length = (ys.map (·.length)).sum
  | [], _ => ⟨lt_empty, rfl⟩
  | [y], h => ⟨h y List.mem_cons_self, by simp [Str.join]⟩
  | x :: y :: r, h => by
    obtain ⟨h1, h2⟩ := join_lt (ys := y :: r) fun z hz => h z (List.mem_cons_of_mem _ hz)
    have e : Str.join Str.empty (x :: y :: r) = x ++ Str.empty ++ Str.join Str.empty (y :: r) := rfl
    refine ⟨by rw [e]; exact lt_app (lt_app (h x List.mem_cons_self) lt_empty) h1, ?_⟩
    rw [e, strLen_append, strLen_append, h2]
    simp only [List.map_cons, List.sum_cons]
    have : Str.empty.length = 0 := rfl
    omega
theorem bd_str {n : Nat} {z : Str} (h : Lt z) {m : Nat} (hm : z.length ≤ m) : Bd n m (.str z) := by
  refine ⟨?_, rfl, ?_, ?_⟩
  · simp only [PyData.leavesShort, List.all_eq_true, decide_eq_true_eq]
    intro c hc
    have := (h c hc).2
    exact Nat.lt_of_le_of_lt this (by decide)
  · simp only [PyData.depth]
    exact Nat.zero_le _
  · simp only [PyData.weight]
    exact hm
end Lw

namespace Lw
open PySem PySem.Spec PyProof.Rows L2

/-! ### a tuple beside none -/
def rNe0 : R2 := fun x y H Q => ∃ a b xs, x = .ref a ∧ y = .ref b ∧ H a = some (.tup xs) ∧ H b = some (.tup []) ∧ Q (.bl (!decide (xs.length = 0))) H
def rEq0 : R2 := fun x y H Q => ∃ a b xs, x = .ref a ∧ y = .ref b ∧ H a = some (.tup xs) ∧ H b = some (.tup []) ∧ Q (.bl (decide (xs.length = 0))) H
theorem op_ne0 {X : Cx} {k : Nat} (room : Room k X.A) : OpR X (compareOp .NotEq) rNe0 := by
  intro pins s σ H x y v u Q I rx ry h
  obtain ⟨a, b, xs, rfl, rfl, ha, hb, q⟩ := h
  cases rx
  cases ry
  obtain ⟨its, r1, p1, _⟩ := I.tuple (SqT.of ha)
  obtain ⟨its2, r2, p2, _⟩ := I.tuple (SqT.of hb)
  cases r2
  have hl := r1.length
  refine SeqAt.RcNeAt.tuples (e := fun _ => true) p1 p2 room.units0 (fun j h1 h2 => absurd h2 (Nat.not_lt_zero j)) X.prog X.w X.xe _ ?_
  have e : (!((List.range (min its.toArray.size ([] : List Value).toArray.size)).all (fun _ => true) && its.toArray.size == ([] : List Value).toArray.size)) = !decide (xs.length = 0) := by
    rw [List.size_toArray, ← hl]
    show (!(((List.range (min xs.length 0)).all fun _ => true) && (xs.length == 0))) = _
    rw [Nat.min_zero]
    show (!(true && (xs.length == 0))) = _
    rw [Bool.true_and]
    rfl
  rw [e]
  exact ⟨.bl (!decide (xs.length = 0)), H, I, rfl, q⟩
theorem op_eq0 {X : Cx} {k : Nat} (room : Room k X.A) : OpR X (compareOp .Eq) rEq0 := by
  intro pins s σ H x y v u Q I rx ry h
  obtain ⟨a, b, xs, rfl, rfl, ha, hb, q⟩ := h
  cases rx
  cases ry
  obtain ⟨its, r1, p1, _⟩ := I.tuple (SqT.of ha)
  obtain ⟨its2, r2, p2, _⟩ := I.tuple (SqT.of hb)
  cases r2
  have hl := r1.length
  refine SeqAt.RcAt.tuples (e := fun _ => true) p1 p2 room.units0 (fun j h1 h2 => absurd h2 (Nat.not_lt_zero j)) X.prog X.w X.xe _ ?_
  have e : ((List.range (min its.toArray.size ([] : List Value).toArray.size)).all (fun _ => true) && its.toArray.size == ([] : List Value).toArray.size) = decide (xs.length = 0) := by
    rw [List.size_toArray, ← hl]
    show (((List.range (min xs.length 0)).all fun _ => true) && (xs.length == 0)) = _
    rw [Nat.min_zero]
    show (true && (xs.length == 0)) = _
    rw [Bool.true_and]
    rfl
  rw [e]
  exact ⟨.bl (decide (xs.length = 0)), H, I, rfl, q⟩

/-! ### more of how large data are -/
theorem len_le_wa : ∀ ds : List PyData, ds.length ≤ PyData.weightAll ds
  | [] => Nat.zero_le _
  | d :: ds => by
    have := len_le_wa ds
    simp only [PyData.weightAll, List.length_cons]
    omega
theorem Bd.small {n : Nat} {i : Int} (h : i.natAbs < 16) : Bd n 5 (.int i) := by
  have hl : i.natAbs.log2 < 4 := PySem.Flt.log2_lt_of (by decide) h
  have b := Bd.int (n := n) (i := i) (Nat.lt_trans h (by decide +kernel))
  refine ⟨b.lf, b.sh, b.dp, ?_⟩
  simp only [PyData.weight]
  split <;> omega
theorem Bd.ofTup {n m : Nat} {ds : List PyData} (h : Bd n m (.tuple ds)) : BA n m ds ∧ ∀ x ∈ ds, Bd (n - 1) m x := by
  have h1 := h.lf
  have h2 := h.sh
  have h3 := h.dp
  have h4 := h.wt
  simp only [PyData.leavesShort] at h1
  simp only [PyData.showable] at h2
  simp only [PyData.depth] at h3
  simp only [PyData.weight] at h4
  refine ⟨⟨h1, h2, by omega, h4⟩, ?_⟩
  have all : ∀ es : List PyData, PyData.leavesShortAll 64 es = true → PyData.showableAll es = true → PyData.depthAll es + 1 ≤ n → PyData.weightAll es ≤ m → ∀ x ∈ es, Bd (n - 1) m x := by
    intro es
    induction es with
    | nil =>
      intro _ _ _ _ x hx
      cases hx
    | cons e es ih =>
      intro a b c d x hx
      simp only [PyData.leavesShortAll, Bool.and_eq_true] at a
      simp only [PyData.showableAll, Bool.and_eq_true] at b
      simp only [PyData.depthAll] at c
      simp only [PyData.weightAll] at d
      rcases List.mem_cons.mp hx with z | z
      · rw [z]
        exact ⟨a.1, b.1, by omega, by omega⟩
      · exact ih a.2 b.2 (by omega) (by omega) x z
  exact all ds h1 h2 h3 h4
theorem D.tupOf {f : Bool} {H : Hp} {v : V} {ds : List PyData} (h : D f H v (.tuple ds)) : ∃ a xs, v = .ref a ∧ H a = some (.tup xs) ∧ DA f H xs ds := by
  cases h with
  | tup e t => exact ⟨_, _, rfl, e, t⟩
theorem Tp.of {as : List Addr} {H : Hp} {v : V} {ds : List PyData} (h : D true (remL as H) v (.tuple ds)) : ∃ b, v = .ref b ∧ Tp as H b ds := by
  obtain ⟨b, xs, e, g, t⟩ := h.tupOf
  obtain ⟨n, g'⟩ := remL_some g
  exact ⟨b, e, n, xs, g', t⟩

/-! ### a list of a tuple's parts, its place not that of sys.modules -/
theorem call_listN {X : Cx} : CallR X (.type "list") (fun vs H Q => ∃ b ys, vs = [.ref b] ∧ H b = some (.tup ys) ∧ ∀ l, H l = none → l ≠ sysModules → Q (.ref l) (upd H l (.lst ys))) := by
  intro pins s σ H vs us Q I rv ⟨b, ys, e, hb, q⟩
  subst e
  obtain ⟨u, rfl, ru⟩ := vals1 rv
  cases ru
  obtain ⟨its, rr, pl, hz⟩ := I.tuple (SqT.of hb)
  have hlen := rr.length
  obtain ⟨o, ho, hc, n, hd⟩ := pl
  have far : s.heap.objs.size ≠ sysModules := by
    have h1 : mainGlobals < X.base.objs.size := I.ok.mod.glob.lt
    have h2 := Nat.le_trans I.ok.bsz I.sz
    exact Nat.ne_of_gt (Nat.lt_of_lt_of_le (Nat.lt_trans (by decide) h1) h2)
  refine call_list_seq b (.inr rfl) ho hc hd (fun h' c kp e => ?_) (by rw [List.size_toArray]; omega)
  have new := q _ (I.hok.fresh (Nat.le_refl _)) far
  exact ⟨.ref s.heap.objs.size, _, I.laid (o := .lst ys) (t' := s.toks) kp (Nat.le_refl _) ⟨hz, its, c, rr, e⟩, rfl, new⟩

/-! ### places that were free -/
theorem Kp.free {a p : Addr} {H H' : Hp} {o : HO} (k : Kp a H H') (h : H p = none) : Kp a H (L2.upd H' p o) := fun b u n e => by
  have nb : b ≠ p := fun z => by
    rw [z, h] at e
    cases e
  rw [upd_ne nb]
  exact k b u n e
theorem Kp.none {a p : Addr} {n : Nat} {H H' : Hp} (k : Kp a H H') (g : Hd H' a n) (h : H' p = Option.none) : H p = Option.none := by
  have np : p ≠ a := fun z => by
    obtain ⟨_, _, _, e, _⟩ := g
    rw [z, e] at h
    cases h
  cases e : H p with
  | none => rfl
  | some o =>
    rw [k p o np e] at h
    cases h
theorem Tp.cut {as : List Addr} {H H' : Hp} {b p : Addr} {xs : List V} {ds : List PyData} {lo hi : Option Int} (nb : b ∉ as) (da : DA true (remL as H) xs ds) (tr : Trk as H) (s : Same H H') (e : H' p = some (.tup (cutV xs lo hi))) (o : p = b ∨ H p = Option.none) : Tp as H' p (cutD ds lo hi) := by
  refine ⟨?_, _, e, (da.cut lo hi).same (same_remL s)⟩
  rcases o with rfl | o
  · exact nb
  · exact tr.new o
theorem Tp.cat {as : List Addr} {H H' : Hp} {b c p : Addr} {xs ys : List V} {ds es : List PyData} (nb : b ∉ as) (nc : c ∉ as) (da : DA true (remL as H) xs ds) (db : DA true (remL as H) ys es) (tr : Trk as H) (s : Same H H') (e : H' p = some (.tup (xs ++ ys))) (o : p = b ∨ p = c ∨ H p = Option.none) : Tp as H' p (ds ++ es) := by
  refine ⟨?_, _, e, (da.append db).same (same_remL s)⟩
  rcases o with rfl | rfl | o
  · exact nb
  · exact nc
  · exact tr.new o
theorem remL_less {a : Addr} {as : List Addr} {H : Hp} : Same (remL (a :: as) H) (remL as H) := fun b o e => by
  obtain ⟨n, g⟩ := remL_some e
  rw [remL_ne (fun z => n (List.mem_cons_of_mem _ z))]
  exact g
/-- some rest of a goal, known later -/
theorem later {a b : TS} {k : Ends} {σ : L2.St} {H : Hp} {P : Hp → Prop} (h2 : ∀ H, P H → b k σ H) (h1 : (∀ H, P H → b k σ H) → tSeq a b k σ H) : tSeq a b k σ H := h1 h2
theorem Hd.at {H : Hp} {a p : Addr} {n : Nat} {o : HO} (h : Hd H a n) (np : p ≠ a) : Hd (upd H p o) a n := by
  obtain ⟨g, m, c, e, r⟩ := h
  exact ⟨g, m, c, by rw [upd_ne np.symm]; exact e, r⟩
theorem Hd.new {H : Hp} {a p : Addr} {n : Nat} (h : Hd H a n) (e : H p = Option.none) : p ≠ a := fun z => by
  obtain ⟨_, _, _, g, _⟩ := h
  rw [z, g] at e
  cases e
theorem Trk.at {as : List Addr} {H : Hp} {p : Addr} {o : HO} (t : Trk as H) : Trk as (upd H p o) := fun b hb z => by
  by_cases e : b = p
  · rw [e, upd_same] at z
    cases z
  · rw [upd_ne e] at z
    exact t b hb z
theorem Trk.cons {as : List Addr} {H : Hp} {p : Addr} (t : Trk as H) (h : H p ≠ Option.none) : Trk (p :: as) H := fun b hb => by
  rcases List.mem_cons.mp hb with e | e
  · rw [e]
    exact h
  · exact t b e
theorem remL_in {as : List Addr} {H : Hp} {p : Addr} {o : HO} (h : p ∈ as) : Same (remL as H) (remL as (upd H p o)) := fun b u e => by
  obtain ⟨n, g⟩ := remL_some e
  have nb : b ≠ p := fun z => n (z ▸ h)
  rw [remL_ne n, upd_ne nb]
  exact g
theorem da_of {H : Hp} {p : PyData → Prop} : ∀ {vs : List V}, (∀ v ∈ vs, ∃ d, D true H v d ∧ p d) → ∃ ds, DA true H vs ds ∧ ∀ d ∈ ds, p d
  | [], _ => ⟨[], .nil, fun d hd => by cases hd⟩
  | v :: vs, h => by
    obtain ⟨d, h1, h2⟩ := h v List.mem_cons_self
    obtain ⟨ds, h3, h4⟩ := da_of (vs := vs) fun u hu => h u (List.mem_cons_of_mem _ hu)
    refine ⟨d :: ds, .cons h1 h3, fun e he => ?_⟩
    rcases List.mem_cons.mp he with z | z
    · rw [z]
      exact h2
    · exact h4 e z
/-- none, or a small number -/
def Spot (v : V) : Prop := v = .non ∨ ∃ k : Nat, v = .int k ∧ k < 16
theorem Spot.d {H : Hp} {v : V} (h : Spot v) : ∃ d, D true H v d ∧ Bd 1 5 d := by
  rcases h with e | ⟨k, e, hk⟩
  · subst e
    exact ⟨.none, .non, Bd.flat0 (.inl rfl) (by decide) (by decide)⟩
  · subst e
    exact ⟨.int k, .int _, Bd.small (by omega)⟩
end Lw

namespace Lw
open PySem PySem.Spec PyProof.Rows L2

/-! ### one tuple of ints above another -/
theorem toks_lex : ∀ ms ns : List Int, PyProof.Rows.lexLt itemOrd (PySem.W.keyToksAll (ms.map PyData.int)) (PySem.W.keyToksAll (ns.map PyData.int)) = lex ms ns
  | [], [] => by decide
  | [], n :: ns => by
    simp only [List.map_nil, List.map_cons, PySem.W.keyToksAll]
    exact lex_diff (O := itemOrd) (by decide)
  | m :: ms, [] => by
    simp only [List.map_nil, List.map_cons, PySem.W.keyToksAll]
    exact lex_diff (O := itemOrd) (by decide)
  | m :: ms, n :: ns => by
    have ih := toks_lex ms ns
    simp only [List.map_cons, PySem.W.keyToksAll, PySem.W.keyToks, List.singleton_append]
    rw [PyProof.Rows.lex_self (O := itemOrd), lex_cons]
    by_cases e : m = n
    · subst e
      rw [PyProof.Rows.lex_self (O := itemOrd), if_pos rfl]
      exact ih
    · rw [PyProof.Rows.lex_diff (O := itemOrd) (by intro z; exact e (Sum.inl.inj z)), if_neg e]
      rfl
theorem alike_ints : ∀ ms ns : List Int, PySem.W.alikeAll (ms.map PyData.int) (ns.map PyData.int) = true
  | [], ns => by cases ns <;> simp only [List.map_nil, List.map_cons, PySem.W.alikeAll]
  | m :: ms, [] => by simp only [List.map_nil, List.map_cons, PySem.W.alikeAll]
  | m :: ms, n :: ns => by simp only [List.map_cons, PySem.W.alikeAll, PySem.W.alike, alike_ints ms ns, Bool.and_self]
theorem da_ints {f : Bool} {H : Hp} : ∀ ns : List Int, DA f H (ns.map V.int) (ns.map PyData.int)
  | [] => .nil
  | n :: ns => .cons (.int n) (da_ints ns)
theorem depth_ints : ∀ ns : List Int, PyData.depthAll (ns.map PyData.int) = 0
  | [] => by simp [PyData.depthAll]
  | n :: ns => by simp [PyData.depthAll, PyData.depth, depth_ints ns]
def rGtT : R2 := fun x y H Q => ∃ a b ns ms, x = .ref a ∧ y = .ref b ∧ H a = some (.tup (List.map V.int ns)) ∧ H b = some (.tup (List.map V.int ms)) ∧ Q (.bl (lex ms ns)) H
theorem op_gtT {X : Cx} {k : Nat} (room : Room k X.A) : OpR X (compareOp .Gt) rGtT := by
  intro pins s σ H x y v u Q I rx ry h
  obtain ⟨a, b, ns, ms, rfl, rfl, ha, hb, q⟩ := h
  obtain ⟨as, r1, _⟩ := D.reads (f := false) I (.tup ha (da_ints ns)) v rx
  obtain ⟨bs, r2, _⟩ := D.reads (f := false) I (.tup hb (da_ints ms)) u ry
  refine PySem.W.gt_data r1 r2 (by simp only [PySem.W.alike]; exact alike_ints ns ms) (by intro z; cases z) ?_ ?_
  · simp only [PyData.depth, depth_ints]
    have := room.units
    omega
  · have e : PySem.W.dataLt (.tuple (ms.map PyData.int)) (.tuple (ns.map PyData.int)) = lex ms ns := by
      simp only [PySem.W.dataLt, PySem.W.keyToks]
      exact toks_lex ms ns
    rw [e]
    exact ⟨.bl (lex ms ns), H, I, rfl, q⟩

/-! ### a tuple of ints taken out of a list -/
theorem plain_ints : ∀ ns : List Int, PyData.plainAll (ns.map PyData.int) = true
  | [] => by simp only [List.map_nil, PyData.plainAll]
  | n :: ns => by simp only [List.map_cons, PyData.plainAll, PyData.plain, plain_ints ns, Bool.and_self]
def rRemT : V → List V → Hp → VK → Prop := fun x vs H Q => ∃ (l : Addr) (xs : List V) (kk : List (List Int)) (b : Addr) (ns : List Int) (j : Nat), x = .ref l ∧ vs = [.ref b] ∧ H l = some (.lst xs) ∧
  DA false H xs (kk.map fun m => .tuple (m.map PyData.int)) ∧ H b = some (.tup (ns.map V.int)) ∧ kk[j]? = some ns ∧ (∀ m, m < j → kk[m]? ≠ some ns) ∧ Q .non (upd H l (.lst (xs.eraseIdx j)))
theorem eqv_ints : ∀ ms ns : List Int, PyData.eqvAll (ms.map PyData.int) (ns.map PyData.int) = decide (ms = ns)
  | [], [] => by simp [PyData.eqvAll]
  | [], n :: ns => by simp [PyData.eqvAll]
  | m :: ms, [] => by simp [PyData.eqvAll]
  | m :: ms, n :: ns => by
    have ih := eqv_ints ms ns
    simp only [List.map_cons, PyData.eqvAll, ih]
    have e : PyData.eqv (.int m) (.int n) = (m == n) := by first | rfl | (simp only [PyData.eqv]; done) | (simp [PyData.eqv]; done)
    rw [e]
    by_cases h1 : m = n
    · subst h1
      simp
    · have : (m == n) = false := by simpa using h1
      rw [this, Bool.false_and]
      exact (decide_eq_false (fun z => h1 (List.cons.inj z).1)).symm
theorem eqv_tup (ms ns : List Int) : PyData.eqv (.tuple (ms.map PyData.int)) (.tuple (ns.map PyData.int)) = decide (ms = ns) := by
  have e : PyData.eqv (.tuple (ms.map PyData.int)) (.tuple (ns.map PyData.int)) = PyData.eqvAll (ms.map PyData.int) (ns.map PyData.int) := by simp [PyData.eqv]
  rw [e]
  exact eqv_ints ms ns
theorem plain_rows : ∀ kk : List (List Int), PyData.plainAll (kk.map fun m => PyData.tuple (m.map PyData.int)) = true
  | [] => by simp only [List.map_nil, PyData.plainAll]
  | m :: kk => by simp only [List.map_cons, PyData.plainAll, PyData.plain, plain_ints m, plain_rows kk, Bool.and_self]
theorem mt_remT {X : Cx} {k : Nat} (room : Room k X.A) : MtM X "list.remove" rRemT := by
  intro pins s σ H x vs v us Q I rx rv h
  obtain ⟨l, xs, kk, b, ns, j, rfl, rfl, hl, da, hb, hj, hno, q⟩ := h
  cases rx
  obtain ⟨u, rfl, ru⟩ := rv.one
  obtain ⟨z, its, n, r, hlen, e⟩ := I.lstM hl
  obtain ⟨as, r1, _⟩ := DA.reads I da its r
  obtain ⟨bs, r2, _⟩ := D.reads (f := false) I (.tup hb (da_ints ns)) u ru
  refine PySem.SeqAt.remove_list_data (vs := its.toArray) (j := j) ⟨_, e, rfl, n, rfl⟩ r1 r2 (plain_rows kk) (by simp only [PyData.plain]; exact plain_ints ns) ?_ ?_ (by rw [List.size_toArray]; omega) ?_
  · simp only [PyData.depth, depth_ints]
    have := room.units
    omega
  · refine List.findIdx?_eq_some_iff_getElem.mpr ?_
    obtain ⟨h1, h2⟩ := List.getElem?_eq_some_iff.mp hj
    refine ⟨by rw [List.length_map]; exact h1, ?_, fun m hm => ?_⟩
    · rw [List.getElem_map, eqv_tup, h2]
      exact decide_eq_true rfl
    · rw [List.getElem_map, eqv_tup]
      have := hno m hm
      rw [List.getElem?_eq_getElem (by omega)] at this
      have h3 : ¬ kk[m] = ns := fun z => this (by rw [z])
      rw [decide_eq_false h3]
      exact Bool.false_ne_true
  · refine ⟨.non, _, I.lset (its' := its.eraseIdx j) (t' := s.toks) hl e ?_ (r.eraseIdx j) ?_, rfl, q⟩
    · show its.toArray.eraseIdxIfInBounds j = (its.eraseIdx j).toArray
      rw [List.eraseIdxIfInBounds_toArray]
    · have := List.length_eraseIdx_le xs j
      omega
theorem units1 {X : Cx} {k : Nat} (room : Room k X.A) : X.A.units + 1 < cLine := by
  have := room.units
  omega
theorem atI0 {x : V} {xs : List V} : atI (x :: xs) 0 = some x := atI_nat (j := 0) rfl
theorem FnOk.never {P : Program} {w : World} {K : PySem.W.Frag} {mg : Str → Option Value} {base : Heap} {k : Nat} {f : Addr} {fd : FuncData} {ps : List Str} : FnOk P w K mg base CX0 k f fd ps (fun _ _ _ _ => False) :=
  ⟨fun _ _ _ _ h => h.elim, fun _ _ _ _ _ _ _ _ _ _ _ _ _ h => h.elim⟩
theorem later2 {a b : TS} {k : Ends} {σ : L2.St} {H : Hp} {P : L2.St → Hp → Prop} (h2 : ∀ σ H, P σ H → b k σ H) (h1 : (∀ σ H, P σ H → b k σ H) → tSeq a b k σ H) : tSeq a b k σ H := h1 h2
theorem gName_set {i : Nat} {v : V} {σ : L2.St} {H : Hp} {k : L2.St → Hp → Prop} (h : k (σ.set i (some v)) H) : gName i v σ H k := h
theorem hd_tup {H : Hp} {a p : Addr} {n : Nat} {o : HO} (h : Hd H a n) (e : H p = some o) (ho : ∀ xs, o ≠ .lst xs) : p ≠ a := fun z => by
  obtain ⟨_, _, _, g, _⟩ := h
  rw [z, g] at e
  cases e
  exact ho _ rfl
end Lw

namespace Lw
open PySem PySem.Spec PyProof.Rows L2

/-! ### the k-th of keys: which keys it can be -/
theorem split3 (ns : List Int) : ∀ ks : List (List Int), (ks.filter fun x => lex ns x).length + (ks.filter fun x => lex x ns).length + (ks.filter fun x => decide (x = ns)).length = ks.length
  | [] => rfl
  | m :: ks => by
    have ih := split3 ns ks
    by_cases e : m = ns
    · subst e
      rw [List.filter_cons_of_neg (by rw [lex_irr]; exact Bool.false_ne_true), List.filter_cons_of_neg (by rw [lex_irr]; exact Bool.false_ne_true), List.filter_cons_of_pos (by exact decide_eq_true rfl), List.length_cons, List.length_cons]
      omega
    · have e3 : ¬ decide (m = ns) = true := by simpa using e
      rw [List.filter_cons_of_neg (p := fun x => decide (x = ns)) e3]
      cases h1 : lex ns m with
      | true =>
        have h2 := lex_asym _ _ h1
        rw [List.filter_cons_of_pos (p := fun x => lex ns x) h1, List.filter_cons_of_neg (p := fun x => lex x ns) (by rw [h2]; exact Bool.false_ne_true), List.length_cons, List.length_cons]
        omega
      | false =>
        cases h2 : lex m ns with
        | true =>
          rw [List.filter_cons_of_neg (p := fun x => lex ns x) (by rw [h1]; exact Bool.false_ne_true), List.filter_cons_of_pos (p := fun x => lex x ns) h2, List.length_cons, List.length_cons]
          omega
        | false => exact absurd (lex_eq _ _ h2 h1) e
theorem kth_mem {ks : List (List Int)} {k : Nat} {ns : List Int} (h : IsKth id ks k ns) : ns ∈ ks := by
  have s := split3 ns ks
  have up := h.up
  have dn := h.dn
  simp only [above, below, id] at up dn
  have pos : 0 < (ks.filter fun x => decide (x = ns)).length := by omega
  obtain ⟨x, hx⟩ := List.exists_mem_of_length_pos pos
  obtain ⟨h1, h2⟩ := List.mem_filter.mp hx
  have e : x = ns := of_decide_eq_true h2
  exact e ▸ h1
theorem top_iff {ks : List (List Int)} {ns : List Int} : IsKth id ks 1 ns ↔ ns ∈ ks ∧ ∀ m ∈ ks, lex ns m = false := by
  constructor
  · intro h
    refine ⟨kth_mem h, fun m hm => ?_⟩
    have up := h.up
    simp only [above, id] at up
    have z : (ks.filter fun x => lex ns x) = [] := List.eq_nil_of_length_eq_zero (by omega)
    have := List.filter_eq_nil_iff.mp z m hm
    simpa using this
  · rintro ⟨h1, h2⟩
    have s := split3 ns ks
    have z : ks.filter (fun x => lex ns x) = [] := filter_false h2
    have pos : 0 < (ks.filter fun x => decide (x = ns)).length := List.length_pos_of_mem (List.mem_filter.mpr ⟨h1, decide_eq_true rfl⟩)
    refine ⟨?_, ?_⟩
    · simp only [above, id]
      rw [z]
      exact Nat.zero_lt_one
    · simp only [below, id]
      omega
theorem low_iff {ks : List (List Int)} {ns : List Int} : IsKth id ks ks.length ns ↔ ns ∈ ks ∧ ∀ m ∈ ks, lex m ns = false := by
  constructor
  · intro h
    refine ⟨kth_mem h, fun m hm => ?_⟩
    have dn := h.dn
    simp only [below, id] at dn
    have z : (ks.filter fun x => lex x ns) = [] := List.eq_nil_of_length_eq_zero (by omega)
    have := List.filter_eq_nil_iff.mp z m hm
    simpa using this
  · rintro ⟨h1, h2⟩
    have s := split3 ns ks
    have z : ks.filter (fun x => lex x ns) = [] := filter_false h2
    have pos : 0 < (ks.filter fun x => decide (x = ns)).length := List.length_pos_of_mem (List.mem_filter.mpr ⟨h1, decide_eq_true rfl⟩)
    refine ⟨?_, ?_⟩
    · simp only [above, id]
      omega
    · simp only [below, id]
      rw [z]
      show 0 + ks.length ≤ ks.length
      omega
theorem lex_nil (m : List Int) : lex m [] = false := by cases m <;> rfl
theorem kth_perm {ks ms : List (List Int)} {k : Nat} {ns : List Int} (h : IsKth id ks k ns) (p : ks.Perm ms) : IsKth id ms k ns := by
  have e1 : above id ms ns = above id ks ns := (p.filter _).length_eq.symm
  have e2 : below id ms ns = below id ks ns := (p.filter _).length_eq.symm
  exact ⟨by rw [e1]; exact h.up, by rw [e2, ← p.length_eq]; exact h.dn⟩
/-- with none put in, the k-th is the same -/
theorem kth_add_none {ks : List (List Int)} {k : Nat} {ns : List Int} (h : IsKth id ks k ns) : IsKth id (ks ++ [[]]) k ns := by
  have up := h.up
  have dn := h.dn
  simp only [above, below, id] at up dn
  have f : ([([] : List Int)].filter fun x => lex x ns).length ≤ 1 := List.length_filter_le _ _
  refine ⟨?_, ?_⟩
  · simp only [above, id, List.filter_append, List.length_append]
    rw [List.filter_cons_of_neg (by rw [lex_nil]; exact Bool.false_ne_true)]
    exact up
  · simp only [below, id, List.filter_append, List.length_append, List.length_singleton]
    omega
theorem low_none (ks : List (List Int)) : IsKth id (ks ++ [[]]) (ks.length + 1) [] := by
  have e : (ks ++ [([] : List Int)]).length = ks.length + 1 := by rw [List.length_append, List.length_singleton]
  rw [← e]
  exact low_iff.mpr ⟨List.mem_append_right _ (List.mem_singleton_self _), fun m _ => lex_nil m⟩
/-- the greatest of greatests -/
theorem top_top {ks : List (List Int)} {t o r : List Int} (h : IsKth id ks 1 t) (g : IsKth id [t, o] 1 r) : IsKth id (ks ++ [o]) 1 r := by
  obtain ⟨h1, h2⟩ := top_iff.mp h
  obtain ⟨g1, g2⟩ := top_iff.mp g
  refine top_iff.mpr ⟨?_, fun m hm => ?_⟩
  · rcases List.mem_cons.mp g1 with e | e
    · rw [e]
      exact List.mem_append_left _ h1
    · exact List.mem_append_right _ e
  · rcases List.mem_append.mp hm with y | y
    · exact lex_tr _ _ _ (h2 m y) (g2 t List.mem_cons_self)
    · exact g2 m (List.mem_cons_of_mem _ y)
/-- the least of leasts -/
theorem low_low {ks : List (List Int)} {t o r : List Int} (h : IsKth id ks ks.length t) (g : IsKth id [o, t] 2 r) : IsKth id (ks ++ [o]) (ks ++ [o]).length r := by
  obtain ⟨h1, h2⟩ := low_iff.mp h
  obtain ⟨g1, g2⟩ := (low_iff (ks := [o, t])).mp g
  refine low_iff.mpr ⟨?_, fun m hm => ?_⟩
  · rcases List.mem_cons.mp g1 with e | e
    · rw [e]
      exact List.mem_append_right _ (List.mem_singleton_self _)
    · rw [List.mem_singleton.mp e]
      exact List.mem_append_left _ h1
  · rcases List.mem_append.mp hm with y | y
    · exact lex_tr _ _ _ (g2 t (List.mem_cons_of_mem _ List.mem_cons_self)) (h2 m y)
    · rw [List.mem_singleton.mp y]
      exact g2 o List.mem_cons_self
/-! ### two of them -/
theorem low2 {x y r : List Int} (h : IsKth id [x, y] 2 r) : (r = x ∨ r = y) ∧ lex x r = false ∧ lex y r = false := by
  obtain ⟨h1, h2⟩ := (low_iff (ks := [x, y])).mp h
  refine ⟨?_, h2 x List.mem_cons_self, h2 y (List.mem_cons_of_mem _ List.mem_cons_self)⟩
  rcases List.mem_cons.mp h1 with e | e
  · exact .inl e
  · exact .inr (List.mem_singleton.mp e)
theorem top2 {x y r : List Int} (h : IsKth id [x, y] 1 r) : (r = x ∨ r = y) ∧ lex r x = false ∧ lex r y = false := by
  obtain ⟨h1, h2⟩ := top_iff.mp h
  refine ⟨?_, h2 x List.mem_cons_self, h2 y (List.mem_cons_of_mem _ List.mem_cons_self)⟩
  rcases List.mem_cons.mp h1 with e | e
  · exact .inl e
  · exact .inr (List.mem_singleton.mp e)
/-- the greatest with a part of its own least is that part -/
theorem absorb_top {o t l r : List Int} (h : IsKth id [o, t] 2 l) (g : IsKth id [o, l] 1 r) : r = o := by
  obtain ⟨_, h2, _⟩ := low2 h
  obtain ⟨g1, g2, _⟩ := top2 g
  rcases g1 with e | e
  · exact e
  · rw [e] at g2 ⊢
    exact lex_eq _ _ g2 h2
/-- the least with a part of its own greatest is that part -/
theorem absorb_low {o t g r : List Int} (h : IsKth id [t, o] 1 g) (k : IsKth id [g, o] 2 r) : r = o := by
  obtain ⟨_, _, h3⟩ := top2 h
  obtain ⟨k1, _, k3⟩ := low2 k
  rcases k1 with e | e
  · rw [e] at k3 ⊢
    exact lex_eq _ _ h3 k3
  · exact e
/-- least goes over greatest -/
theorem least_over {ks ls : List (List Int)} {o t r : List Int} (h : IsKth id ks 1 t) (g : IsKth id [o, t] 2 r) (hl : ls.length = ks.length) (hi : ∀ (i : Nat) (m l : List Int), ks[i]? = some m → ls[i]? = some l → IsKth id [m, o] 2 l) : IsKth id ls 1 r := by
  obtain ⟨h1, h2⟩ := top_iff.mp h
  obtain ⟨g1, g2, g3⟩ := low2 g
  refine top_iff.mpr ⟨?_, fun l hm => ?_⟩
  · obtain ⟨i, hi1⟩ := List.getElem?_of_mem h1
    have lt := (List.getElem?_eq_some_iff.mp hi1).1
    have e := List.getElem?_eq_getElem (l := ls) (i := i) (by omega)
    obtain ⟨a1, a2, a3⟩ := low2 (hi i _ _ hi1 e)
    have er : ls[i] = r := by
      have x : lex ls[i] r = false := by
        rcases a1 with z | z
        · rw [z]; exact g3
        · rw [z]; exact g2
      have y : lex r ls[i] = false := by
        rcases g1 with z | z
        · rw [z]; exact a3
        · rw [z]; exact a2
      exact lex_eq _ _ x y
    rw [← er]
    exact List.getElem_mem _
  · obtain ⟨i, hi1⟩ := List.getElem?_of_mem hm
    have lt := (List.getElem?_eq_some_iff.mp hi1).1
    have e := List.getElem?_eq_getElem (l := ks) (i := i) (by omega)
    obtain ⟨a1, a2, a3⟩ := low2 (hi i _ _ e hi1)
    have mt := h2 _ (List.getElem_mem (l := ks) (n := i) (by omega))
    rcases g1 with z | z
    · rw [z]; exact a3
    · rw [z]; exact lex_tr _ _ _ a2 mt
/-- greatest goes over least -/
theorem top_over {ks ls : List (List Int)} {o t r : List Int} (h : IsKth id ks ks.length t) (g : IsKth id [o, t] 1 r) (hl : ls.length = ks.length) (hi : ∀ (i : Nat) (m l : List Int), ks[i]? = some m → ls[i]? = some l → IsKth id [o, m] 1 l) : IsKth id ls ls.length r := by
  obtain ⟨h1, h2⟩ := low_iff.mp h
  obtain ⟨g1, g2, g3⟩ := top2 g
  refine low_iff.mpr ⟨?_, fun l hm => ?_⟩
  · obtain ⟨i, hi1⟩ := List.getElem?_of_mem h1
    have lt := (List.getElem?_eq_some_iff.mp hi1).1
    have e := List.getElem?_eq_getElem (l := ls) (i := i) (by omega)
    obtain ⟨a1, a2, a3⟩ := top2 (hi i _ _ hi1 e)
    have er : ls[i] = r := by
      have x : lex ls[i] r = false := by
        rcases g1 with z | z
        · rw [z]; exact a2
        · rw [z]; exact a3
      have y : lex r ls[i] = false := by
        rcases a1 with z | z
        · rw [z]; exact g2
        · rw [z]; exact g3
      exact lex_eq _ _ x y
    rw [← er]
    exact List.getElem_mem _
  · obtain ⟨i, hi1⟩ := List.getElem?_of_mem hm
    have lt := (List.getElem?_eq_some_iff.mp hi1).1
    have e := List.getElem?_eq_getElem (l := ks) (i := i) (by omega)
    obtain ⟨a1, a2, a3⟩ := top2 (hi i _ _ e hi1)
    have mt := h2 _ (List.getElem_mem (l := ks) (n := i) (by omega))
    rcases g1 with z | z
    · rw [z]; exact a2
    · rw [z]; exact lex_tr _ _ _ mt a3
/-! ### the greatest of the leasts of all lots of k -/
theorem sub_filter {p : List Int → Bool} {A B : List (List Int)} (h : A.Sublist B) : (A.filter p).length ≤ (B.filter p).length := (h.filter p).length_le
/-- a lot of k has one that does not stand above the k-th -/
theorem lot_one {ks L : List (List Int)} {k : Nat} {ns : List Int} (h : IsKth id ks k ns) (hs : L.Sublist ks) (hk : L.length = k) : ∃ m ∈ L, lex ns m = false := by
  have up := h.up
  simp only [above, id] at up
  have u2 := sub_filter (p := fun x => lex ns x) hs
  by_cases c : ∃ m ∈ L, lex ns m = false
  · exact c
  · have all : L.filter (fun x => lex ns x) = L := List.filter_eq_self.mpr fun m hm => by
      cases e : lex ns m with
      | true => rfl
      | false => exact absurd ⟨m, hm, e⟩ c
    rw [all] at u2
    omega
theorem kth_lots {ks ls : List (List Int)} {lots : List (List (List Int))} {k : Nat} {ns : List Int} (h : IsKth id ks k ns) (hall : ∀ L, L.Sublist ks → L.length = k → L ∈ lots) (hsub : ∀ L ∈ lots, L.Sublist ks ∧ L.length = k)
    (hl : ls.length = lots.length) (hi : ∀ (i : Nat) (L : List (List Int)) (l : List Int), lots[i]? = some L → ls[i]? = some l → IsKth id L L.length l) : IsKth id ls 1 ns := by
  have dn := h.dn
  simp only [below, id] at dn
  refine top_iff.mpr ⟨?_, fun l hm => ?_⟩
  · have hf := filter_split (p := fun x => lex x ns) ks
    let F := ks.filter fun x => !lex x ns
    have lF : k ≤ F.length := by
      show k ≤ (ks.filter fun x => !lex x ns).length
      omega
    have sF : (F.take k).Sublist ks := (List.take_sublist k F).trans List.filter_sublist
    have kF : (F.take k).length = k := by
      rw [List.length_take]
      omega
    obtain ⟨i, hi1⟩ := List.getElem?_of_mem (hall _ sF kF)
    have lt := (List.getElem?_eq_some_iff.mp hi1).1
    have e := List.getElem?_eq_getElem (l := ls) (i := i) (by omega)
    obtain ⟨b1, b2⟩ := low_iff.mp (hi i _ _ hi1 e)
    obtain ⟨m, hm, hmn⟩ := lot_one h sF kF
    have ge : ∀ x ∈ F.take k, lex x ns = false := fun x hx => by
      have := (List.mem_filter.mp (List.mem_of_mem_take hx)).2
      simpa using this
    have em : m = ns := lex_eq _ _ (ge m hm) hmn
    have er : ls[i] = ns := by
      refine lex_eq _ _ (ge _ b1) ?_
      rw [← em]
      exact b2 m hm
    rw [← er]
    exact List.getElem_mem _
  · obtain ⟨i, hi1⟩ := List.getElem?_of_mem hm
    have lt := (List.getElem?_eq_some_iff.mp hi1).1
    have e := List.getElem?_eq_getElem (l := lots) (i := i) (by omega)
    obtain ⟨s1, s2⟩ := hsub _ (List.getElem_mem (l := lots) (n := i) (by omega))
    obtain ⟨_, b2⟩ := low_iff.mp (hi i _ _ e hi1)
    obtain ⟨m, hm2, hmn⟩ := lot_one h s1 s2
    exact lex_tr _ _ _ (b2 m hm2) hmn
end Lw

namespace Lw
open PySem PySem.Spec PyProof.Rows L2

/-! ### a list beside an empty one -/
def rNeL0 : R2 := fun x y H Q => ∃ a b xs, x = .ref a ∧ y = .ref b ∧ H a = some (.lst xs) ∧ H b = some (.lst []) ∧ Q (.bl (!decide (xs.length = 0))) H
theorem op_neL0 {X : Cx} {k : Nat} (room : Room k X.A) : OpR X (compareOp .NotEq) rNeL0 := by
  intro pins s σ H x y v u Q I rx ry h
  obtain ⟨a, b, xs, rfl, rfl, ha, hb, q⟩ := h
  cases rx
  cases ry
  obtain ⟨its, r1, p1, _⟩ := I.list (SqL.of ha)
  obtain ⟨its2, r2, p2, _⟩ := I.list (SqL.of hb)
  cases r2
  have hl := r1.length
  by_cases e0 : xs.length = 0
  · have e1 : its.toArray.size = ([] : List Value).toArray.size := by
      rw [List.size_toArray, ← hl, e0]
      rfl
    refine SeqAt.RcNeAt.lists (e := fun _ => true) p1.isList p2.isList e1 room.units0 (fun j h1 h2 => absurd h2 (Nat.not_lt_zero j)) X.prog X.w X.xe _ ?_
    rw [decide_eq_true e0] at q
    have e : (!(List.range its.toArray.size).all (fun _ => true)) = !true := by simp
    rw [e]
    exact ⟨.bl (!true), H, I, rfl, q⟩
  · refine SeqAt.RcNeAt.lists_lengths p1.isList p2.isList ?_ room.units0 X.prog X.w X.xe _ ?_
    · rw [List.size_toArray, ← hl]
      show (xs.length != 0) = true
      simpa using e0
    · rw [decide_eq_false e0] at q
      exact ⟨.bl (!false), H, I, rfl, q⟩

/-! ### all lots of a row, as they are made -/
def lotsF {α : Type} : List (List α) → List α → List (List α)
  | acc, [] => acc
  | acc, x :: xs => lotsF (acc ++ acc.map (· ++ [x])) xs
theorem lots_map {α β : Type} (f : α → β) : ∀ (xs : List α) (acc : List (List α)), (lotsF acc xs).map (List.map f) = lotsF (acc.map (List.map f)) (xs.map f)
  | [], acc => rfl
  | x :: xs, acc => by
    show (lotsF (acc ++ acc.map (· ++ [x])) xs).map (List.map f) = lotsF (acc.map (List.map f) ++ (acc.map (List.map f)).map (· ++ [f x])) (xs.map f)
    rw [lots_map f xs]
    congr 1
    rw [List.map_append, List.map_map, List.map_map]
    congr 1
    refine List.map_congr_left fun L _ => ?_
    show (L ++ [x]).map f = L.map f ++ [f x]
    rw [List.map_append]
    rfl
theorem lots_length {α : Type} : ∀ (xs : List α) (acc : List (List α)), (lotsF acc xs).length = acc.length * 2 ^ xs.length
  | [], acc => by
    show acc.length = acc.length * 1
    omega
  | x :: xs, acc => by
    show (lotsF (acc ++ acc.map (· ++ [x])) xs).length = acc.length * 2 ^ (xs.length + 1)
    rw [lots_length xs, List.length_append, List.length_map, Nat.pow_succ]
    rw [← Nat.two_mul, Nat.mul_comm 2 acc.length, Nat.mul_assoc, Nat.mul_comm 2]
theorem lots_mem {α : Type} : ∀ (xs : List α) (acc : List (List α)) (L : List α), L ∈ lotsF acc xs ↔ ∃ A B, A ∈ acc ∧ B.Sublist xs ∧ L = A ++ B
  | [], acc, L => by
    constructor
    · intro h
      exact ⟨L, [], h, List.Sublist.slnil, (List.append_nil L).symm⟩
    · rintro ⟨A, B, h, s, e⟩
      have : B = [] := List.eq_nil_of_sublist_nil s
      rw [e, this, List.append_nil]
      exact h
  | x :: xs, acc, L => by
    show L ∈ lotsF (acc ++ acc.map (· ++ [x])) xs ↔ _
    rw [lots_mem xs]
    constructor
    · rintro ⟨A, B, h, s, e⟩
      rcases List.mem_append.mp h with y | y
      · exact ⟨A, B, y, s.cons x, e⟩
      · obtain ⟨A', h', eA⟩ := List.mem_map.mp y
        refine ⟨A', x :: B, h', s.cons_cons x, ?_⟩
        rw [e, ← eA, List.append_assoc]
        rfl
    · rintro ⟨A, B, h, s, e⟩
      cases s with
      | cons _ s' => exact ⟨A, B, List.mem_append_left _ h, s', e⟩
      | cons_cons _ s' =>
        rename_i B'
        refine ⟨A ++ [x], B', List.mem_append_right _ (List.mem_map.mpr ⟨A, h, rfl⟩), s', ?_⟩
        rw [e, List.append_assoc]
        rfl
/-- the lots of just so many -/
def lotsN {α : Type} (xs : List α) (k : Nat) : List (List α) := (lotsF [[]] xs).filter fun L => decide (L.length = k)
theorem lotsN_mem {α : Type} {xs : List α} {k : Nat} {L : List α} : L ∈ lotsN xs k ↔ L.Sublist xs ∧ L.length = k := by
  unfold lotsN
  rw [List.mem_filter, lots_mem, decide_eq_true_eq]
  constructor
  · rintro ⟨⟨A, B, h, s, e⟩, l⟩
    rw [List.mem_singleton.mp h, List.nil_append] at e
    exact ⟨e ▸ s, l⟩
  · rintro ⟨s, l⟩
    exact ⟨⟨[], L, List.mem_singleton_self _, s, rfl⟩, l⟩
theorem lotsN_map {α β : Type} (f : α → β) (xs : List α) (k : Nat) : (lotsN xs k).map (List.map f) = lotsN (xs.map f) k := by
  unfold lotsN
  have e := lots_map f xs [[]]
  rw [show ([[]] : List (List α)).map (List.map f) = [[]] from rfl] at e
  rw [← e, List.filter_map]
  congr 1
  refine List.filter_congr fun L _ => ?_
  show decide (L.length = k) = decide ((L.map f).length = k)
  rw [List.length_map]
theorem lotsN_length {α : Type} (xs : List α) (k : Nat) : (lotsN xs k).length ≤ 2 ^ xs.length := by
  have h := List.length_filter_le (fun L : List α => decide (L.length = k)) (lotsF [[]] xs)
  rw [lots_length, List.length_singleton, Nat.one_mul] at h
  exact h
/-- greatests put together by five -/
theorem top_five {ls : List (List Int)} {t ns : List Int} (h : IsKth id ls 1 ns) (g : IsKth id (ls.take 5) 1 t) : IsKth id (t :: ls.drop 5) 1 ns := by
  obtain ⟨h1, h2⟩ := top_iff.mp h
  obtain ⟨g1, g2⟩ := top_iff.mp g
  refine top_iff.mpr ⟨?_, fun m hm => ?_⟩
  · rw [← List.take_append_drop 5 ls] at h1
    rcases List.mem_append.mp h1 with y | y
    · have e : ns = t := lex_eq _ _ (h2 t (List.mem_of_mem_take g1)) (g2 ns y)
      rw [e]
      exact List.mem_cons_self
    · exact List.mem_cons_of_mem _ y
  · rcases List.mem_cons.mp hm with y | y
    · rw [y]
      exact h2 t (List.mem_of_mem_take g1)
    · exact h2 m (List.mem_of_mem_drop y)
/-! ### rows side by side -/
theorem Paired.get {α β : Type} {F : α → β → Prop} : ∀ {l₁ : List α} {l₂ : List β} (i : Nat) {x : α} {y : β}, Paired F l₁ l₂ → l₁[i]? = some x → l₂[i]? = some y → F x y
  | _, _, i, x, y, .nil, h, _ => by simp at h
  | _, _, 0, x, y, .cons h t, h1, h2 => by
    have e1 := Option.some.inj h1
    have e2 := Option.some.inj h2
    subst e1 e2
    exact h
  | _, _, i + 1, x, y, .cons h t, h1, h2 => Paired.get i t h1 h2
theorem Paired.app {α β : Type} {F : α → β → Prop} : ∀ {l₁ m₁ : List α} {l₂ m₂ : List β}, Paired F l₁ l₂ → Paired F m₁ m₂ → Paired F (l₁ ++ m₁) (l₂ ++ m₂)
  | _, _, _, _, .nil, h => h
  | _, _, _, _, .cons a t, h => .cons a (Paired.app t h)
theorem Paired.take {α β : Type} {F : α → β → Prop} : ∀ {l₁ : List α} {l₂ : List β} (n : Nat), Paired F l₁ l₂ → Paired F (l₁.take n) (l₂.take n)
  | _, _, 0, _ => by rw [List.take_zero, List.take_zero]; exact .nil
  | _, _, n + 1, .nil => .nil
  | _, _, n + 1, .cons a t => .cons a (Paired.take n t)
theorem Paired.drop {α β : Type} {F : α → β → Prop} : ∀ {l₁ : List α} {l₂ : List β} (n : Nat), Paired F l₁ l₂ → Paired F (l₁.drop n) (l₂.drop n)
  | _, _, 0, h => h
  | _, _, n + 1, .nil => .nil
  | _, _, n + 1, .cons a t => Paired.drop n t
theorem Paired.of_get {α β : Type} {F : α → β → Prop} : ∀ {l₁ : List α} {l₂ : List β}, l₁.length = l₂.length → (∀ (i : Nat) (x : α) (y : β), l₁[i]? = some x → l₂[i]? = some y → F x y) → Paired F l₁ l₂
  | [], [], _, _ => .nil
  | [], _ :: _, h, _ => by cases h
  | _ :: _, [], h, _ => by cases h
  | a :: l₁, b :: l₂, h, g => .cons (g 0 a b rfl rfl) (Paired.of_get (by simpa using h) fun i x y h1 h2 => g (i + 1) x y h1 h2)
theorem Paired.flip {α β : Type} {F : α → β → Prop} : ∀ {l₁ : List α} {l₂ : List β}, Paired F l₁ l₂ → Paired (fun b a => F a b) l₂ l₁
  | _, _, .nil => .nil
  | _, _, .cons a t => .cons a (Paired.flip t)
end Lw

namespace Lw
open PySem PySem.Spec PyProof.Rows L2

/-! ### a text beside anything -/
section
open AutoSeq1 (wpAny_loadPart')
theorem dict_eq_declines_str (l : Addr) (es : Array DictEntry) (ep : Nat) (dd : Option Addr) (sl : Array (Option Value)) (b : Str) (u : Tok) :
    Meets (Builtin.«dict.__eq__» ⟨[.ref l, .str b u], []⟩) (fun _ R s => s.heap.get? l = some { cls := .type "dict", dict := dd, data := .dict es ep, slots := sl } ∧ R (.ok (.ret .notImplemented)) s) :=
  .of_wp fun prog w A R s h => by obtain ⟨hp, g, d, tk, os⟩ := s; obtain ⟨hl, h⟩ := h; have f1 := F.sub_str_dict; wp_walk using wpAny_loadPart' hl; exact ⟨_, rfl, h⟩
theorem str_eq_declines_dict (b : Str) (u : Tok) (l : Addr) (c : Value) (es : Array DictEntry) (ep : Nat) (dd : Option Addr) (sl : Array (Option Value)) :
    Meets (Builtin.«str.__eq__» ⟨[.str b u, .ref l], []⟩) (fun _ R s => s.heap.get? l = some { cls := c, dict := dd, data := .dict es ep, slots := sl } ∧ R (.ok (.ret .notImplemented)) s) :=
  .of_wp fun prog w A R s h => by obtain ⟨hp, g, d, tk, os⟩ := s; obtain ⟨hl, h⟩ := h; wp_walk using wpAny_loadPart' hl, wpAny_load hl; exact ⟨_, rfl, h⟩
theorem rc_str_dict {A : Around} {s : Shared} {l : Addr} {o : Obj} {es : Array DictEntry} {ep : Nat} (b : Str) (u : Tok) (ho : s.heap.get? l = some o) (hc : o.cls = .type "dict") (hd : o.data = .dict es ep) (hu : A.units < cLine) : SeqAt.RcAt A s (.str b u) (.ref l) false := fun prog w E Q h => by
  obtain ⟨cls, dd, data, sl⟩ := o
  simp only at hc hd
  subst hc hd
  exact SeqAt.rc_eq_decline_or (k := false) (typeIs_str s b u) ⟨_, ho, rfl⟩ (by decide) F.sub_dict_str F.slot_str_eq F.slot_dict_eq_refl
    (fun _ hq => call_meets F.slot_str_eq (typeIs_str s b u) F.entry_str_eq (F.args_str_eq_2 _ _) (str_eq_declines_dict b u l (.type "dict") es ep dd sl) ⟨ho, hq⟩)
    (fun _ hq => call_meets F.slot_dict_eq_refl ⟨_, ho, rfl⟩ F.entry_dict_eq (F.args_dict_eq_2 _ _) (dict_eq_declines_str l es ep dd sl b u) ⟨ho, hq⟩)
    (fun _ hq => wpAny_of_eq (rfl : isSame (.str b u) (.ref l) = pure false) hq) (.inr hu) h
end
theorem cut_take (xs : List V) (n : Nat) : cutV xs none (some (n : Int)) = xs.take n := by
  unfold cutV
  rw [HT.sIx_none, HT.sIx_nat, List.drop_zero, Nat.sub_zero]
  by_cases h : n ≤ xs.length
  · rw [Nat.min_eq_left h]
  · rw [Nat.min_eq_right (by omega), List.take_length, List.take_of_length_le (by omega)]
theorem cut_drop (xs : List V) (n : Nat) : cutV xs (some (n : Int)) none = xs.drop n := by
  unfold cutV
  rw [HT.sIx_none, HT.sIx_nat]
  by_cases h : n ≤ xs.length
  · rw [Nat.min_eq_left h]
    exact List.take_of_length_le (by rw [List.length_drop]; omega)
  · rw [Nat.min_eq_right (by omega), List.drop_length, List.drop_of_length_le (by omega), List.take_nil]
theorem ix_listK {X : Cx} {K : PySem.W.Frag} (h : X.K = K := by rfl) : IxR X (rIxL K) := by
  subst h
  exact ix_list
theorem ix_tupK {X : Cx} {K : PySem.W.Frag} (h : X.K = K := by rfl) : IxR X (rIxT K) := by
  subst h
  exact ix_tup
def strIs (z : Str) : PyData → Bool
  | .str y => z == y
  | _ => false
def rEqSD : R2 := fun x y H Q => ∃ (z : Str) (d : PyData) (f : Bool), x = .str z ∧ D f H y d ∧ Q (.bl (strIs z d)) H
theorem op_eqSD {X : Cx} {k : Nat} (room : Room k X.A) : OpR X (compareOp .Eq) rEqSD := by
  intro pins s σ H x y v u Q I rx ry h
  obtain ⟨z, d, f, rfl, hd, q⟩ := h
  obtain ⟨t, rfl⟩ := rx
  have fin : ∀ b : Bool, b = strIs z d → SeqAt.RcAt X.A s (.str z t) u b → wpAny (model X.prog X.w) X.A (compareOp .Eq (.str z t) u) (fun r s' => EP X pins σ Q r s') X.xe s := fun b e rc => by
    refine rc X.prog X.w X.xe _ ?_
    rw [e]
    exact ⟨.bl (strIs z d), H, I, rfl, q⟩
  cases hd with
  | non =>
    cases ry
    exact fin false rfl (SeqAt.RcAt.str_none z t)
  | bl b =>
    cases ry
    exact fin false rfl (SeqAt.RcAt.str_bool z t b)
  | int i =>
    obtain ⟨t2, rfl⟩ := ry
    exact fin false rfl (SeqAt.RcAt.str_int z t i t2)
  | str y =>
    obtain ⟨t2, rfl⟩ := ry
    exact fin _ rfl (SeqAt.RcAt.str_str z t y t2)
  | @lst a xs ds e n dt =>
    cases (show u = Value.ref a from ry)
    obtain ⟨_, its, k, rv, ho⟩ := (show ObjOk X.prog X.w H s.heap a (.lst xs) from I.hok a _ e)
    exact fin false rfl (SeqAt.RcAt.str_list z t ⟨_, ho, rfl, _, rfl⟩ room.units0)
  | @tup a xs ds e dt =>
    cases (show u = Value.ref a from ry)
    obtain ⟨_, its, rv, o, ho, hc, k, hd⟩ := (show ObjOk X.prog X.w H s.heap a (.tup xs) from I.hok a _ e)
    exact fin false rfl (SeqAt.RcAt.str_tuple z t ⟨_, ho, hc, _, hd⟩ room.units0)
  | @dct a kvs ds e dt =>
    cases (show u = Value.ref a from ry)
    obtain ⟨_, ns, vs, kv, o, es, ep, ho, ex, hd, _, pr, _⟩ := (show ObjOk X.prog X.w H s.heap a (.dK kvs) from I.hok a _ e)
    exact fin false rfl (rc_str_dict z t ho ex.1 hd room.units0)
end Lw

namespace Lw
open PySem PySem.Spec PyProof.Rows L2

/-! ### truths as numbers -/
def isN (v : V) (i : Int) : Prop := v = .int i ∨ ∃ b : Bool, v = .bl b ∧ i = if b = true then 1 else 0
def rAddN : R2 := fun x y H Q => ∃ i j, isN x i ∧ y = .int j ∧ Q (.int (i + j)) H
def rSubN : R2 := fun x y H Q => ∃ i j, isN x i ∧ y = .int j ∧ Q (.int (i - j)) H
def rSubM : R2 := fun x y H Q => ∃ i j, x = .int i ∧ isN y j ∧ Q (.int (i - j)) H
def rEqN : R2 := fun x y H Q => ∃ i j, isN x i ∧ y = .int j ∧ Q (.bl (i == j)) H
section
variable {X : Cx}
theorem op_addN : OpR X (binaryOp .Add) rAddN := by
  intro pins s σ H x y v u Q I rx ry h
  obtain ⟨i, j, hi, rfl, q⟩ := h
  rcases hi with rfl | ⟨b, rfl, rfl⟩
  · exact op_add pins s σ H _ _ v u Q I rx ry ⟨i, j, rfl, rfl, q⟩
  · cases rx
    obtain ⟨t, rfl⟩ := ry
    exact PySem.IntBool.add_bool_int ⟨.int _, H, I.tok _, ⟨_, rfl⟩, q⟩
theorem op_subN : OpR X (binaryOp .Sub) rSubN := by
  intro pins s σ H x y v u Q I rx ry h
  obtain ⟨i, j, hi, rfl, q⟩ := h
  rcases hi with rfl | ⟨b, rfl, rfl⟩
  · exact op_sub pins s σ H _ _ v u Q I rx ry ⟨i, j, rfl, rfl, q⟩
  · cases rx
    obtain ⟨t, rfl⟩ := ry
    exact PySem.IntBool.sub_bool_int ⟨.int _, H, I.tok _, ⟨_, rfl⟩, q⟩
theorem op_subM : OpR X (binaryOp .Sub) rSubM := by
  intro pins s σ H x y v u Q I rx ry h
  obtain ⟨i, j, rfl, hj, q⟩ := h
  rcases hj with rfl | ⟨b, rfl, rfl⟩
  · exact op_sub pins s σ H _ _ v u Q I rx ry ⟨i, j, rfl, rfl, q⟩
  · cases ry
    obtain ⟨t, rfl⟩ := rx
    exact PySem.IntBool.sub_int_bool ⟨.int _, H, I.tok _, ⟨_, rfl⟩, q⟩
theorem op_eqN : OpR X (compareOp .Eq) rEqN := by
  intro pins s σ H x y v u Q I rx ry h
  obtain ⟨i, j, hi, rfl, q⟩ := h
  rcases hi with rfl | ⟨b, rfl, rfl⟩
  · obtain ⟨t, rfl⟩ := rx
    obtain ⟨t2, rfl⟩ := ry
    exact SeqAt.RcAt.int_int i t j t2 X.prog X.w X.xe _ ⟨.bl (i == j), H, I, rfl, q⟩
  · cases rx
    obtain ⟨t2, rfl⟩ := ry
    exact SeqAt.RcAt.bool_int b j t2 X.prog X.w X.xe _ ⟨.bl _, H, I, rfl, q⟩
def strN : V → Str
  | .int i => Str.ofString (toString i)
  | .bl b => Str.ofString (if b = true then "True" else "False")
  | _ => Str.empty
theorem call_strN : CallR X (.type "str") (fun xs H Q => ∃ v i, xs = [v] ∧ isN v i ∧ i.natAbs.log2 < 1920 ∧ Q (.str (strN v)) H) := by
  intro pins s σ H xs us Q I r h
  obtain ⟨v, i, rfl, hi, hz, q⟩ := h
  rcases hi with rfl | ⟨b, rfl, rfl⟩
  · obtain ⟨u, rfl, t, rfl⟩ := vals1 r
    exact PySem.P.str_of_int hz ⟨.str _, H, I.tok _, ⟨_, rfl⟩, q⟩
  · obtain ⟨u, rfl, r1⟩ := vals1 r
    cases r1
    refine PySem.P.str_of_bool ⟨.str _, H, I.tok _, ⟨_, rfl⟩, ?_⟩
    cases b <;> exact q
/-! ### a list beside an empty one -/
def rEqL0 : R2 := fun x y H Q => ∃ a b xs, x = .ref a ∧ y = .ref b ∧ H a = some (.lst xs) ∧ H b = some (.lst []) ∧ Q (.bl (decide (xs.length = 0))) H
theorem op_eqL0 {k : Nat} (room : Room k X.A) : OpR X (compareOp .Eq) rEqL0 := by
  intro pins s σ H x y v u Q I rx ry h
  obtain ⟨a, b, xs, rfl, rfl, ha, hb, q⟩ := h
  cases rx
  cases ry
  obtain ⟨its, r1, p1, _⟩ := I.list (SqL.of ha)
  obtain ⟨its2, r2, p2, _⟩ := I.list (SqL.of hb)
  cases r2
  have hl := r1.length
  by_cases e0 : xs.length = 0
  · have e1 : its.toArray.size = ([] : List Value).toArray.size := by
      rw [List.size_toArray, ← hl, e0]
      rfl
    refine SeqAt.RcAt.lists (e := fun _ => true) p1.isList p2.isList e1 room.units0 (fun j h1 h2 => absurd h2 (Nat.not_lt_zero j)) X.prog X.w X.xe _ ?_
    rw [decide_eq_true e0] at q
    have e : ((List.range its.toArray.size).all (fun _ => true)) = true := by simp
    rw [e]
    exact ⟨.bl true, H, I, rfl, q⟩
  · refine SeqAt.RcAt.lists_lengths p1.isList p2.isList ?_ room.units0 X.prog X.w X.xe _ ?_
    · rw [List.size_toArray, ← hl]
      show (xs.length != 0) = true
      simpa using e0
    · rw [decide_eq_false e0] at q
      exact ⟨.bl false, H, I, rfl, q⟩
end
/-! ### texts, and how large they are -/
theorem Bd.chars {n m : Nat} {z : Str} (h : Bd n m (.str z)) : (∀ c ∈ z.cps.toList, c < 16 ^ 8) ∧ z.length ≤ m := by
  have h1 := h.lf
  have h2 := h.wt
  simp only [PyData.leavesShort, List.all_eq_true, decide_eq_true_eq] at h1
  simp only [PyData.weight] at h2
  exact ⟨h1, h2⟩
theorem bd_chars {n m : Nat} {z : Str} (h : ∀ c ∈ z.cps.toList, c < 16 ^ 8) (hm : z.length ≤ m) : Bd n m (.str z) := by
  refine ⟨?_, rfl, ?_, ?_⟩
  · simp only [PyData.leavesShort, List.all_eq_true, decide_eq_true_eq]
    exact h
  · simp only [PyData.depth]
    exact Nat.zero_le _
  · simp only [PyData.weight]
    exact hm
theorem Bd.app {n m k : Nat} {z y : Str} (h : Bd n m (.str z)) (g : Bd n k (.str y)) : Bd n (m + k) (.str (z ++ y)) := by
  obtain ⟨h1, h2⟩ := h.chars
  obtain ⟨g1, g2⟩ := g.chars
  refine bd_chars (fun c hc => ?_) ?_
  · rw [app_cps] at hc
    rcases List.mem_append.mp hc with e | e
    · exact h1 c e
    · exact g1 c e
  · rw [len_cps, app_cps, List.length_append, ← len_cps, ← len_cps]
    omega
theorem Bd.cutS {n m : Nat} {z : Str} (h : Bd n m (.str z)) (lo hi : Option Int) : Bd n m (.str (cutS z lo hi)) := by
  obtain ⟨h1, h2⟩ := h.chars
  refine bd_chars (fun c hc => h1 c ?_) (Nat.le_trans (cutS_length z lo hi) h2)
  unfold L2.cutS at hc
  simp only [Array.toList_extract, List.extract] at hc
  exact List.mem_of_mem_drop (List.mem_of_mem_take hc)
/-! ### numbers that are not far -/
mutual
def inB (B : Nat) : PyData → Bool
  | .none | .bool _ | .str _ => true
  | .int i => decide (i.natAbs < B)
  | .list xs | .tuple xs => inBAll B xs
  | .dict kvs => inBKv B kvs
def inBAll (B : Nat) : List PyData → Bool
  | [] => true
  | x :: xs => inB B x && inBAll B xs
def inBKv (B : Nat) : List (PyData × PyData) → Bool
  | [] => true
  | (k, v) :: r => inB B k && inB B v && inBKv B r
end
theorem inB_all {B : Nat} : ∀ {ds : List PyData}, inBAll B ds = true ↔ ∀ d ∈ ds, inB B d = true
  | [] => by simp [inBAll]
  | d :: ds => by
    simp only [inBAll, Bool.and_eq_true, inB_all (ds := ds), List.mem_cons]
    constructor
    · rintro ⟨a, b⟩ x (e | e)
      · rw [e]; exact a
      · exact b x e
    · intro h
      exact ⟨h d (.inl rfl), fun x hx => h x (.inr hx)⟩
theorem inB_tup {B : Nat} {ds : List PyData} : inB B (.tuple ds) = true ↔ ∀ d ∈ ds, inB B d = true := by
  simp only [inB]
  exact inB_all
theorem inB_lst {B : Nat} {ds : List PyData} : inB B (.list ds) = true ↔ ∀ d ∈ ds, inB B d = true := by
  simp only [inB]
  exact inB_all
mutual
theorem inB_mono {B C : Nat} (h : B ≤ C) : ∀ d : PyData, inB B d = true → inB C d = true
  | .none, _ => by simp [inB]
  | .bool _, _ => by simp [inB]
  | .str _, _ => by simp [inB]
  | .int i, g => by
    simp only [inB, decide_eq_true_eq] at g ⊢
    omega
  | .list xs, g => by
    simp only [inB] at g ⊢
    exact inBAll_mono h xs g
  | .tuple xs, g => by
    simp only [inB] at g ⊢
    exact inBAll_mono h xs g
  | .dict kvs, g => by
    simp only [inB] at g ⊢
    exact inBKv_mono h kvs g
theorem inBAll_mono {B C : Nat} (h : B ≤ C) : ∀ ds : List PyData, inBAll B ds = true → inBAll C ds = true
  | [], _ => by simp [inBAll]
  | d :: ds, g => by
    simp only [inBAll, Bool.and_eq_true] at g ⊢
    exact ⟨inB_mono h d g.1, inBAll_mono h ds g.2⟩
theorem inBKv_mono {B C : Nat} (h : B ≤ C) : ∀ ds : List (PyData × PyData), inBKv B ds = true → inBKv C ds = true
  | [], _ => by simp [inBKv]
  | (k, v) :: ds, g => by
    simp only [inBKv, Bool.and_eq_true] at g ⊢
    exact ⟨⟨inB_mono h k g.1.1, inB_mono h v g.1.2⟩, inBKv_mono h ds g.2⟩
end
end Lw

namespace Lw
open PySem PySem.Spec PyProof.Rows L2

/-! ### enumerate of a tuple -/
section
open AutoSeq1 (wpAny_loadPart')
theorem meets_enumerate_newT (l : Addr) (items : Array Value) (n : Nat) (dct : Option Addr) (sl : Array (Option Value)) :
    Meets (Builtin.«enumerate.__new__» ⟨[.type "enumerate", .ref l], []⟩) (fun _ R s => s.heap.get? l = some { cls := .type "tuple", dict := dct, data := .seq items n, slots := sl } ∧
      R (.ok (.ret (.ref (s.heap.push { cls := .type "tuple_iterator", data := .fields #[.ref l, .int 0 0] }).objs.size)))
        { s with heap := (s.heap.push { cls := .type "tuple_iterator", data := .fields #[.ref l, .int 0 0] }).push { cls := .type "enumerate", data := .fields #[.none, .bool false, .ref s.heap.objs.size, rawInt 0, .none, .none] } }) :=
  .of_wp fun prog w A R s h => by
    obtain ⟨hp, g, d, tk, os⟩ := s; obtain ⟨hl, h⟩ := h
    have hsub := sub_enumerate
    have hL : Heap.IsTuple (Shared.heap ⟨hp, g, d, tk, os⟩) l items := ⟨_, hl, rfl, n, rfl⟩
    wp_walk using wpAny_loadPart' hl
    refine wpAny_stack_any fun st => wpAny_pure ?_
    split
    · rename_i c _ _ _ _ _
      cases (c == Value.type "enumerate")
      · wp_walk using wpAny_loadPart' hl, wpAny_pyIter_tuple hL
        exact ⟨_, rfl, h⟩
      · wp_walk using wpAny_loadPart' hl, wpAny_pyIter_tuple hL
        exact ⟨_, rfl, h⟩
    · wp_walk using wpAny_loadPart' hl, wpAny_pyIter_tuple hL
      exact ⟨_, rfl, h⟩
end
section
variable {prog : Program} {w : World} {A : Around} {E : Value → Shared → Prop} {s : Shared}
theorem call_enumT {l : Addr} {items : Array Value} {Q : Value → Shared → Prop} (hL : s.heap.IsTuple l items)
    (h : ∀ h', IsEnum h' (s.heap.objs.size + 1) s.heap.objs.size 0 .none → h'.IsTupleIter s.heap.objs.size l 0 → h'.objs.size = s.heap.objs.size + 2 → (∀ b o, s.heap.get? b = some o → h'.get? b = some o) → Q (.ref (s.heap.objs.size + 1)) { s with heap := h' }) :
    wpAny (model prog w) A (call (.type "enumerate") [.ref l]) Q E s := by
  obtain ⟨⟨c, dct, dt, sl⟩, hl, hc, n, hd⟩ := hL
  have hc' : c = .type "tuple" := hc
  have hd' : dt = .seq items n := hd
  subst hc' hd'
  refine callType_new F.called_enumerate (by decide) (F.typeCall_enumerate_1 _) (F.newCall_enumerate_1 _) (fun obj => F.args_object_init_2 obj _) F.entry_enumerate_new (meets_enumerate_newT l items n dct sl) ⟨hl, ?_⟩
  have hz : (s.heap.push { cls := .type "tuple_iterator", data := .fields #[.ref l, .int 0 0] }).objs.size = s.heap.objs.size + 1 := Heap.size_push ..
  show _ ∧ _
  rw [hz]
  have he : IsEnum ((s.heap.push { cls := .type "tuple_iterator", data := .fields #[.ref l, .int 0 0] }).push { cls := .type "enumerate", data := .fields #[.none, .bool false, .ref s.heap.objs.size, rawInt 0, .none, .none] }) (s.heap.objs.size + 1) s.heap.objs.size 0 .none := by
    have := Heap.get?_push_size (s.heap.push { cls := .type "tuple_iterator", data := .fields #[.ref l, .int 0 0] }) (o := { cls := .type "enumerate", data := .fields #[.none, .bool false, .ref s.heap.objs.size, rawInt 0, .none, .none] }) rfl
    rw [hz] at this
    exact this
  exact ⟨⟨_, he, rfl⟩, h _ he ⟨_, Heap.get?_push_of_some _ (Heap.get?_push_size _ rfl), rfl, rfl⟩ (by rw [Heap.size_push, hz]) fun b o x => Heap.get?_push_of_some _ (Heap.get?_push_of_some _ x)⟩
theorem next_enumT_end {e it l : Addr} {i : Nat} {items : Array Value} {old : Value} {Q : Option Value → Shared → Prop} (hh : A.handled = none) (he : IsEnum s.heap e it i old) (hit : s.heap.IsTupleIter it l i) (hl : s.heap.IsTuple l items) (hx : items[i]? = none)
    (hQ : ∀ h', Heap.ExtBut it s.heap h' → Q none { s with heap := h' }) : wpAny (model prog w) A (pyNext (.ref e)) Q E s := by
  have hT : s.TypeIs (.ref e) "enumerate" := ⟨_, he, rfl⟩
  unfold pyNext
  refine wpAny_bind (wpAny_attempt (wpAny_callSpecial?_slot (name := Str.ofString "__next__") hT F.slot_enumerate_next (wpAny_call_entry F.slot_enumerate_next hT F.entry_enumerate_next ?_ (F.args_enumerate_next_1 _))))
  show wpAny _ _ (field (.ref e) 2 >>= _) _ _ _
  refine wpAny_bind (wpAny_field he rfl (x := .ref it) rfl (wpAny_bind (wpAny_nextOf_tuple_end hh hit hl hx fun h' x he' hx' => ?_)))
  obtain ⟨o, ho, hc⟩ := hx'
  exact wpAny_bind (wpAny_isInstance (T := "StopIteration") (b := true) ⟨o, ho, hc⟩ isSubtype_stop (wpAny_pure (hQ _ he')))
end
/-- the tuple at a, each item with its number in a new pair -/
def IteT (K : PySem.W.Frag) (a : Addr) : It :=
  ⟨fun i H => ∃ (xs : List V) (x : V), SqT K H a xs ∧ xs[i]? = some x, fun i H v H' => ∃ T x, v = .ref T ∧ H T = none ∧ H' = upd H T (.tup [.int (i : Nat), x]) ∧ ∀ xs, SqT K H a xs → xs[i]? = some x, fun i H => ∃ xs : List V, SqT K H a xs ∧ xs.length ≤ i⟩
theorem turn_enumT {P : Program} {w : World} {K : PySem.W.Frag} {elts : List Expr} {kk : Nat} {tpos : Pos} (a e it : Addr) :
    Turn P w K (.Tuple elts kk tpos) (IteT K a) [e, it] e (fun i h => (∃ old, IsEnum h e it ((i : Nat) : Int) old) ∧ h.IsTupleIter it a i ∧ e ≠ it ∧ e ≠ a ∧ a ≠ it) where
  mem := by simp
  obj := fun i h st b hb => by
    obtain ⟨⟨old, he⟩, ⟨o, ho, hc, hd⟩, _⟩ := st
    rcases (by simpa using hb : b = e ∨ b = it) with z | z
    · rw [z]; exact ⟨_, he, fun v q => nomatch q⟩
    · rw [z]; exact ⟨o, ho, fun v q => by rw [hd] at q; cases q⟩
  keep := fun i h h' st k => let ⟨⟨old, he⟩, hi, hne⟩ := st; ⟨⟨old, k e (by simp) _ he⟩, hi.at fun o q => k it (by simp) o q, hne⟩
  item := by
    intro X hP hw hK hc i pins s σ H E I hf st hg
    subst hP hw hK
    obtain ⟨⟨old, he⟩, hit, hne, hea, hai⟩ := st
    obtain ⟨xs, x, hq, hx⟩ := hg
    obtain ⟨its, rv, p, hz⟩ := I.tuple hq
    obtain ⟨u, hu, ru⟩ := rv.get hx
    have hel : e < s.heap.objs.size := Heap.lt_size he
    have hil : it < s.heap.objs.size := by obtain ⟨_, q, _⟩ := hit; exact Heap.lt_size q
    have hiz : i < its.toArray.size := by
      rw [List.size_toArray]
      exact (List.getElem?_eq_some_iff.mp hu).1
    refine wpAny_pyNext_enum_itemD (Draws.tuple (A := X.A.in1) (I.ok.hd hc) it a hai its.toArray) he ⟨hit, p⟩ hiz hne (by simp [hne, hea]) fun y h' tk hy ho hst hT hsz hk => ?_
    have ey : y = u := by
      have e1 : its.toArray[i]? = some u := by simpa using hu
      rw [e1] at hy
      exact (Option.some.inj hy).symm
    subst ey
    refine ⟨_, rfl, wpAny_letOwnedTupleGo_enum (s := { s with heap := h', toks := tk + 1 }) ho fun h'' he' sb => ?_⟩
    have hT2 : h''.get? s.heap.objs.size = some { cls := .type "tuple", data := .seq #[.int i tk, y] } := (sb.2 _ (Nat.ne_of_gt hel)).trans hT
    have new : ObjOk X.prog X.w (upd H s.heap.objs.size (.tup [.int (i : Nat), x])) h'' s.heap.objs.size (.tup [.int (i : Nat), x]) :=
      ⟨by show 2 ≤ sizeLine; decide, [.int i tk, y], .cons ⟨_, rfl⟩ (.cons ru .nil), ⟨_, hT2, rfl, _, rfl⟩⟩
    have I1 : Inv X pins σ (upd H s.heap.objs.size (.tup [.int (i : Nat), x])) { s with heap := h'', toks := tk + 1 } :=
      I.turnedNew (ch := [e, it]) (fun b ob hb q => (sb.2 b (fun z => hb (by simp [z]))).trans (hk b ob (fun z => hb (by simp [z])) (fun z => hb (by simp [z])) q)) hf (Nat.le_refl _) new
    refine ⟨.ref s.heap.objs.size, _, I1, rfl, ⟨_, x, rfl, I.hok.fresh (Nat.le_refl _), rfl, fun ys hy => by rw [I.tuple_inj hy hq]; exact hx⟩, ⟨⟨y, ?_⟩, hst.1.at fun o q => (sb.2 it (Ne.symm hne)).trans q, hne, hea, hai⟩, fun b hb => ?_⟩
    · have e1 : ((i + 1 : Nat) : Int) = (i : Int) + 1 := by omega
      rw [e1]
      exact he'
    · have hb' : b < s.heap.objs.size := by
        rcases (by simpa using hb : b = e ∨ b = it) with z | z
        · rw [z]; exact hel
        · rw [z]; exact hil
      rw [upd_ne (Nat.ne_of_lt hb')]
      exact (hf b hb).1
  done := by
    intro X hP hw hK hc i pins s σ H E I hf st hg
    subst hP hw hK
    obtain ⟨⟨old, he⟩, hit, hne, _⟩ := st
    obtain ⟨xs, hq, hx⟩ := hg
    obtain ⟨its, rv, p, hz⟩ := I.tuple hq
    obtain ⟨f0, f1, f2, f3, f4, f5⟩ := hf it (by simp)
    have hl := rv.length
    exact next_enumT_end (I.ok.hd hc) he hit p (by simp; omega) fun h' eb => ⟨rfl, I.turned (t' := s.toks) (fun b o hb q => eb b o hb q) f0 f1 f3 f4 f5⟩
  self := fun A i s Q E st h => let ⟨⟨_, he⟩, _⟩ := st; wpAny_pyIter_enum he h
def iEnumT (K : PySem.W.Frag) (ta : TA) : L2.TI := fun σ H R => ta σ H fun vs H1 => ∃ a xs, vs = [.ref a] ∧ SqT K H1 a xs ∧ R (IteT K a) H1
theorem pi_enumT {X : Cx} {e : Expr} {ta : TA} {p pos tpos : Pos} {elts : List Expr} {kk : Nat} (hg : Gl X "enumerate") (hm : X.mg "enumerate" = none) (ha : PA X [e] ta) (hs : starEach [e] X.env = [(false, eval e X.env)] := by rfl) :
    PI X (.Tuple elts kk tpos) (.Call (.Name "enumerate" p) [e] [] pos) (iEnumT X.K ta) := by
  refine ⟨fun pins s σ H R I h => ?_⟩
  refine Call_ (ld_blt I hg hm boot_enumerate (PyProof.Rows.callWith_type1 (thn (ha.run pos pins s σ H _ I h) fun us s1 ⟨vs, H1, I1, r1, q1⟩ => ?_) hs rfl))
  obtain ⟨a, xs, ex, hq, q⟩ := q1
  subst ex
  cases r1 with
  | cons r rr =>
    cases rr
    cases r
    obtain ⟨its, rv, p', hz⟩ := I1.tuple hq
    have hal : a < s1.heap.objs.size := by
      obtain ⟨o, ho, _⟩ := id p'
      exact Heap.lt_size ho
    refine call_enumT p' fun h' he hit hsz hk => wpAny_pyIter_enum he ?_
    have I2 : Inv X pins σ H1 { s1 with heap := h' } := I1.kept (t' := s1.toks) hk
    refine ⟨s1.heap.objs.size + 1, [s1.heap.objs.size + 1, s1.heap.objs.size], _, _, H1, rfl, I2, turn_enumT a (s1.heap.objs.size + 1) s1.heap.objs.size, ⟨⟨.none, he⟩, hit, Nat.succ_ne_self _, fun z => absurd (z ▸ hal : s1.heap.objs.size + 1 < s1.heap.objs.size) (Nat.not_lt_of_le (Nat.le_succ _)), Nat.ne_of_lt hal⟩, fun b hb => ?_, q⟩
    have hle : s1.heap.objs.size ≤ b := by
      rcases (by simpa using hb : b = s1.heap.objs.size + 1 ∨ b = s1.heap.objs.size) with z | z
      · rw [z]; exact Nat.le_add_right _ _
      · rw [z]; exact Nat.le_refl _
    exact I1.fpOk hle (I1.hok.fresh hle)
theorem for_enumT {K : PySem.W.Frag} {a : Addr} {xs : List V} {g : TG} {tb : TS} {D : Ends} {σ : L2.St} {H : Hp} (Pv : Nat → L2.St → Hp → Prop) (h0 : Pv 0 σ H) (hl : ∀ i σ H, i ≤ xs.length → Pv i σ H → SqT K H a xs)
    (hs : ∀ (i : Nat) (x : V) (T : Addr) (σ : L2.St) (H : Hp), xs[i]? = some x → Pv i σ H → H T = none → g (.ref T) σ (upd H T (.tup [.int (i : Nat), x])) fun σ2 H2 => tb { D with nx := Pv (i + 1), ct := Pv (i + 1), bk := D.nx } σ2 H2) (hd : ∀ σ H, Pv xs.length σ H → D.nx σ H) :
    ∃ W : Nat → Nat → L2.St → Hp → Prop, (∃ m, W 0 m σ H) ∧ ∀ i m σ H, W i m σ H →
      ((IteT K a).stop i H ∧ D.nx σ H) ∨ ((IteT K a).go i H ∧ ∃ N : L2.St → Hp → Prop, (∀ σ' H', N σ' H' → ∃ m', m' < m ∧ W (i + 1) m' σ' H') ∧ ∀ x H', (IteT K a).yld i H x H' → g x σ H' fun σ2 H2 => tb { D with nx := N, ct := N, bk := D.nx } σ2 H2) := by
  refine ⟨fun i m σ H => m = xs.length - i ∧ i ≤ xs.length ∧ Pv i σ H, ⟨xs.length, by simp, Nat.zero_le _, h0⟩, ?_⟩
  rintro i m σ H ⟨rfl, hi, p⟩
  have q := hl i σ H hi p
  by_cases lt : i < xs.length
  · refine Or.inr ⟨⟨xs, xs[i], q, by simp [lt]⟩, Pv (i + 1), fun σ' H' p' => ⟨xs.length - (i + 1), by omega, rfl, lt, p'⟩, ?_⟩
    rintro v H' ⟨T, x, rfl, hT, rfl, y⟩
    exact hs i x T σ H (y xs q) p hT
  · have e : i = xs.length := by omega
    subst e
    exact Or.inl ⟨⟨xs, q, Nat.le_refl _⟩, hd σ H p⟩
end Lw

namespace Z
open PySem PySem.Spec PyProof.Rows L2 Lw
def kb3 {α : Type} : List α → List α → List α
  | [], [x, y, z] => [x, y, z]
  | _, _ => []
def kbc {α : Type} : List α → List α → List α
  | [x, y], [z] => [x, y, z]
  | _, _ => []
def topS (i : Nat) : Stmt := PySem.Challenge.pw_stilltold_k15_histories_of_anything.main.body.getD i (.Pass ⟨0, 0, 0, 0⟩)
abbrev s_is_whole : Stmt := topS 1
abbrev s_free : Stmt := topS 3
abbrev s_guard_or_free : Stmt := topS 4
abbrev s_deed_number : Stmt := topS 6
abbrev s_is_history : Stmt := topS 8
abbrev s__law_hand : Stmt := topS 10
abbrev s__law_take : Stmt := topS 11
abbrev s__law_of : Stmt := topS 12
abbrev s__law_names : Stmt := topS 13
abbrev s__law_pick : Stmt := topS 14
abbrev s__law_prog : Stmt := topS 15
abbrev s__law_phase : Stmt := topS 16
abbrev s__law_gate : Stmt := topS 17
abbrev s__law_number : Stmt := topS 18
abbrev s__law_row : Stmt := topS 19
abbrev s__law_odd : Stmt := topS 20
abbrev s__law_bent : Stmt := topS 21
abbrev s__law_is_act : Stmt := topS 22
abbrev s__law_is_row : Stmt := topS 23
abbrev s__law_right : Stmt := topS 24
abbrev s_law : Stmt := topS 25
theorem sc_is_whole : FnScope ["thing"] ["thing"] (defScope s_is_whole) := ⟨rfl, rfl, rfl, by decide +kernel, rfl, by decide +kernel, by decide +kernel⟩
theorem sc_free : FnScope ["deeds"] ["deeds"] (defScope s_free) := ⟨rfl, rfl, rfl, by decide +kernel, rfl, by decide +kernel, by decide +kernel⟩
theorem sc_guard_or_free : FnScope ["program", "guard"] ["program", "guard"] (defScope s_guard_or_free) := ⟨rfl, rfl, rfl, by decide +kernel, rfl, by decide +kernel, by decide +kernel⟩
theorem sc_deed_number : FnScope ["program", "thing", "fits", "number", "name", "many", "part"] ["program", "thing", "fits"] (defScope s_deed_number) := ⟨rfl, rfl, rfl, by decide +kernel, rfl, by decide +kernel, by decide +kernel⟩
theorem sc_is_history : FnScope ["program", "thing", "guard", "places", "place", "deed", "number"] ["program", "thing", "guard"] (defScope s_is_history) := ⟨rfl, rfl, rfl, by decide +kernel, rfl, by decide +kernel, by decide +kernel⟩
theorem sc__law_hand : FnScope ["_law_script", "_law_nth", "_law_cell", "_law_great"] ["_law_script", "_law_nth"] (defScope s__law_hand) := ⟨rfl, rfl, rfl, by decide +kernel, rfl, by decide +kernel, by decide +kernel⟩
theorem sc__law_take : FnScope ["_law_hand_here", "_law_upon", "_law_digit", "_law_prime", "_law_drawn"] ["_law_hand_here", "_law_upon"] (defScope s__law_take) := ⟨rfl, rfl, rfl, by decide +kernel, rfl, by decide +kernel, by decide +kernel⟩
theorem sc__law_of : FnScope ["_law_hand_here", "_law_some"] ["_law_hand_here", "_law_some"] (defScope s__law_of) := ⟨rfl, rfl, rfl, by decide +kernel, rfl, by decide +kernel, by decide +kernel⟩
theorem sc__law_names : FnScope ["_law_hand_here", "_law_count", "_law_letters", "_law_start", "_law_leap", "_law_long", "_law_turn", "_law_stem", "_law_cut", "_law_found", "_law_letter", "_law_word"] ["_law_hand_here", "_law_count"] (defScope s__law_names) := ⟨rfl, rfl, rfl, by decide +kernel, rfl, by decide +kernel, by decide +kernel⟩
theorem sc__law_pick : FnScope ["_law_hand_here", "_law_rooms", "_law_count", "_law_left", "_law_some", "_law_way", "_law_parts", "_law_name", "_law_number_here", "_law_turn"] ["_law_hand_here", "_law_rooms", "_law_count", "_law_left"] (defScope s__law_pick) := ⟨rfl, rfl, rfl, by decide +kernel, rfl, by decide +kernel, by decide +kernel⟩
theorem sc__law_prog : FnScope ["_law_hand_here", "_law_rooms", "_law_phases", "_law_most_came", "_law_some", "_law_names_here", "_law_count", "_law_acts", "_law_spot", "_law_turn"] ["_law_hand_here", "_law_rooms", "_law_phases", "_law_most_came"] (defScope s__law_prog) := ⟨rfl, rfl, rfl, by decide +kernel, rfl, by decide +kernel, by decide +kernel⟩
theorem sc__law_phase : FnScope ["_law_hand_here", "_law_names_here", "_law_acts", "_law_phases", "_law_rules", "_law_name", "_law_count", "_law_becomes", "_law_tells", "_law_room"] ["_law_hand_here", "_law_names_here", "_law_acts", "_law_phases"] (defScope s__law_phase) := ⟨rfl, rfl, rfl, by decide +kernel, rfl, by decide +kernel, by decide +kernel⟩
theorem sc__law_gate : FnScope ["_law_hand_here", "_law_acts", "_law_most_places", "_law_count", "_law_found", "_law_turn", "_law_act"] ["_law_hand_here", "_law_acts", "_law_most_places"] (defScope s__law_gate) := ⟨rfl, rfl, rfl, by decide +kernel, rfl, by decide +kernel, by decide +kernel⟩
theorem sc__law_number : FnScope ["_law_hand_here", "_law_way"] ["_law_hand_here"] (defScope s__law_number) := ⟨rfl, rfl, rfl, by decide +kernel, rfl, by decide +kernel, by decide +kernel⟩
theorem sc__law_row : FnScope ["_law_hand_here", "_law_prog_here", "_law_gate_here", "_law_stead", "_law_count", "_law_found", "_law_turn", "_law_spot", "_law_some", "_law_name", "_law_notes", "_law_number_here"] ["_law_hand_here", "_law_prog_here", "_law_gate_here", "_law_stead", "_law_count"] (defScope s__law_row) := ⟨rfl, rfl, rfl, by decide +kernel, rfl, by decide +kernel, by decide +kernel⟩
theorem sc__law_odd : FnScope ["_law_hand_here", "_law_item", "_law_some"] ["_law_hand_here", "_law_item"] (defScope s__law_odd) := ⟨rfl, rfl, rfl, by decide +kernel, rfl, by decide +kernel, by decide +kernel⟩
theorem sc__law_bent : FnScope ["_law_hand_here", "_law_item", "_law_room", "_law_spot"] ["_law_hand_here", "_law_item", "_law_room"] (defScope s__law_bent) := ⟨rfl, rfl, rfl, by decide +kernel, rfl, by decide +kernel, by decide +kernel⟩
theorem sc__law_is_act : FnScope ["_law_acts", "_law_item", "_law_counts", "_law_name", "_law_count", "_law_part"] ["_law_acts", "_law_item"] (defScope s__law_is_act) := ⟨rfl, rfl, rfl, by decide +kernel, rfl, by decide +kernel, by decide +kernel⟩
theorem sc__law_is_row : FnScope ["_law_acts", "_law_gate_here", "_law_item", "_law_part", "_law_stead", "_law_names_here", "_law_name", "_law_count"] ["_law_acts", "_law_gate_here", "_law_item"] (defScope s__law_is_row) := ⟨rfl, rfl, rfl, by decide +kernel, rfl, by decide +kernel, by decide +kernel⟩
theorem sc__law_right : FnScope ["_law_prog_here", "_law_gate_here", "_law_some", "_law_kept", "_law_plain", "_law_answers", "_law_due"] ["_law_prog_here", "_law_gate_here", "_law_some"] (defScope s__law_right) := ⟨rfl, rfl, rfl, by decide +kernel, rfl, by decide +kernel, by decide +kernel⟩
theorem sc_law : FnScope ["_law_script", "_law_nth", "_law_hand_here", "_law_prog_here", "_law_gate_here", "_law_turn", "_law_row_here", "_law_stead", "_law_some", "_law_again", "_law_bent_here", "_law_item"] ["_law_script"] (defScope s_law) := ⟨rfl, rfl, rfl, by decide +kernel, rfl, by decide +kernel, by decide +kernel⟩
structure Txt (K : PySem.W.Frag) (mg : Str → Option Value) where
  f_is_whole : Addr
  fd_is_whole : FuncData
  F_is_whole : Fun K "is_whole" "is_whole" s_is_whole f_is_whole fd_is_whole
  g_is_whole : mg "is_whole" = some (.ref f_is_whole)
  b_is_whole : Binds K fd_is_whole ["thing"] []
  f_free : Addr
  fd_free : FuncData
  F_free : Fun K "free" "free" s_free f_free fd_free
  g_free : mg "free" = some (.ref f_free)
  b_free : Binds K fd_free ["deeds"] []
  f_guard_or_free : Addr
  fd_guard_or_free : FuncData
  F_guard_or_free : Fun K "guard_or_free" "guard_or_free" s_guard_or_free f_guard_or_free fd_guard_or_free
  g_guard_or_free : mg "guard_or_free" = some (.ref f_guard_or_free)
  b_guard_or_free : Binds K fd_guard_or_free ["program", "guard"] []
  f_deed_number : Addr
  fd_deed_number : FuncData
  F_deed_number : Fun K "deed_number" "deed_number" s_deed_number f_deed_number fd_deed_number
  g_deed_number : mg "deed_number" = some (.ref f_deed_number)
  b_deed_number : Binds K fd_deed_number ["program", "thing", "fits"] []
  f_is_history : Addr
  fd_is_history : FuncData
  F_is_history : Fun K "is_history" "is_history" s_is_history f_is_history fd_is_history
  g_is_history : mg "is_history" = some (.ref f_is_history)
  bd_is_history : Binds K fd_is_history ["program", "thing", "guard"] [.none]
  kc_is_history : KBinds K fd_is_history ["program", "thing", "guard"] ["guard"] kbc kbc
  f__law_hand : Addr
  fd__law_hand : FuncData
  F__law_hand : Fun K "_law_hand" "_law_hand" s__law_hand f__law_hand fd__law_hand
  g__law_hand : mg "_law_hand" = some (.ref f__law_hand)
  b__law_hand : Binds K fd__law_hand ["_law_script", "_law_nth"] []
  f__law_take : Addr
  fd__law_take : FuncData
  F__law_take : Fun K "_law_take" "_law_take" s__law_take f__law_take fd__law_take
  g__law_take : mg "_law_take" = some (.ref f__law_take)
  b__law_take : Binds K fd__law_take ["_law_hand_here", "_law_upon"] []
  f__law_of : Addr
  fd__law_of : FuncData
  F__law_of : Fun K "_law_of" "_law_of" s__law_of f__law_of fd__law_of
  g__law_of : mg "_law_of" = some (.ref f__law_of)
  b__law_of : Binds K fd__law_of ["_law_hand_here", "_law_some"] []
  f__law_names : Addr
  fd__law_names : FuncData
  F__law_names : Fun K "_law_names" "_law_names" s__law_names f__law_names fd__law_names
  g__law_names : mg "_law_names" = some (.ref f__law_names)
  b__law_names : Binds K fd__law_names ["_law_hand_here", "_law_count"] []
  f__law_pick : Addr
  fd__law_pick : FuncData
  F__law_pick : Fun K "_law_pick" "_law_pick" s__law_pick f__law_pick fd__law_pick
  g__law_pick : mg "_law_pick" = some (.ref f__law_pick)
  b__law_pick : Binds K fd__law_pick ["_law_hand_here", "_law_rooms", "_law_count", "_law_left"] []
  f__law_prog : Addr
  fd__law_prog : FuncData
  F__law_prog : Fun K "_law_prog" "_law_prog" s__law_prog f__law_prog fd__law_prog
  g__law_prog : mg "_law_prog" = some (.ref f__law_prog)
  b__law_prog : Binds K fd__law_prog ["_law_hand_here", "_law_rooms", "_law_phases", "_law_most_came"] []
  f__law_phase : Addr
  fd__law_phase : FuncData
  F__law_phase : Fun K "_law_phase" "_law_phase" s__law_phase f__law_phase fd__law_phase
  g__law_phase : mg "_law_phase" = some (.ref f__law_phase)
  b__law_phase : Binds K fd__law_phase ["_law_hand_here", "_law_names_here", "_law_acts", "_law_phases"] []
  f__law_gate : Addr
  fd__law_gate : FuncData
  F__law_gate : Fun K "_law_gate" "_law_gate" s__law_gate f__law_gate fd__law_gate
  g__law_gate : mg "_law_gate" = some (.ref f__law_gate)
  b__law_gate : Binds K fd__law_gate ["_law_hand_here", "_law_acts", "_law_most_places"] []
  f__law_number : Addr
  fd__law_number : FuncData
  F__law_number : Fun K "_law_number" "_law_number" s__law_number f__law_number fd__law_number
  g__law_number : mg "_law_number" = some (.ref f__law_number)
  b__law_number : Binds K fd__law_number ["_law_hand_here"] []
  f__law_row : Addr
  fd__law_row : FuncData
  F__law_row : Fun K "_law_row" "_law_row" s__law_row f__law_row fd__law_row
  g__law_row : mg "_law_row" = some (.ref f__law_row)
  b__law_row : Binds K fd__law_row ["_law_hand_here", "_law_prog_here", "_law_gate_here", "_law_stead", "_law_count"] []
  f__law_odd : Addr
  fd__law_odd : FuncData
  F__law_odd : Fun K "_law_odd" "_law_odd" s__law_odd f__law_odd fd__law_odd
  g__law_odd : mg "_law_odd" = some (.ref f__law_odd)
  b__law_odd : Binds K fd__law_odd ["_law_hand_here", "_law_item"] []
  f__law_bent : Addr
  fd__law_bent : FuncData
  F__law_bent : Fun K "_law_bent" "_law_bent" s__law_bent f__law_bent fd__law_bent
  g__law_bent : mg "_law_bent" = some (.ref f__law_bent)
  b__law_bent : Binds K fd__law_bent ["_law_hand_here", "_law_item", "_law_room"] []
  f__law_is_act : Addr
  fd__law_is_act : FuncData
  F__law_is_act : Fun K "_law_is_act" "_law_is_act" s__law_is_act f__law_is_act fd__law_is_act
  g__law_is_act : mg "_law_is_act" = some (.ref f__law_is_act)
  b__law_is_act : Binds K fd__law_is_act ["_law_acts", "_law_item"] []
  f__law_is_row : Addr
  fd__law_is_row : FuncData
  F__law_is_row : Fun K "_law_is_row" "_law_is_row" s__law_is_row f__law_is_row fd__law_is_row
  g__law_is_row : mg "_law_is_row" = some (.ref f__law_is_row)
  b__law_is_row : Binds K fd__law_is_row ["_law_acts", "_law_gate_here", "_law_item"] []
  f__law_right : Addr
  fd__law_right : FuncData
  F__law_right : Fun K "_law_right" "_law_right" s__law_right f__law_right fd__law_right
  g__law_right : mg "_law_right" = some (.ref f__law_right)
  b__law_right : Binds K fd__law_right ["_law_prog_here", "_law_gate_here", "_law_some"] []
  f_law : Addr
  fd_law : FuncData
  F_law : Fun K "law" "law" s_law f_law fd_law
  g_law : mg "law" = some (.ref f_law)
  b_law : Binds K fd_law ["_law_script"] []
  kb_is_history : KBinds K fd_is_history ["program", "thing", "guard"] ["program", "thing", "guard"] kb3 kb3
  m_abs : mg "abs" = none
  m_all : mg "all" = none
  m_bool : mg "bool" = none
  m_enumerate : mg "enumerate" = none
  m_int : mg "int" = none
  m_isinstance : mg "isinstance" = none
  m_len : mg "len" = none
  m_list : mg "list" = none
  m_max : mg "max" = none
  m_min : mg "min" = none
  m_range : mg "range" = none
  m_repr : mg "repr" = none
  m_str : mg "str" = none
  m_tuple : mg "tuple" = none
theorem Txt.k_is_whole {K : PySem.W.Frag} {mg : Str → Option Value} (T : Txt K mg) : PySem.W.keepIn K (.ref T.f_is_whole) = true := T.F_is_whole.kp
theorem Txt.k_free {K : PySem.W.Frag} {mg : Str → Option Value} (T : Txt K mg) : PySem.W.keepIn K (.ref T.f_free) = true := T.F_free.kp
theorem Txt.k_guard_or_free {K : PySem.W.Frag} {mg : Str → Option Value} (T : Txt K mg) : PySem.W.keepIn K (.ref T.f_guard_or_free) = true := T.F_guard_or_free.kp
theorem Txt.k_deed_number {K : PySem.W.Frag} {mg : Str → Option Value} (T : Txt K mg) : PySem.W.keepIn K (.ref T.f_deed_number) = true := T.F_deed_number.kp
theorem Txt.k_is_history {K : PySem.W.Frag} {mg : Str → Option Value} (T : Txt K mg) : PySem.W.keepIn K (.ref T.f_is_history) = true := T.F_is_history.kp
theorem Txt.k__law_hand {K : PySem.W.Frag} {mg : Str → Option Value} (T : Txt K mg) : PySem.W.keepIn K (.ref T.f__law_hand) = true := T.F__law_hand.kp
theorem Txt.k__law_take {K : PySem.W.Frag} {mg : Str → Option Value} (T : Txt K mg) : PySem.W.keepIn K (.ref T.f__law_take) = true := T.F__law_take.kp
theorem Txt.k__law_of {K : PySem.W.Frag} {mg : Str → Option Value} (T : Txt K mg) : PySem.W.keepIn K (.ref T.f__law_of) = true := T.F__law_of.kp
theorem Txt.k__law_names {K : PySem.W.Frag} {mg : Str → Option Value} (T : Txt K mg) : PySem.W.keepIn K (.ref T.f__law_names) = true := T.F__law_names.kp
theorem Txt.k__law_pick {K : PySem.W.Frag} {mg : Str → Option Value} (T : Txt K mg) : PySem.W.keepIn K (.ref T.f__law_pick) = true := T.F__law_pick.kp
theorem Txt.k__law_prog {K : PySem.W.Frag} {mg : Str → Option Value} (T : Txt K mg) : PySem.W.keepIn K (.ref T.f__law_prog) = true := T.F__law_prog.kp
theorem Txt.k__law_phase {K : PySem.W.Frag} {mg : Str → Option Value} (T : Txt K mg) : PySem.W.keepIn K (.ref T.f__law_phase) = true := T.F__law_phase.kp
theorem Txt.k__law_gate {K : PySem.W.Frag} {mg : Str → Option Value} (T : Txt K mg) : PySem.W.keepIn K (.ref T.f__law_gate) = true := T.F__law_gate.kp
theorem Txt.k__law_number {K : PySem.W.Frag} {mg : Str → Option Value} (T : Txt K mg) : PySem.W.keepIn K (.ref T.f__law_number) = true := T.F__law_number.kp
theorem Txt.k__law_row {K : PySem.W.Frag} {mg : Str → Option Value} (T : Txt K mg) : PySem.W.keepIn K (.ref T.f__law_row) = true := T.F__law_row.kp
theorem Txt.k__law_odd {K : PySem.W.Frag} {mg : Str → Option Value} (T : Txt K mg) : PySem.W.keepIn K (.ref T.f__law_odd) = true := T.F__law_odd.kp
theorem Txt.k__law_bent {K : PySem.W.Frag} {mg : Str → Option Value} (T : Txt K mg) : PySem.W.keepIn K (.ref T.f__law_bent) = true := T.F__law_bent.kp
theorem Txt.k__law_is_act {K : PySem.W.Frag} {mg : Str → Option Value} (T : Txt K mg) : PySem.W.keepIn K (.ref T.f__law_is_act) = true := T.F__law_is_act.kp
theorem Txt.k__law_is_row {K : PySem.W.Frag} {mg : Str → Option Value} (T : Txt K mg) : PySem.W.keepIn K (.ref T.f__law_is_row) = true := T.F__law_is_row.kp
theorem Txt.k__law_right {K : PySem.W.Frag} {mg : Str → Option Value} (T : Txt K mg) : PySem.W.keepIn K (.ref T.f__law_right) = true := T.F__law_right.kp
theorem Txt.k_law {K : PySem.W.Frag} {mg : Str → Option Value} (T : Txt K mg) : PySem.W.keepIn K (.ref T.f_law) = true := T.F_law.kp
end Z

namespace Z
open PySem PySem.Spec PyProof.Rows L2 Lw

/-! ### draws: the hand, a draw, one of some -/
section
variable {P : Program} {w : World} {K : PySem.W.Frag} {mg : Str → Option Value} {base : Heap}
theorem bit_small (b : Bool) : -(2 ^ 64) < (if b = true then (1 : Int) else 0) ∧ (if b = true then (1 : Int) else 0) < 2 ^ 64 := by cases b <;> exact ⟨by decide, by decide⟩
def sp_hand (K : PySem.W.Frag) : Sp := fun vs H Q _ => ∃ (a : Addr) (ns : List Int) (k : Nat), vs = [.ref a, .int k] ∧ SqL K H a (ns.map V.int) ∧ k ≤ 1000 ∧
  ∀ p H', Same H H' → H p = none → Hd H' p 0 → Q (.ref p) H'
theorem ok_hand (T : Txt K mg) {k : Nat} : FnOk P w K mg base CX0 (k + 1) T.f__law_hand T.fd__law_hand ["_law_script", "_law_nth"] (sp_hand K) := by
  refine T.F__law_hand.ok sc__law_hand (fun vs H Q E h => ?_) (fun cdv A outer s H vs Q E hr h => ?_)
  · obtain ⟨a, ns, k, rfl, _⟩ := h
    rfl
  obtain ⟨a, ns, k, rfl, hS, hk, q⟩ := h
  refine ⟨_, (pss_cons (ps_set (i := 2) sc__law_hand.nd rfl (.inl rfl) (pe_ifExp (pt_cmpR op_lt (pv 1) (pe_callB call_len_seq (by rfl) T.m_len (by decide +kernel) (pa_cons (pv 0) pa_nil)) (nomark _)) (pe_ix ix_list (pv 0) (pv 1) (fun _ _ => rfl)) (pe_op op_add (pe_op op_mul pe_int (pv 1)) pe_int)))
      (pss_cons (ps_set (i := 3) sc__law_hand.nd rfl (.inl rfl) (pe_op op_mul (pe_op op_mod (pe_callB call_abs (by rfl) T.m_abs (by decide +kernel) (pa_cons (pv 2) pa_nil)) (pe_op op_powW (pe_op op_pow pe_int pe_int) pe_int)) (pe_callTy call_int1 (by rfl) T.m_int (by decide +kernel) (pa_cons (pe_cmpR op_ge (pe_callB call_abs (by rfl) T.m_abs (by decide +kernel) (pa_cons (pv 2) pa_nil)) (pe_op op_pow pe_int pe_int) (nomark _)) pa_nil))))
      (pss_one (ps_ret (pe_lst (pa_cons (pv 3) (pa_cons (pe_op op_mod (pe_op op_mul (pe_op op_add (pe_op op_add (pe_op op_mod (pv 2) pe_int) (pe_op op_mul (pe_op op_mul pe_int (pv 1)) (pv 1))) pe_int) pe_int) pe_int) (pa_cons pe_int pa_nil)))))))), ?_⟩
  have p1 : CPow 10 60 := ⟨by decide, by decide, by decide⟩
  have p2 : CPowW ((10 : Int) ^ (60 : Int).toNat) 15 := ⟨by decide, by decide +kernel⟩
  have p3 : CPow 10 18 := ⟨by decide, by decide, by decide⟩
  have p4 : (0 : Int) < ((10 : Int) ^ (60 : Int).toNat) ^ (15 : Int).toNat := by decide +kernel
  have fin : ∀ (x y : Int), ∀ p, H p = none → Q (.ref p) (upd H p (.lst [.int x, .int (y % 2305843009213693921), .int 0])) := by
    intro x y p np
    refine q p _ (same_new np) np ⟨_, _, _, upd_same, ?_, ?_, Int.le_refl 0, Int.le_refl 0⟩
    · exact Int.emod_nonneg _ (by decide)
    · exact Int.emod_lt_of_pos _ (by decide)
  refine ⟨.int k, rfl, .ref a, rfl, a, _, rfl, .inl hS, _, _, rfl, rfl, _, rfl, ite2 (fun c => ?_) (fun c => ?_)⟩
  · have c' : (k : Int) < (((ns.map V.int).length : Nat) : Int) := of_decide_eq_true c
    rw [List.length_map] at c'
    have hk' : k < ns.length := by omega
    have at_k : atI (ns.map V.int) (k : Int) = some (.int ns[k]) := atI_nat (by rw [List.getElem?_map, List.getElem?_eq_getElem hk']; rfl)
    refine ⟨_, rfl, _, rfl, a, _, _, _, rfl, rfl, hS, at_k, ?_⟩
    refine ⟨_, rfl, _, rfl, _, _, rfl, rfl, p1, _, _, rfl, rfl, p2, _, _, rfl, rfl, p4, _, rfl, _, rfl, _, _, rfl, rfl, p3, _, _, rfl, rfl, .inr ⟨_, rfl, _, _, rfl, rfl, .inr ?_, ?_⟩⟩
    · exact bit_small _
    refine ⟨_, rfl, _, rfl, _, _, rfl, rfl, (by show (0 : Int) < 2305843009213693951; decide), _, rfl, _, _, rfl, rfl, .inl ⟨by decide, by decide⟩, _, rfl, _, _, rfl, rfl, .inr ⟨by omega, by omega⟩, _, _, rfl, rfl, _, _, rfl, rfl,
      _, _, rfl, rfl, .inr ⟨by decide, by decide⟩, _, _, rfl, rfl, (by show (0 : Int) < 2305843009213693921; decide), (by show 3 ≤ sizeLine; decide), ?_⟩
    exact fin _ _
  · refine ⟨_, rfl, _, _, rfl, rfl, .inl ⟨by decide, by decide⟩, _, _, rfl, rfl, ?_⟩
    refine ⟨_, rfl, _, rfl, _, _, rfl, rfl, p1, _, _, rfl, rfl, p2, _, _, rfl, rfl, p4, _, rfl, _, rfl, _, _, rfl, rfl, p3, _, _, rfl, rfl, .inr ⟨_, rfl, _, _, rfl, rfl, .inr ?_, ?_⟩⟩
    · exact bit_small _
    refine ⟨_, rfl, _, rfl, _, _, rfl, rfl, (by show (0 : Int) < 2305843009213693951; decide), _, rfl, _, _, rfl, rfl, .inl ⟨by decide, by decide⟩, _, rfl, _, _, rfl, rfl, .inr ⟨by omega, by omega⟩, _, _, rfl, rfl, _, _, rfl, rfl,
      _, _, rfl, rfl, .inr ⟨by decide, by decide⟩, _, _, rfl, rfl, (by show (0 : Int) < 2305843009213693921; decide), (by show 3 ≤ sizeLine; decide), ?_⟩
    exact fin _ _

/-- a draw below u -/
def sp_take : Sp := fun vs H Q _ => ∃ (a : Addr) (n u : Nat), vs = [.ref a, .int u] ∧ Hd H a n ∧ n ≤ 1000000 ∧ 0 < u ∧ u ≤ 1000000000000000000000000000000000000000000000000000000000000 ∧
  ∀ (r : Nat) H', r < u → Hd H' a (n + 1) → Kp a H H' → Q (.int r) H'
def primes : List V := [.int 2147483629, .int 2147483587, .int 2147483579, .int 2147483563, .int 2147483549, .int 2147483543, .int 2147483497]
theorem prime_at (c : Int) : ∃ q : Int, atI primes (c % 7) = some (.int q) ∧ 0 < q ∧ q < 4294967296 := by
  have h0 : 0 ≤ c % 7 := Int.emod_nonneg _ (by decide)
  have h1 : c % 7 < 7 := Int.emod_lt_of_pos _ (by decide)
  have h : c % 7 = 0 ∨ c % 7 = 1 ∨ c % 7 = 2 ∨ c % 7 = 3 ∨ c % 7 = 4 ∨ c % 7 = 5 ∨ c % 7 = 6 := by omega
  rcases h with e | e | e | e | e | e | e <;> rw [e] <;> exact ⟨_, rfl, by decide, by decide⟩
theorem ok_take (T : Txt K mg) {k : Nat} : FnOk P w K mg base CX0 (k + 1) T.f__law_take T.fd__law_take ["_law_hand_here", "_law_upon"] sp_take := by
  refine T.F__law_take.ok sc__law_take (fun vs H Q E h => ?_) (fun cdv A outer s H vs Q E hr h => ?_)
  · obtain ⟨a, n, u, rfl, _⟩ := h
    rfl
  obtain ⟨a, n, u, rfl, ⟨g, m, c, ha, m0, m1, c0, c1⟩, hn, u0, u1, q⟩ := h
  refine ⟨_, (pss_cons (ps_if (pt_cmpR op_gt (pe_ix ix_list (pv 0) pe_int (fun _ _ => rfl)) pe_int (nomark _)) (pss_cons (ps_set (i := 2) sc__law_take.nd rfl (.inl rfl) (pe_op op_mod (pe_ix ix_list (pv 0) pe_int (fun _ _ => rfl)) (pv 1)))
      (pss_cons (ps_asg (pe_op op_fdivW (pe_ix ix_list (pv 0) pe_int (fun _ _ => rfl)) (pv 1)) (pg_sub (pv 0) pe_int set_list))
      (pss_one (ps_ret (pv 2))))) pss_nil)
      (pss_cons (ps_asg (pe_op op_add (pe_ix ix_list (pv 0) pe_int (fun _ _ => rfl)) pe_int) (pg_sub (pv 0) pe_int set_list))
      (pss_cons (ps_set (i := 3) sc__law_take.nd rfl (.inl rfl) (pe_ix ix_list (pe_lst (pa_cons pe_int (pa_cons pe_int (pa_cons pe_int (pa_cons pe_int (pa_cons pe_int (pa_cons pe_int (pa_cons pe_int pa_nil)))))))) (pe_op op_mod (pe_ix ix_list (pv 0) pe_int (fun _ _ => rfl)) pe_int) (fun _ _ => rfl)))
      (pss_cons (ps_set (i := 4) sc__law_take.nd rfl (.inl rfl) (pe_op op_mod (pe_op op_pow (pe_op op_add (pe_ix ix_list (pv 0) pe_int (fun _ _ => rfl)) (pe_op op_mul pe_int (pe_ix ix_list (pv 0) pe_int (fun _ _ => rfl)))) pe_int) (pv 3)))
      (pss_one (ps_ret (pe_op op_mod (pe_op op_fdiv (pe_op op_mod (pe_op op_mul (pv 4) (pe_op op_add (pe_op op_mod (pv 4) pe_int) (pe_ix ix_list (pv 0) pe_int (fun _ _ => rfl)))) (pv 3)) pe_int) (pv 1)))))))), ?_⟩
  have u0' : (0 : Int) < (u : Int) := by omega
  refine ⟨_, rfl, a, _, 0, _, rfl, rfl, SqL.of ha, rfl, _, _, rfl, rfl, _, rfl, ite2 (fun cc => ?_) (fun cc => ?_)⟩
  · refine ⟨_, rfl, a, _, 0, _, rfl, rfl, SqL.of ha, rfl, _, rfl, _, _, rfl, rfl, u0', ?_⟩
    refine ⟨_, rfl, a, _, 0, _, rfl, rfl, SqL.of ha, rfl, _, rfl, _, _, rfl, rfl, ⟨u0', PySem.Flt.log2_lt_of (by decide) (Nat.lt_of_le_of_lt (show ((u : Nat) : Int).natAbs ≤ 1000000000000000000000000000000000000000000000000000000000000 by omega) (by decide +kernel))⟩, _, rfl, a, _, 0, 0, rfl, rfl, ha, rfl, _, rfl, ?_⟩
    have r0 : 0 ≤ g % (u : Int) := Int.emod_nonneg _ (by omega)
    have r1 : g % (u : Int) < (u : Int) := Int.emod_lt_of_pos _ u0'
    have e : g % (u : Int) = (((g % (u : Int)).toNat : Nat) : Int) := by omega
    show Q (.int (g % (u : Int))) _
    rw [e]
    exact q _ _ (by omega) ⟨_, _, _, upd_same, m0, m1, c0, by omega⟩ (Kp.upd (Kp.refl a H))
  · refine ⟨_, rfl, a, _, 2, _, rfl, rfl, SqL.of ha, rfl, _, _, rfl, rfl, _, rfl, a, _, 2, 2, rfl, rfl, ha, rfl, ?_⟩
    have h1 : (upd H a (.lst ([V.int g, .int m, .int c].set 2 (.int (c + 1))))) a = some (.lst [.int g, .int m, .int (c + 1)]) := upd_same
    generalize hH : upd H a (.lst ([V.int g, .int m, .int c].set 2 (.int (c + 1)))) = H1 at h1 ⊢
    have k1 : Kp a H H1 := by
      rw [← hH]
      exact Kp.upd (Kp.refl a H)
    refine ⟨(by show 7 ≤ sizeLine; decide), fun p np => ?_⟩
    have s2 : Same H1 (upd H1 p (.lst primes)) := same_new np
    have h2 := s2 _ _ h1
    obtain ⟨pr, pe, pr0, pr1⟩ := prime_at (c + 1)
    refine ⟨_, rfl, a, _, 2, _, rfl, rfl, SqL.of h2, rfl, _, _, rfl, rfl, (by show (0 : Int) < 7; decide), p, primes, _, _, rfl, rfl, SqL.of upd_same, pe, ?_⟩
    refine ⟨_, rfl, a, _, 1, _, rfl, rfl, SqL.of h2, rfl, _, rfl, a, _, 2, _, rfl, rfl, SqL.of h2, rfl, _, _, rfl, rfl, .inl ⟨by decide, by decide⟩, _, _, rfl, rfl, _, _, rfl, rfl, ⟨by decide, by decide, ?_⟩, _, rfl, _, _, rfl, rfl, pr0, ?_⟩
    · have : (m + 7919 * (c + 1)).natAbs < 18446744073709551616 := by omega
      exact this
    generalize hd : (m + 7919 * (c + 1)) ^ (3 : Int).toNat % pr = dr
    have d0 : 0 ≤ dr := by
      rw [← hd]
      exact Int.emod_nonneg _ (by omega)
    have d1 : dr < pr := by
      rw [← hd]
      exact Int.emod_lt_of_pos _ pr0
    refine ⟨_, rfl, _, rfl, _, _, rfl, rfl, (by show (0 : Int) < 1009; decide), _, rfl, a, _, 2, _, rfl, rfl, SqL.of h2, rfl, _, _, rfl, rfl, _, _, rfl, rfl, .inl ⟨by omega, by omega⟩, _, rfl, _, _, rfl, rfl, pr0, _, _, rfl, rfl, ⟨by decide, by decide⟩, _, rfl, _, _, rfl, rfl, u0', ?_⟩
    have key : ∀ z : Int, Q (.int (z % (u : Int))) (upd H1 p (.lst primes)) := by
      intro z
      have r0 : 0 ≤ z % (u : Int) := Int.emod_nonneg _ (by omega)
      have r1 : z % (u : Int) < (u : Int) := Int.emod_lt_of_pos _ u0'
      have e : z % (u : Int) = (((z % (u : Int)).toNat : Nat) : Int) := by omega
      rw [e]
      exact q _ _ (by omega) ⟨_, _, _, h2, m0, m1, by omega, by omega⟩ (k1.trans (Kp.of_same s2))
    exact key _

/-- one of some -/
def sp_of : Sp := fun vs H Q _ => ∃ (a b : Addr) (n : Nat) (xs : List V), vs = [.ref a, .ref b] ∧ Hd H a n ∧ n ≤ 1000000 ∧ H b = some (.lst xs) ∧ b ≠ a ∧ 0 < xs.length ∧ xs.length ≤ 1000 ∧
  ∀ (v : V) H', v ∈ xs → Hd H' a (n + 1) → Kp a H H' → Q v H'
theorem ok_of (T : Txt K mg) {k : Nat} : FnOk P w K mg base CX0 (k + 2) T.f__law_of T.fd__law_of ["_law_hand_here", "_law_some"] sp_of := by
  have G__law_take := ok_take (P := P) (w := w) (base := base) T (k := k)
  refine T.F__law_of.ok sc__law_of (fun vs H Q E h => ?_) (fun cdv A outer s H vs Q E hr h => ?_)
  · obtain ⟨a, b, n, xs, rfl, _⟩ := h
    rfl
  obtain ⟨a, b, n, xs, rfl, ha, hn, hb, nb, x0, x1, q⟩ := h
  refine ⟨_, (pss_one (ps_ret (pe_ix ix_list (pv 1) (pe_call G__law_take hr (by rfl) T.g__law_take T.k__law_take T.b__law_take .nil pass0 (pa_cons (pv 0) (pa_cons (pe_callB call_len_seq (by rfl) T.m_len (by decide +kernel) (pa_cons (pv 1) pa_nil)) pa_nil))) (fun _ _ => rfl)))), ?_⟩
  refine ⟨_, rfl, _, rfl, _, rfl, b, xs, rfl, .inl (SqL.of hb), a, n, xs.length, rfl, ha, hn, x0, by omega, fun r H' hr' hd kp => ?_⟩
  have hb' : H' b = some (.lst xs) := kp b _ nb hb
  refine ⟨b, xs, (r : Int), xs[r], rfl, rfl, SqL.of hb', atI_nat (List.getElem?_eq_getElem hr'), ?_⟩
  exact q _ _ (List.getElem_mem hr') hd kp
end

end Z

namespace Z
open PySem PySem.Spec PyProof.Rows L2 Lw

/-! ### names -/
section
variable {P : Program} {w : World} {K : PySem.W.Frag} {mg : Str → Option Value} {base : Heap}
def sp_ofS : Sp := fun vs H Q _ => ∃ (a : Addr) (n : Nat) (z : Str), vs = [.ref a, .str z] ∧ Hd H a n ∧ n ≤ 1000000 ∧ 0 < z.length ∧ z.length ≤ 1000 ∧
  ∀ (c : Nat) H', c ∈ z.cps.toList → Hd H' a (n + 1) → Kp a H H' → Q (.str ⟨#[c]⟩) H'
theorem ok_ofS (T : Txt K mg) {k : Nat} : FnOk P w K mg base CX0 (k + 2) T.f__law_of T.fd__law_of ["_law_hand_here", "_law_some"] sp_ofS := by
  have G__law_take := ok_take (P := P) (w := w) (base := base) T (k := k)
  refine T.F__law_of.ok sc__law_of (fun vs H Q E h => ?_) (fun cdv A outer s H vs Q E hr h => ?_)
  · obtain ⟨a, n, z, rfl, _⟩ := h
    rfl
  obtain ⟨a, n, z, rfl, ha, hn, z0, z1, q⟩ := h
  refine ⟨_, (pss_one (ps_ret (pe_ix ix_str (pv 1) (pe_call G__law_take hr (by rfl) T.g__law_take T.k__law_take T.b__law_take .nil pass0 (pa_cons (pv 0) (pa_cons (pe_callB call_len_str (by rfl) T.m_len (by decide +kernel) (pa_cons (pv 1) pa_nil)) pa_nil))) (fun _ _ => rfl)))), ?_⟩
  have zs : z.length ≤ sizeLine := Nat.le_trans z1 (by decide)
  refine ⟨_, rfl, _, rfl, _, rfl, z, rfl, zs, a, n, z.length, rfl, ha, hn, z0, by omega, fun r H' hr' hd kp => ?_⟩
  have hr2 : r < z.cps.toList.length := by
    rw [← len_cps]
    exact hr'
  refine ⟨z, (r : Int), z.cps.toList[r], rfl, rfl, zs, atI_nat (List.getElem?_eq_getElem hr2), ?_⟩
  exact q _ _ (List.getElem_mem hr2) hd kp
def abc : Str := "abcdefghijklmnopqrstuvwxyz"
theorem abc_lt : Lt abc := by
  intro c hc
  have h : ∀ c ∈ abc.cps.toList, 97 ≤ c ∧ c ≤ 122 := by decide +kernel
  exact h c hc
theorem abc_len : abc.length = 26 := by decide +kernel
theorem abc_at (i : Int) : ∃ c, atI abc.cps.toList (i % 26) = some c ∧ 97 ≤ c ∧ c ≤ 122 := by
  have h0 : 0 ≤ i % 26 := Int.emod_nonneg _ (by decide)
  have h1 : i % 26 < 26 := Int.emod_lt_of_pos _ (by decide)
  have e : i % 26 = (((i % 26).toNat : Nat) : Int) := by omega
  have hl : (i % 26).toNat < abc.cps.toList.length := by
    rw [← len_cps, abc_len]
    omega
  rw [e]
  exact ⟨_, atI_nat (List.getElem?_eq_getElem hl), abc_lt _ (List.getElem_mem hl)⟩
theorem abc_list : abc.cps.toList = (List.range 26).map (97 + ·) := by decide +kernel
theorem abc_at2 (i : Int) : ∃ c : Nat, atI abc.cps.toList (i % 26) = some c ∧ (97 ≤ c ∧ c ≤ 122) ∧ (c : Int) = 97 + i % 26 := by
  have h0 : 0 ≤ i % 26 := Int.emod_nonneg _ (by decide)
  have h1 : i % 26 < 26 := Int.emod_lt_of_pos _ (by decide)
  have e : i % 26 = (((i % 26).toNat : Nat) : Int) := by omega
  refine ⟨97 + (i % 26).toNat, ?_, ?_, by omega⟩
  · rw [abc_list]
    rw [e]
    refine atI_nat ?_
    rw [List.getElem?_map, List.getElem?_range (by omega)]
    rfl
  · omega
def sp_names : Sp := fun vs H Q _ => ∃ (a : Addr) (n c : Nat), vs = [.ref a, .int c] ∧ Hd H a n ∧ n ≤ 800000 ∧ c ≤ 20 ∧
  ∀ (p : Addr) (ws : List Str) H', H p = none → H' p = some (.lst (ws.map V.str)) → ws.length = c → (∀ z ∈ ws, Lt z ∧ z.length ≤ 8) → ws.Nodup → Hd H' a (n + 10) → Kp a H H' → Q (.ref p) H'
theorem ok_names (T : Txt K mg) {k : Nat} : FnOk P w K mg base CX0 (k + 3) T.f__law_names T.fd__law_names ["_law_hand_here", "_law_count"] sp_names := by
  have G__law_take := ok_take (P := P) (w := w) (base := base) T (k := k + 1)
  have G__law_of := ok_of (P := P) (w := w) (base := base) T (k := k)
  have G__law_ofS := ok_ofS (P := P) (w := w) (base := base) T (k := k)
  refine T.F__law_names.ok sc__law_names (fun vs H Q E h => ?_) (fun cdv A outer s H vs Q E hr h => ?_)
  · obtain ⟨a, n, c, rfl, _⟩ := h
    rfl
  obtain ⟨a, n, c, rfl, ha, hn, hc, q⟩ := h
  refine ⟨_, (pss_cons (ps_set (i := 2) sc__law_names.nd rfl (.inr rfl) pe_str)
      (pss_cons (ps_par (i := 3) (j := 4) rfl sc__law_names.nd rfl rfl (by decide) rfl rfl (pa_cons (pe_call G__law_take hr (by rfl) T.g__law_take T.k__law_take T.b__law_take .nil pass0 (pa_cons (pv 0) (pa_cons pe_int pa_nil))) (pa_cons (pe_call G__law_of hr (by rfl) T.g__law_of T.k__law_of T.b__law_of .nil pass0 (pa_cons (pv 0) (pa_cons (pe_lst (pa_cons pe_int (pa_cons pe_int (pa_cons pe_int (pa_cons pe_int (pa_cons pe_int (pa_cons pe_int pa_nil))))))) pa_nil))) pa_nil)) (by rfl))
      (pss_cons (ps_set (i := 5) sc__law_names.nd rfl (.inl rfl) (pe_call G__law_of hr (by rfl) T.g__law_of T.k__law_of T.b__law_of .nil pass0 (pa_cons (pv 0) (pa_cons (pe_lst (pa_cons pe_int (pa_cons pe_int (pa_cons pe_int (pa_cons pe_int (pa_cons pe_int (pa_cons pe_int pa_nil))))))) pa_nil))))
      (pss_cons (ps_set (i := 7) sc__law_names.nd rfl (.inl rfl) (pe_bm PySem.F.plainAttrs_str PySem.F.slot_str_join PySem.F.type_str_join mt_join pe_str (pa_cons (pe_lc (own := [("_law_turn", 6)]) (g := gName 6) (tt := tYes) rfl sc__law_names.nd (pi_range1 (by rfl) T.m_range (pa_cons (pv 5) pa_nil)) (blkOk_by (N := ["_law_hand_here", "_law_count", "_law_letters", "_law_start", "_law_leap", "_law_long", "_law_turn", "_law_stem", "_law_cut", "_law_found", "_law_letter", "_law_word"]) (sc := defScope s__law_names) (by decide +kernel)) (fun _ _ _ _ _ => (pg_name (i := 6) sc__law_names.nd rfl (Or.inl rfl))) (fun _ _ _ _ _ => pts_nil) (fun _ _ _ _ _ => (pe_call G__law_ofS hr (by rfl) T.g__law_of T.k__law_of T.b__law_of .nil pass0 (pa_cons (pv 0) (pa_cons (pv 2) pa_nil))))) pa_nil)))
      (pss_cons (ps_par (i := 8) (j := 9) rfl sc__law_names.nd rfl rfl (by decide) rfl rfl (pa_cons (pe_call G__law_take hr (by rfl) T.g__law_take T.k__law_take T.b__law_take .nil pass0 (pa_cons (pv 0) (pa_cons (pe_op op_add (pv 5) pe_int) pa_nil))) (pa_cons (pe_lst pa_nil) pa_nil)) (by rfl))
      (pss_cons (ps_for PassesOwn.never rfl (pi_range1 (by rfl) T.m_range (pa_cons (pv 1) pa_nil)) (pg_name (i := 6) sc__law_names.nd rfl (.inl rfl)) (pss_cons (ps_set (i := 10) sc__law_names.nd rfl (.inl rfl) (pe_ix ix_str (pv 2) (pe_op op_mod (pe_op op_add (pv 3) (pe_op op_mul (pv 4) (pv 6))) pe_int) (fun _ _ => rfl)))
      (pss_cons (ps_set (i := 11) sc__law_names.nd rfl (.inl rfl) (pe_op op_add_str (pe_op op_add_str (pe_slice sl_str (pv 7) po_none (po_some (pv 8))) (pv 10)) (pe_slice sl_str (pv 7) (po_some (pv 8)) po_none)))
      (pss_one (ps_expr (pe_bm PySem.F.plainAttrs_list PySem.F.slot_list_append PySem.F.type_list_append mt_append (pv 9) (pa_cons (pe_op op_add_str (pv 11) (pe_op op_mulS pe_str (pe_callTy call_int1 (by rfl) T.m_int (by decide +kernel) (pa_cons (pe_cmpR op_in_seq (pv 11) (pe_tup (pa_cons pe_str (pa_cons pe_str (pa_cons pe_str (pa_cons pe_str (pa_cons pe_str pa_nil)))))) (by rfl)) pa_nil)))) pa_nil)))))))
      (pss_one (ps_ret (pv 9))))))))), ?_⟩
  have notH : ∀ {m : Nat} {H1 : Hp} {p : Addr}, Hd H1 a m → H1 p = none → p ≠ a := fun h e z => by
    obtain ⟨g, m, cc, e', _⟩ := h
    rw [z, e'] at e
    cases e
  -- start, leap
  refine ⟨_, rfl, a, n, 26, rfl, ha, by omega, by decide, by decide, fun start H1 hs1 g1 k1 => ?_⟩
  refine ⟨_, rfl, (by show 6 ≤ sizeLine; decide), fun p2 n2 => ?_⟩
  have s2 := same_new (o := .lst [.int 1, .int 3, .int 5, .int 7, .int 9, .int 11]) n2
  refine ⟨a, p2, n + 1, _, rfl, g1.same s2, by omega, upd_same, notH g1 n2, (by decide), (by decide), fun vl H3 hl g3 k3 => ⟨_, _, rfl, ?_⟩⟩
  obtain ⟨leap, rfl, hleap⟩ : ∃ leap : Int, vl = .int leap ∧ (leap = 1 ∨ leap = 3 ∨ leap = 5 ∨ leap = 7 ∨ leap = 9 ∨ leap = 11) := by
    simp only [List.mem_cons, List.not_mem_nil, or_false] at hl
    rcases hl with e | e | e | e | e | e
    all_goals exact ⟨_, e, by decide⟩
  have k13 : Kp a H H3 := k1.trans ((Kp.of_same s2).trans k3)
  -- long
  refine ⟨_, rfl, (by show 6 ≤ sizeLine; decide), fun p4 n4 => ?_⟩
  have s4 := same_new (o := .lst [.int 0, .int 0, .int 1, .int 2, .int 3, .int 6]) n4
  refine ⟨a, p4, n + 1 + 1, _, rfl, g3.same s4, by omega, upd_same, notH g3 n4, (by decide), (by decide), fun vg H5 hg g5 k5 => ?_⟩
  obtain ⟨long, rfl, hlong⟩ : ∃ long : Nat, vg = .int (long : Int) ∧ long ≤ 6 := by
    simp only [List.mem_cons, List.not_mem_nil, or_false] at hg
    rcases hg with e | e | e | e | e | e
    · exact ⟨0, e, by decide⟩
    · exact ⟨0, e, by decide⟩
    · exact ⟨1, e, by decide⟩
    · exact ⟨2, e, by decide⟩
    · exact ⟨3, e, by decide⟩
    · exact ⟨6, e, by decide⟩
  have k15 : Kp a H H5 := k13.trans ((Kp.of_same s4).trans k5)
  -- stem
  refine ⟨rfl, ?_⟩
  refine ⟨_, rfl, _, rfl, by omega, by omega, fun D1 n1 => ?_⟩
  have hD : H D1 = none := by
    cases e : H D1 with
    | none => rfl
    | some o =>
      have nd : D1 ≠ a := notH g5 n1
      rw [k15 D1 o nd e] at n1
      cases n1
  have nDa : D1 ≠ a := notH g5 n1
  refine Lw.lc_range (lo := 0) (n := ((long : Int)).toNat) (fun m H' => Hd H' a (n + 3 + m) ∧ Kp a H H' ∧ ∃ ys : List Str, H' D1 = some (.lst (ys.map V.str)) ∧ ys.length = m ∧ ∀ y ∈ ys, Lt y ∧ y.length = 1) ?_ ?_ ?_
  · exact ⟨g5.same (same_new n1), k15.trans (Kp.of_same (same_new n1)), [], upd_same, rfl, fun y hy => by cases hy⟩
  · rintro m H6 hm ⟨g6, k6, ys, e6, l6, p6⟩
    refine ⟨rfl, ?_⟩
    dsimp only [tYes]
    refine iteT ?_
    refine ⟨_, rfl, _, rfl, a, n + 3 + m, abc, rfl, g6, by omega, by rw [abc_len]; decide, by rw [abc_len]; decide, fun ch H7 hch g7 k7 => ?_⟩
    refine ⟨_, k7 _ _ nDa e6, ?_, ?_, ?_, ys ++ [⟨#[ch]⟩], ?_, ?_, ?_⟩
    · rw [List.length_map, l6]
      exact Nat.lt_of_le_of_lt (show m ≤ 1000 by omega) (by decide)
    · obtain ⟨g, mm, cc, e, r1, r2, r3, r4⟩ := g7
      exact ⟨g, mm, cc, by rw [upd_ne nDa.symm]; exact e, r1, r2, r3, by omega⟩
    · intro b o nb e
      have nb2 : b ≠ D1 := ne_of_none e hD
      rw [upd_ne nb2]
      exact k7 _ _ nb (k6 _ _ nb e)
    · rw [upd_same, List.map_append]
      rfl
    · rw [List.length_append, l6]
      rfl
    · intro y hy
      rcases List.mem_append.mp hy with hy | hy
      · exact p6 y hy
      · rw [List.mem_singleton.mp hy]
        exact ⟨lt_one (abc_lt _ hch), rfl⟩
  · rintro H6 ⟨g6, k6, ys, e6, l6, p6⟩
    have ll : ((long : Int)).toNat = long := by omega
    rw [ll] at g6 l6
    have sum1 : (ys.map (·.length)).sum = long := by
      have : ∀ zs : List Str, (∀ y ∈ zs, Lt y ∧ y.length = 1) → (zs.map (·.length)).sum = zs.length := by
        intro zs
        induction zs with
        | nil => intro _; rfl
        | cons z zs ih =>
          intro h
          rw [List.map_cons, List.sum_cons, ih fun y hy => h y (List.mem_cons_of_mem _ hy), (h z List.mem_cons_self).2, List.length_cons]
          omega
      rw [this ys p6, l6]
    refine ⟨_, D1, ys, rfl, rfl, .inl (SqL.of e6), ?_, ?_⟩
    · rw [sum1]
      show long + ys.length * (Str.ofString "").length ≤ 16777216
      have : (Str.ofString "").length = 0 := rfl
      rw [this]
      omega
    have je : Txt.join (Str.ofString "") ys = Str.join Str.empty ys := TL.join_eq _ _
    obtain ⟨jl, jn⟩ := join_lt (ys := ys) fun y hy => (p6 y hy).1
    rw [sum1] at jn
    rw [je]
    generalize Str.join Str.empty ys = stem at jl jn
    -- cut, found
    refine ⟨_, rfl, _, rfl, _, _, rfl, rfl, a, n + 3 + long, long + 1, rfl, g6, by omega, by omega, by omega, fun cut H7 hcut g7 k7 => ?_⟩
    refine ⟨(by show 0 ≤ sizeLine; decide), fun pf nf => ⟨_, _, rfl, ?_⟩⟩
    have k8 := (k6.trans k7).trans (Kp.of_same (same_new (o := .lst []) nf))
    have hpf : H pf = none := by
      cases e : H pf with
      | none => rfl
      | some o =>
        have nd : pf ≠ a := notH g7 nf
        rw [(k6.trans k7) pf o nd e] at nf
        cases nf
    have nfa : pf ≠ a := notH g7 nf
    refine ⟨_, rfl, _, rfl, by omega, by omega, for_range (lo := 0) (n := ((c : Int)).toNat) (fun m σ H' => (∃ y6 y10 y11, σ = [some (.ref a), some (.int (c : Int)), some (.str abc), some (.int (start : Int)), some (.int leap), some (.int (long : Int)), y6, some (.str stem), some (.int (cut : Int)), some (.ref pf), y10, y11]) ∧ Hd H' a (n + 10) ∧ Kp a H H' ∧
      ∃ ws : List Str, H' pf = some (.lst (ws.map V.str)) ∧ ws.length = m ∧ (∀ z ∈ ws, Lt z ∧ z.length ≤ 8) ∧ ∀ (i : Nat) (z : Str), ws[i]? = some z → ∃ ch : Nat, z.cps.toList[(cutS stem none (some (cut : Int))).cps.toList.length]? = some ch ∧ (ch : Int) = 97 + ((start : Int) + leap * (i : Int)) % 26) ?_ ?_ ?_⟩
    · exact ⟨⟨_, _, _, rfl⟩, (g7.same (same_new nf)).mono (by omega), k8, [], upd_same, rfl, (fun z hz => by cases hz), fun i z hz => by simp at hz⟩
    · rintro m σ H9 hm ⟨⟨y6, y10, y11, rfl⟩, g9, k9, ws, e9, l9, p9, u9⟩
      obtain ⟨ch, hch, hch2, hch3⟩ := abc_at2 ((start : Int) + leap * (0 + (m : Int)))
      refine ⟨_, rfl, _, rfl, _, rfl, _, rfl, _, _, rfl, rfl, .inl ⟨by omega, by omega⟩, _, _, rfl, rfl, _, _, rfl, rfl, (by show (0 : Int) < 26; decide), abc, _, ch, rfl, rfl, (by rw [abc_len]; decide), hch, ?_⟩
      have z1 := cutS_length stem none (some (cut : Int))
      have z2 := cutS_length stem (some (cut : Int)) none
      have one : (⟨#[ch]⟩ : Str).length = 1 := rfl
      have sl : stem.length ≤ sizeLine := Nat.le_trans (show stem.length ≤ 1000 by omega) (by decide)
      have small : ∀ x : Nat, x ≤ 1000 → x ≤ sizeLine := fun x h => Nat.le_trans h (by decide)
      refine ⟨_, rfl, _, rfl, _, rfl, stem, rfl, sl, _, rfl, _, _, rfl, rfl, small _ (by rw [one]; omega), _, rfl, _, rfl, _, rfl, stem, rfl, sl, _, _, rfl, rfl, small _ (by rw [strLen_append, one]; omega), ?_⟩
      have wl : (cutS stem none (some (cut : Int)) ++ ⟨#[ch]⟩ ++ cutS stem (some (cut : Int)) none).length ≤ 7 := by
        rw [strLen_append, strLen_append, one]
        have := cut_two stem cut
        omega
      have wt : Lt (cutS stem none (some (cut : Int)) ++ ⟨#[ch]⟩ ++ cutS stem (some (cut : Int)) none) := lt_app (lt_app (lt_cut jl _ _) (lt_one hch2)) (lt_cut jl _ _)
      have wc : (cutS stem none (some (cut : Int)) ++ ⟨#[ch]⟩ ++ cutS stem (some (cut : Int)) none).cps.toList[(cutS stem none (some (cut : Int))).cps.toList.length]? = some ch := by
        rw [app_cps, app_cps]
        show ((cutS stem none (some (cut : Int))).cps.toList ++ [ch] ++ (cutS stem (some (cut : Int)) none).cps.toList)[(cutS stem none (some (cut : Int))).cps.toList.length]? = some ch
        rw [List.append_assoc, List.getElem?_append_right (Nat.le_refl _), Nat.sub_self]
        rfl
      generalize (cutS stem none (some (cut : Int)) ++ ⟨#[ch]⟩ ++ cutS stem (some (cut : Int)) none) = word at wl wt wc ⊢
      refine ⟨_, rfl, .inl ⟨rfl, _, SqL.of e9⟩, _, rfl, _, rfl, (by show 5 ≤ sizeLine; decide), fun pt nt => ?_⟩
      have s10 := same_new (o := .tup [.str "none", .str "cell", .str "came", .str "kth", .str "least"]) nt
      have e10 := s10 _ _ e9
      refine ⟨pt, _, rfl, .inr (SqT.of upd_same), rfl, rfl, .inr ⟨_, rfl, _, _, rfl, rfl, ?_⟩⟩
      have xs : ∀ b : Bool, (if b = true then (Str.ofString "x") else Str.empty).length ≤ 1 ∧ Lt (if b = true then (Str.ofString "x") else Str.empty) := by
        intro b
        cases b with
        | true => exact ⟨Nat.le_refl 1, lt_one (c := 120) (by decide)⟩
        | false => exact ⟨Nat.zero_le 1, lt_empty⟩
      generalize inV (V.str word) _ = bb0
      generalize hbb : (if false = true then !bb0 else bb0) = bb
      obtain ⟨x1, x2⟩ := xs bb
      refine ⟨_, _, rfl, rfl, small _ (by omega), pf, _, _, rfl, rfl, e10, ?_, ?_⟩
      · rw [List.length_map, l9]
        exact Nat.lt_of_le_of_lt (show m ≤ 1000 by omega) (by decide)
      · refine ⟨⟨_, _, _, rfl⟩, ?_, ?_, ws ++ [word ++ (if bb = true then (Str.ofString "x") else Str.empty)], ?_, ?_, ?_, ?_⟩
        · obtain ⟨g, mm, cc, e, r⟩ := g9.same s10
          exact ⟨g, mm, cc, by rw [upd_ne nfa.symm]; exact e, r⟩
        · intro b o nb e
          have nb2 : b ≠ pf := ne_of_none e hpf
          rw [upd_ne nb2]
          exact s10 _ _ (k9 _ _ nb e)
        · rw [upd_same, List.map_append]
          rfl
        · rw [List.length_append, l9]
          rfl
        · intro z hz
          rcases List.mem_append.mp hz with hz | hz
          · exact p9 z hz
          · rw [List.mem_singleton.mp hz]
            exact ⟨lt_app wt x2, by rw [strLen_append]; omega⟩
        · intro i z hz
          by_cases hi : i < ws.length
          · rw [List.getElem?_append_left hi] at hz
            exact u9 i z hz
          · have hl := (List.getElem?_eq_some_iff.mp hz).1
            rw [List.length_append, List.length_singleton] at hl
            have ei : i = ws.length := by omega
            rw [ei, List.getElem?_append_right (Nat.le_refl _), Nat.sub_self] at hz
            have ez : word ++ (if bb = true then (Str.ofString "x") else Str.empty) = z := Option.some.inj hz
            refine ⟨ch, ?_, ?_⟩
            · rw [← ez, app_cps, List.getElem?_append_left (List.getElem?_eq_some_iff.mp wc).1]
              exact wc
            · rw [hch3, ei, l9, Int.zero_add]
    · rintro σ H9 ⟨⟨y6, y10, y11, rfl⟩, g9, k9, ws, e9, l9, p9, u9⟩
      have lc : ((c : Int)).toNat = c := by omega
      rw [lc] at l9
      refine ⟨_, rfl, q pf ws H9 hpf e9 l9 p9 (List.pairwise_iff_getElem.mpr fun i j hi hj hij e => ?_) g9 k9⟩
      obtain ⟨c1, h1, h2⟩ := u9 i _ (List.getElem?_eq_getElem hi)
      obtain ⟨c2, h3, h4⟩ := u9 j _ (List.getElem?_eq_getElem hj)
      rw [e, h3] at h1
      have ec : c2 = c1 := Option.some.inj h1
      rcases hleap with z | z | z | z | z | z <;> subst z <;> omega
end

end Z

namespace Z
open PySem PySem.Spec PyProof.Rows L2 Lw

section
variable {P : Program} {w : World} {K : PySem.W.Frag} {mg : Str → Option Value} {base : Heap}
/-- all tuples stay -/
def TK (H H' : Hp) : Prop := ∀ b ys, H b = some (.tup ys) → H' b = some (.tup ys)
theorem TK.of_same {H H' : Hp} (s : Same H H') : TK H H' := fun b _ e => s b _ e
theorem TK.of_kp {a : Addr} {n : Nat} {H H' : Hp} (k : Kp a H H') (h : Hd H a n) : TK H H' := fun b _ e => k b _ (hd_tup h e (by intro xs z; cases z)) e
theorem TK.trans {H H1 H2 : Hp} (x : TK H H1) (y : TK H1 H2) : TK H H2 := fun b ys e => y b ys (x b ys e)
theorem TK.at {H : Hp} {p : Addr} {xs : List V} {o : HO} (e : H p = some (.lst xs)) : TK H (upd H p o) := fun b ys g => by
  have nb : b ≠ p := fun z => by
    rw [z, e] at g
    cases g
  rw [upd_ne nb]
  exact g
/-- these places hold lists -/
def LL (L : List Addr) (H : Hp) : Prop := ∀ b ∈ L, ∃ xs, H b = some (.lst xs)
theorem LL.same {L : List Addr} {H H' : Hp} (h : LL L H) (s : Same H H') : LL L H' := fun b hb => by
  obtain ⟨xs, e⟩ := h b hb
  exact ⟨xs, s _ _ e⟩
theorem LL.kp {L : List Addr} {a : Addr} {n : Nat} {H H' : Hp} (h : LL L H) (k : Kp a H H') (g : Hd H' a n) : LL L H' := fun b hb => by
  by_cases e : b = a
  · obtain ⟨_, _, _, e2, _⟩ := g
    exact ⟨_, by rw [e]; exact e2⟩
  · obtain ⟨xs, e2⟩ := h b hb
    exact ⟨xs, k _ _ e e2⟩
theorem LL.at {L : List Addr} {H : Hp} {p : Addr} {ys : List V} (h : LL L H) : LL L (upd H p (.lst ys)) := fun b hb => by
  by_cases e : b = p
  · exact ⟨ys, by rw [e, upd_same]⟩
  · obtain ⟨xs, e2⟩ := h b hb
    exact ⟨xs, by rw [upd_ne e]; exact e2⟩
theorem LL.cons {L : List Addr} {H : Hp} {p : Addr} {ys : List V} (h : LL L H) (e : H p = some (.lst ys)) : LL (p :: L) H := fun b hb => by
  rcases List.mem_cons.mp hb with z | z
  · exact ⟨ys, by rw [z]; exact e⟩
  · exact h b z
theorem LL.out {L : List Addr} {H : Hp} {t : Addr} {xs : List V} (h : LL L H) (e : H t = some (.tup xs)) : remL L H t = some (.tup xs) := by
  rw [remL_ne]
  · exact e
  · intro z
    obtain ⟨ys, e2⟩ := h t z
    rw [e] at e2
    cases e2
theorem LL.trk {L : List Addr} {H : Hp} (h : LL L H) : Trk L H := fun b hb z => by
  obtain ⟨xs, e⟩ := h b hb
  rw [e] at z
  cases z
/-- how a choice with parts is written -/
inductive Wd (b : Addr) (l k : Nat) : List V → Prop
  | kth : Wd b l k [.str "kth", .int k, .ref b]
  | top : k = 1 → Wd b l k [.str "greatest", .ref b]
  | low : k = l → Wd b l k [.str "least", .ref b]
/-- a choice without parts -/
def Leaf (ws : List Str) (c : Nat) (H : Hp) (v : V) : Prop := ∃ t, v = V.ref t ∧ (H t = some (.tup [.str "none"]) ∨ (∃ z ∈ ws, H t = some (.tup [.str "cell", .str z])) ∨ ∃ i : Nat, i < c ∧ H t = some (.tup [.str "came", .int (i : Int)]))
theorem Leaf.tk {ws : List Str} {c : Nat} {H H' : Hp} {v : V} (h : Leaf ws c H v) (s : TK H H') : Leaf ws c H' v := by
  obtain ⟨t, e, g⟩ := h
  refine ⟨t, e, ?_⟩
  rcases g with g | ⟨z, hz, g⟩ | ⟨i, hi, g⟩
  · exact .inl (s _ _ g)
  · exact .inr (.inl ⟨z, hz, s _ _ g⟩)
  · exact .inr (.inr ⟨i, hi, s _ _ g⟩)
/-- a choice of these names, of so many that come -/
inductive Cho (H : Hp) (ws : List Str) (c : Nat) : Nat → V → Prop
  | leaf {n : Nat} {v : V} : Leaf ws c H v → Cho H ws c n v
  | node {n : Nat} {a b : Addr} {us row : List V} {k : Nat} : H a = some (.tup row) → Wd b us.length k row → H b = some (.tup us) → (∀ u ∈ us, Cho H ws c n u) → 1 ≤ k → k ≤ us.length → us.length ≤ 5 → Cho H ws c (n + 1) (.ref a)
theorem Cho.tk {H H' : Hp} {ws : List Str} {c : Nat} (s : TK H H') : ∀ {n : Nat} {v : V}, Cho H ws c n v → Cho H' ws c n v := by
  intro n v h
  induction h with
  | leaf e => exact .leaf (e.tk s)
  | node e wd eb _ h1 h2 h3 ih => exact .node (s _ _ e) wd (s _ _ eb) (fun u hu => ih u hu) h1 h2 h3
theorem bd_word {n : Nat} {z : Str} (h : z = "none" ∨ z = "cell" ∨ z = "came" ∨ z = "kth" ∨ z = "greatest" ∨ z = "least") : Bd n 8 (.str z) := by
  have k : (∀ x ∈ z.cps.toList, 97 ≤ x ∧ x ≤ 122) ∧ z.length ≤ 8 := by
    rcases h with e | e | e | e | e | e <;> subst e <;> exact ⟨by decide +kernel, by decide +kernel⟩
  exact bd_str k.1 k.2
theorem ba_one {n m t : Nat} {d : PyData} (h : Bd n m d) (ht : m + 1 ≤ t) : BA n t [d] := (BA.one h).mono (Nat.le_refl _) ht
theorem Leaf.d {ws : List Str} {c : Nat} {H : Hp} {v : V} {L : List Addr} (h : Leaf ws c H v) (hL : LL L H) (hw : ∀ z ∈ ws, Lt z ∧ z.length ≤ 8) (hc : c ≤ 10) : ∃ d, D true (remL L H) v d ∧ Bd 1 20 d := by
  obtain ⟨t, e, g⟩ := h
  subst e
  rcases g with g | ⟨z, hz, g⟩ | ⟨i, hi, g⟩
  · exact ⟨_, .tup (hL.out g) (.cons (.str _) .nil), (ba_one (t := 20) (bd_word (n := 0) (.inl rfl)) (by decide)).tuple⟩
  · refine ⟨_, .tup (hL.out g) (.cons (.str _) (.cons (.str _) .nil)), BA.tuple (n := 0) (BA.mono (BA.append (ba_one (t := 9) (bd_word (.inr (.inl rfl))) (by decide)) (ba_one (t := 9) (bd_str (hw z hz).1 (hw z hz).2) (by decide))) (Nat.le_refl _) (by decide))⟩
  · refine ⟨_, .tup (hL.out g) (.cons (.str _) (.cons (.int _) .nil)), BA.tuple (n := 0) (BA.mono (BA.append (ba_one (t := 9) (bd_word (.inr (.inr (.inl rfl)))) (by decide)) (ba_one (t := 6) (Bd.small (i := (i : Int)) (by omega)) (by decide))) (Nat.le_refl _) (by decide))⟩
/-- one more leaf -/
theorem leaf_step {ws : List Str} {c : Nat} {H H2 : Hp} {D1 p : Addr} {acc row : List V} {j : Nat} (n1 : H D1 = none) (s2 : Same H H2) (ea : H2 D1 = some (.lst acc)) (la : acc.length = j) (hj : j ≤ 1000) (hacc : ∀ v ∈ acc, Leaf ws c H2 v) (np : H2 p = none)
    (hrow : (∃ z ∈ ws, row = [.str "cell", .str z]) ∨ ∃ i : Nat, i < c ∧ row = [.str "came", .int (i : Int)]) :
    ∃ acc, (upd H2 p (.tup row)) D1 = some (.lst acc) ∧ acc.length < sizeLine ∧ Same H (upd (upd H2 p (.tup row)) D1 (.lst (acc ++ [.ref p]))) ∧
      ∃ acc', (upd (upd H2 p (.tup row)) D1 (.lst (acc ++ [.ref p]))) D1 = some (.lst acc') ∧ acc'.length = j + 1 ∧ ∀ v ∈ acc', Leaf ws c (upd (upd H2 p (.tup row)) D1 (.lst (acc ++ [.ref p]))) v := by
  have s3 := same_new (o := .tup row) np
  have e3 := s3 _ _ ea
  have tk : TK (upd H2 p (.tup row)) (upd (upd H2 p (.tup row)) D1 (.lst (acc ++ [.ref p]))) := TK.at e3
  refine ⟨acc, e3, Nat.lt_of_le_of_lt (show acc.length ≤ 1000 by omega) (by decide), ?_, _, upd_same, by rw [List.length_append, la]; rfl, ?_⟩
  · intro b o e
    have nb : b ≠ D1 := fun z => by
      rw [z, n1] at e
      cases e
    rw [upd_ne nb]
    exact s3 _ _ (s2 _ _ e)
  · intro v hv
    rcases List.mem_append.mp hv with y | y
    · exact ((hacc v y).tk (TK.of_same s3)).tk tk
    · rw [List.mem_singleton.mp y]
      refine Leaf.tk ⟨p, rfl, .inr ?_⟩ tk
      rcases hrow with ⟨z, hz, e⟩ | ⟨i, hi, e⟩
      · exact .inl ⟨z, hz, by rw [e, upd_same]⟩
      · exact .inr ⟨i, hi, by rw [e, upd_same]⟩
end

end Z

namespace Z
open PySem PySem.Spec PyProof.Rows L2 Lw

section
variable {P : Program} {w : World} {K : PySem.W.Frag} {mg : Str → Option Value} {base : Heap}
/-- draws, weight of a choice n deep -/
def pb : Nat → Nat
  | 0 => 2
  | n + 1 => 4 + 3 * pb n
def pw : Nat → Nat
  | 0 => 20
  | n + 1 => 3 * pw n + 40
theorem pb_ge : ∀ n, 2 ≤ pb n
  | 0 => Nat.le_refl 2
  | n + 1 => by
    have := pb_ge n
    show 2 ≤ 4 + 3 * pb n
    omega
theorem pw_ge : ∀ n, 20 ≤ pw n
  | 0 => Nat.le_refl 20
  | n + 1 => by
    have := pw_ge n
    show 20 ≤ 3 * pw n + 40
    omega
def sp_pick (n : Nat) : Sp := fun vs H Q _ => ∃ (a nm : Addr) (c m : Nat) (ws : List Str) (L : List Addr), vs = [.ref a, .ref nm, .int c, .int n] ∧ Hd H a m ∧ m + pb n ≤ 800000 ∧ H nm = some (.tup (ws.map V.str)) ∧ ws.length ≤ 4 ∧ (∀ z ∈ ws, Lt z ∧ z.length ≤ 8) ∧ c ≤ 2 ∧ a ∈ L ∧ LL L H ∧
  ∀ (v : V) (d : PyData) H', D true (remL L H') v d → Bd (1 + 2 * n) (pw n) d → Cho H' ws c n v → Hd H' a (m + pb n) → Kp a H H' → Q v H'
theorem ok_pick (T : Txt K mg) {k : Nat} : ∀ n : Nat, FnOk P w K mg base CX0 (k + 3 + n) T.f__law_pick T.fd__law_pick ["_law_hand_here", "_law_rooms", "_law_count", "_law_left"] (sp_pick n) := by
  intro n
  induction n with
  | zero =>
    have G__law_pick := FnOk.never (P := P) (w := w) (K := K) (mg := mg) (base := base) (k := k + 2 + 0) (f := T.f__law_pick) (fd := T.fd__law_pick) (ps := ["_law_hand_here", "_law_rooms", "_law_count", "_law_left"])
    have G__law_take := (ok_take (P := P) (w := w) (base := base) T (k := k)).mono (show k + 1 ≤ k + 2 + 0 by omega)
    have G__law_of := (ok_of (P := P) (w := w) (base := base) T (k := k)).mono (show k + 2 ≤ k + 2 + 0 by omega)
    refine FnOk.mono (j := k + 2 + 0 + 1) ?_ (by omega)
    refine T.F__law_pick.ok (k := k + 2 + 0) sc__law_pick (fun vs H Q E h => ?_) (fun cdv A outer s H vs Q E hr h => ?_)
    · obtain ⟨a, nm, c, m, ws, L, rfl, _⟩ := h
      rfl
    obtain ⟨a, nm, c, m, ws, L, rfl, ha, hm, hnm, hws, hw, hc, hLa, hL, q⟩ := h
    refine ⟨_, (pss_cons (ps_set (i := 4) sc__law_pick.nd rfl (.inl rfl) (pe_op op_cat (pe_lc (own := [("_law_name", 7)]) (g := gName 7) (tt := tYes) rfl sc__law_pick.nd (pi_tup (pv 1)) (blkOk_by (N := ["_law_hand_here", "_law_rooms", "_law_count", "_law_left", "_law_some", "_law_way", "_law_parts", "_law_name", "_law_number_here", "_law_turn"]) (sc := defScope s__law_pick) (by decide +kernel)) (fun _ _ _ _ _ => (pg_name (i := 7) sc__law_pick.nd rfl (Or.inl rfl))) (fun _ _ _ _ _ => pts_nil) (fun _ _ _ _ _ => (pe_tup (pa_cons pe_str (pa_cons (pv 7) pa_nil))))) (pe_lc (own := [("_law_number_here", 8)]) (g := gName 8) (tt := tYes) rfl sc__law_pick.nd (pi_range1 (by rfl) T.m_range (pa_cons (pv 2) pa_nil)) (blkOk_by (N := ["_law_hand_here", "_law_rooms", "_law_count", "_law_left", "_law_some", "_law_way", "_law_parts", "_law_name", "_law_number_here", "_law_turn"]) (sc := defScope s__law_pick) (by decide +kernel)) (fun _ _ _ _ _ => (pg_name (i := 8) sc__law_pick.nd rfl (Or.inl rfl))) (fun _ _ _ _ _ => pts_nil) (fun _ _ _ _ _ => (pe_tup (pa_cons pe_str (pa_cons (pv 8) pa_nil)))))))
      (pss_cons (ps_set (i := 5) sc__law_pick.nd rfl (.inl rfl) (pe_ifExp (pt_cmpR op_gt (pv 3) pe_int (nomark _)) (pe_call G__law_take hr (by rfl) T.g__law_take T.k__law_take T.b__law_take .nil pass0 (pa_cons (pv 0) (pa_cons pe_int pa_nil))) pe_int))
      (pss_cons (ps_if (pt_cmpR op_lt (pv 5) pe_int (nomark _)) (pss_one (ps_ret (pe_call G__law_of hr (by rfl) T.g__law_of T.k__law_of T.b__law_of .nil pass0 (pa_cons (pv 0) (pa_cons (pe_op op_cat (pe_op op_cat (pv 4) (pv 4)) (pe_lst (pa_cons (pe_tup (pa_cons pe_str pa_nil)) pa_nil))) pa_nil))))) pss_nil)
      (pss_cons (ps_set (i := 6) sc__law_pick.nd rfl (.inl rfl) (pe_callTy call_tuple_of (by rfl) T.m_tuple (by decide +kernel) (pa_cons (pe_lc (own := [("_law_turn", 9)]) (g := gName 9) (tt := tYes) rfl sc__law_pick.nd (pi_range1 (by rfl) T.m_range (pa_cons (pe_op op_add pe_int (pe_call G__law_take hr (by rfl) T.g__law_take T.k__law_take T.b__law_take .nil pass0 (pa_cons (pv 0) (pa_cons pe_int pa_nil)))) pa_nil)) (blkOk_by (N := ["_law_hand_here", "_law_rooms", "_law_count", "_law_left", "_law_some", "_law_way", "_law_parts", "_law_name", "_law_number_here", "_law_turn"]) (sc := defScope s__law_pick) (by decide +kernel)) (fun _ _ _ _ _ => (pg_name (i := 9) sc__law_pick.nd rfl (Or.inl rfl))) (fun _ _ _ _ _ => pts_nil) (fun _ _ _ _ _ => (pe_call G__law_pick hr (by rfl) T.g__law_pick T.k__law_pick T.b__law_pick .nil pass0 (pa_cons (pv 0) (pa_cons (pv 1) (pa_cons (pv 2) (pa_cons (pe_op op_sub (pv 3) pe_int) pa_nil))))))) pa_nil)))
      (pss_cons (ps_if (pt_cmpR op_eq (pv 5) pe_int (nomark _)) (pss_one (ps_ret (pe_tup (pa_cons pe_str (pa_cons (pe_op op_add pe_int (pe_call G__law_take hr (by rfl) T.g__law_take T.k__law_take T.b__law_take .nil pass0 (pa_cons (pv 0) (pa_cons (pe_callB call_len_seq (by rfl) T.m_len (by decide +kernel) (pa_cons (pv 6) pa_nil)) pa_nil)))) (pa_cons (pv 6) pa_nil)))))) pss_nil)
      (pss_one (ps_ret (pe_tup (pa_cons (pe_ix ix_list (pe_lst (pa_cons pe_str (pa_cons pe_str pa_nil))) (pe_op op_mod (pv 5) pe_int) (fun _ _ => rfl)) (pa_cons (pv 6) pa_nil)))))))))), ?_⟩
    -- the leaves
    refine ⟨_, rfl, nm, rfl, ⟨_, SqT.of hnm⟩, fun D1 n1 => ?_⟩
    refine Lw.lc_tup (xs := ws.map V.str) (fun j H' => Same H H' ∧ ∃ acc, H' D1 = some (.lst acc) ∧ acc.length = j ∧ ∀ v ∈ acc, Leaf ws c H' v) ⟨same_new n1, [], upd_same, rfl, by intro v hv; cases hv⟩ ?_ ?_ ?_
    · rintro j H' _ ⟨s1, _⟩
      exact SqT.of (s1 _ _ hnm)
    · rintro j x H2 hx ⟨s2, acc, ea, la, hacc⟩
      have hj := (List.getElem?_eq_some_iff.mp hx).1
      rw [List.length_map] at hj
      obtain ⟨z, hz, rfl⟩ := List.mem_map.mp (List.mem_of_getElem? hx)
      refine ⟨rfl, ?_⟩
      dsimp only [tYes]
      refine iteT ?_
      refine ⟨_, rfl, (by show 2 ≤ sizeLine; decide), fun p np => ?_⟩
      exact leaf_step n1 s2 ea la (by omega) hacc np (.inl ⟨z, hz, rfl⟩)
    rintro H1 ⟨s1, acc1, ea1, la1, hacc1⟩
    refine ⟨_, rfl, _, rfl, by omega, by omega, fun D2 n2 => ?_⟩
    refine Lw.lc_range (lo := 0) (n := ((c : Int)).toNat) (fun j H' => Same H1 H' ∧ ∃ acc, H' D2 = some (.lst acc) ∧ acc.length = j ∧ ∀ v ∈ acc, Leaf ws c H' v) ⟨same_new n2, [], upd_same, rfl, by intro v hv; cases hv⟩ ?_ ?_
    · rintro j H2 hj ⟨s2, acc, ea, la, hacc⟩
      refine ⟨rfl, ?_⟩
      dsimp only [tYes]
      refine iteT ?_
      refine ⟨_, rfl, (by show 2 ≤ sizeLine; decide), fun p np => ?_⟩
      exact leaf_step n2 s2 ea la (by omega) hacc np (.inr ⟨j, by omega, by rw [Int.zero_add]⟩)
    rintro H2 ⟨s2, acc2, ea2, la2, hacc2⟩
    rw [List.length_map] at la1
    refine ⟨D1, D2, acc1, acc2, rfl, rfl, s2 _ _ ea1, ea2, Nat.le_trans (show acc1.length + acc2.length ≤ 1000 by omega) (by decide), fun sm nsm => ?_⟩
    have nsa : sm ≠ a := ((ha.same s1).same s2).new nsm
    have s3 := same_new (o := .lst (acc1 ++ acc2)) nsm
    have hls : ∀ v ∈ acc1 ++ acc2, Leaf ws c (upd H2 sm (.lst (acc1 ++ acc2))) v := fun v hv => by
      rcases List.mem_append.mp hv with y | y
      · exact ((hacc1 v y).tk (TK.of_same s2)).tk (TK.of_same s3)
      · exact (hacc2 v y).tk (TK.of_same s3)
    have esm : (upd H2 sm (.lst (acc1 ++ acc2))) sm = some (.lst (acc1 ++ acc2)) := upd_same
    have s03 := s1.trans (s2.trans s3)
    have lls : (acc1 ++ acc2).length ≤ 200 := by
      rw [List.length_append]
      omega
    generalize acc1 ++ acc2 = ls at hls esm lls s3 s03 ⊢
    generalize upd H2 sm (.lst ls) = H3 at hls esm s3 s03 ⊢
    clear s3
    refine ⟨_, rfl, _, _, rfl, rfl, _, rfl, ite2 (fun c => absurd c (by decide)) (fun _ => ?_)⟩
    refine ⟨_, rfl, _, _, rfl, rfl, _, rfl, ite2 (fun _ => ?_) (fun c => absurd c (by decide))⟩
    have ex := esm
    have lx := hls
    obtain ⟨mx, hmx⟩ : ∃ mx, mx = m := ⟨_, rfl⟩
    have gx : Hd H3 a mx := by rw [hmx]; exact ha.same s03
    have kx := Kp.of_same (a := a) s03
    refine ⟨_, rfl, _, rfl, _, rfl, sm, sm, ls, ls, rfl, rfl, ex, ex, Nat.le_trans (show ls.length + ls.length ≤ 1000 by omega) (by decide), fun q1 m1 => ?_⟩
    have t1 := same_new (o := .lst (ls ++ ls)) m1
    refine ⟨(by show 1 ≤ sizeLine; decide), fun q2 m2 => ?_⟩
    have t2 := same_new (o := .tup [.str "none"]) m2
    refine ⟨(by show 1 ≤ sizeLine; decide), fun q3 m3 => ?_⟩
    have t3 := same_new (o := .lst [.ref q2]) m3
    refine ⟨q1, q3, _, _, rfl, rfl, t3 _ _ (t2 _ _ upd_same), upd_same, Nat.le_trans (show (ls ++ ls).length + 1 ≤ 1000 by rw [List.length_append]; omega) (by decide), fun q4 m4 => ?_⟩
    have t4 := same_new (o := .lst ((ls ++ ls) ++ [.ref q2])) m4
    have tA := t1.trans (t2.trans (t3.trans t4))
    refine ⟨a, q4, mx, _, rfl, gx.same tA, by omega, upd_same, (((gx.same t1).same t2).same t3).new m4, (by rw [List.length_append, List.length_singleton]; omega), (by rw [List.length_append, List.length_append, List.length_singleton]; omega), fun v Hb hv gb kb => ?_⟩
    have kk := kx.trans ((Kp.of_same tA).trans kb)
    have tkb := TK.of_kp kb (gx.same tA)
    have lf : Leaf ws c Hb v := by
      rcases List.mem_append.mp hv with y | y
      · have y' : v ∈ ls := by rcases List.mem_append.mp y with z | z <;> exact z
        exact ((lx v y').tk (TK.of_same tA)).tk tkb
      · rw [List.mem_singleton.mp y]
        exact ⟨q2, rfl, .inl (tkb _ _ ((t3.trans t4) _ _ upd_same))⟩
    skip
    obtain ⟨d, hd, bd⟩ := lf.d (hL.kp kk gb) hw (by omega)
    exact q v d Hb hd (bd.mono (by omega) (pw_ge _)) (.leaf lf) (gb.mono (by have := pb_ge 0; omega)) kk
  | succ n ih =>
    have G__law_pick : FnOk P w K mg base CX0 (k + 2 + (n + 1)) T.f__law_pick T.fd__law_pick ["_law_hand_here", "_law_rooms", "_law_count", "_law_left"] (sp_pick n) := ih.mono (by omega)
    have G__law_take := (ok_take (P := P) (w := w) (base := base) T (k := k)).mono (show k + 1 ≤ k + 2 + (n + 1) by omega)
    have G__law_of := (ok_of (P := P) (w := w) (base := base) T (k := k)).mono (show k + 2 ≤ k + 2 + (n + 1) by omega)
    refine FnOk.mono (j := k + 2 + (n + 1) + 1) ?_ (by omega)
    refine T.F__law_pick.ok (k := k + 2 + (n + 1)) sc__law_pick (fun vs H Q E h => ?_) (fun cdv A outer s H vs Q E hr h => ?_)
    · obtain ⟨a, nm, c, m, ws, L, rfl, _⟩ := h
      rfl
    obtain ⟨a, nm, c, m, ws, L, rfl, ha, hm, hnm, hws, hw, hc, hLa, hL, q⟩ := h
    refine ⟨_, (pss_cons (ps_set (i := 4) sc__law_pick.nd rfl (.inl rfl) (pe_op op_cat (pe_lc (own := [("_law_name", 7)]) (g := gName 7) (tt := tYes) rfl sc__law_pick.nd (pi_tup (pv 1)) (blkOk_by (N := ["_law_hand_here", "_law_rooms", "_law_count", "_law_left", "_law_some", "_law_way", "_law_parts", "_law_name", "_law_number_here", "_law_turn"]) (sc := defScope s__law_pick) (by decide +kernel)) (fun _ _ _ _ _ => (pg_name (i := 7) sc__law_pick.nd rfl (Or.inl rfl))) (fun _ _ _ _ _ => pts_nil) (fun _ _ _ _ _ => (pe_tup (pa_cons pe_str (pa_cons (pv 7) pa_nil))))) (pe_lc (own := [("_law_number_here", 8)]) (g := gName 8) (tt := tYes) rfl sc__law_pick.nd (pi_range1 (by rfl) T.m_range (pa_cons (pv 2) pa_nil)) (blkOk_by (N := ["_law_hand_here", "_law_rooms", "_law_count", "_law_left", "_law_some", "_law_way", "_law_parts", "_law_name", "_law_number_here", "_law_turn"]) (sc := defScope s__law_pick) (by decide +kernel)) (fun _ _ _ _ _ => (pg_name (i := 8) sc__law_pick.nd rfl (Or.inl rfl))) (fun _ _ _ _ _ => pts_nil) (fun _ _ _ _ _ => (pe_tup (pa_cons pe_str (pa_cons (pv 8) pa_nil)))))))
      (pss_cons (ps_set (i := 5) sc__law_pick.nd rfl (.inl rfl) (pe_ifExp (pt_cmpR op_gt (pv 3) pe_int (nomark _)) (pe_call G__law_take hr (by rfl) T.g__law_take T.k__law_take T.b__law_take .nil pass0 (pa_cons (pv 0) (pa_cons pe_int pa_nil))) pe_int))
      (pss_cons (ps_if (pt_cmpR op_lt (pv 5) pe_int (nomark _)) (pss_one (ps_ret (pe_call G__law_of hr (by rfl) T.g__law_of T.k__law_of T.b__law_of .nil pass0 (pa_cons (pv 0) (pa_cons (pe_op op_cat (pe_op op_cat (pv 4) (pv 4)) (pe_lst (pa_cons (pe_tup (pa_cons pe_str pa_nil)) pa_nil))) pa_nil))))) pss_nil)
      (pss_cons (ps_set (i := 6) sc__law_pick.nd rfl (.inl rfl) (pe_callTy call_tuple_of (by rfl) T.m_tuple (by decide +kernel) (pa_cons (pe_lc (own := [("_law_turn", 9)]) (g := gName 9) (tt := tYes) rfl sc__law_pick.nd (pi_range1 (by rfl) T.m_range (pa_cons (pe_op op_add pe_int (pe_call G__law_take hr (by rfl) T.g__law_take T.k__law_take T.b__law_take .nil pass0 (pa_cons (pv 0) (pa_cons pe_int pa_nil)))) pa_nil)) (blkOk_by (N := ["_law_hand_here", "_law_rooms", "_law_count", "_law_left", "_law_some", "_law_way", "_law_parts", "_law_name", "_law_number_here", "_law_turn"]) (sc := defScope s__law_pick) (by decide +kernel)) (fun _ _ _ _ _ => (pg_name (i := 9) sc__law_pick.nd rfl (Or.inl rfl))) (fun _ _ _ _ _ => pts_nil) (fun _ _ _ _ _ => (pe_call G__law_pick hr (by rfl) T.g__law_pick T.k__law_pick T.b__law_pick .nil pass0 (pa_cons (pv 0) (pa_cons (pv 1) (pa_cons (pv 2) (pa_cons (pe_op op_sub (pv 3) pe_int) pa_nil))))))) pa_nil)))
      (pss_cons (ps_if (pt_cmpR op_eq (pv 5) pe_int (nomark _)) (pss_one (ps_ret (pe_tup (pa_cons pe_str (pa_cons (pe_op op_add pe_int (pe_call G__law_take hr (by rfl) T.g__law_take T.k__law_take T.b__law_take .nil pass0 (pa_cons (pv 0) (pa_cons (pe_callB call_len_seq (by rfl) T.m_len (by decide +kernel) (pa_cons (pv 6) pa_nil)) pa_nil)))) (pa_cons (pv 6) pa_nil)))))) pss_nil)
      (pss_one (ps_ret (pe_tup (pa_cons (pe_ix ix_list (pe_lst (pa_cons pe_str (pa_cons pe_str pa_nil))) (pe_op op_mod (pv 5) pe_int) (fun _ _ => rfl)) (pa_cons (pv 6) pa_nil)))))))))), ?_⟩
    -- the leaves
    refine ⟨_, rfl, nm, rfl, ⟨_, SqT.of hnm⟩, fun D1 n1 => ?_⟩
    refine Lw.lc_tup (xs := ws.map V.str) (fun j H' => Same H H' ∧ ∃ acc, H' D1 = some (.lst acc) ∧ acc.length = j ∧ ∀ v ∈ acc, Leaf ws c H' v) ⟨same_new n1, [], upd_same, rfl, by intro v hv; cases hv⟩ ?_ ?_ ?_
    · rintro j H' _ ⟨s1, _⟩
      exact SqT.of (s1 _ _ hnm)
    · rintro j x H2 hx ⟨s2, acc, ea, la, hacc⟩
      have hj := (List.getElem?_eq_some_iff.mp hx).1
      rw [List.length_map] at hj
      obtain ⟨z, hz, rfl⟩ := List.mem_map.mp (List.mem_of_getElem? hx)
      refine ⟨rfl, ?_⟩
      dsimp only [tYes]
      refine iteT ?_
      refine ⟨_, rfl, (by show 2 ≤ sizeLine; decide), fun p np => ?_⟩
      exact leaf_step n1 s2 ea la (by omega) hacc np (.inl ⟨z, hz, rfl⟩)
    rintro H1 ⟨s1, acc1, ea1, la1, hacc1⟩
    refine ⟨_, rfl, _, rfl, by omega, by omega, fun D2 n2 => ?_⟩
    refine Lw.lc_range (lo := 0) (n := ((c : Int)).toNat) (fun j H' => Same H1 H' ∧ ∃ acc, H' D2 = some (.lst acc) ∧ acc.length = j ∧ ∀ v ∈ acc, Leaf ws c H' v) ⟨same_new n2, [], upd_same, rfl, by intro v hv; cases hv⟩ ?_ ?_
    · rintro j H2 hj ⟨s2, acc, ea, la, hacc⟩
      refine ⟨rfl, ?_⟩
      dsimp only [tYes]
      refine iteT ?_
      refine ⟨_, rfl, (by show 2 ≤ sizeLine; decide), fun p np => ?_⟩
      exact leaf_step n2 s2 ea la (by omega) hacc np (.inr ⟨j, by omega, by rw [Int.zero_add]⟩)
    rintro H2 ⟨s2, acc2, ea2, la2, hacc2⟩
    rw [List.length_map] at la1
    refine ⟨D1, D2, acc1, acc2, rfl, rfl, s2 _ _ ea1, ea2, Nat.le_trans (show acc1.length + acc2.length ≤ 1000 by omega) (by decide), fun sm nsm => ?_⟩
    have nsa : sm ≠ a := ((ha.same s1).same s2).new nsm
    have s3 := same_new (o := .lst (acc1 ++ acc2)) nsm
    have hls : ∀ v ∈ acc1 ++ acc2, Leaf ws c (upd H2 sm (.lst (acc1 ++ acc2))) v := fun v hv => by
      rcases List.mem_append.mp hv with y | y
      · exact ((hacc1 v y).tk (TK.of_same s2)).tk (TK.of_same s3)
      · exact (hacc2 v y).tk (TK.of_same s3)
    have esm : (upd H2 sm (.lst (acc1 ++ acc2))) sm = some (.lst (acc1 ++ acc2)) := upd_same
    have s03 := s1.trans (s2.trans s3)
    have lls : (acc1 ++ acc2).length ≤ 200 := by
      rw [List.length_append]
      omega
    generalize acc1 ++ acc2 = ls at hls esm lls s3 s03 ⊢
    generalize upd H2 sm (.lst ls) = H3 at hls esm s3 s03 ⊢
    clear s3
    have pb1 : pb (n + 1) = 4 + 3 * pb n := rfl
    have pw1 : pw (n + 1) = 3 * pw n + 40 := rfl
    have ha3 := ha.same s03
    refine ⟨_, rfl, _, _, rfl, rfl, _, rfl, ite2 (fun _ => ?_) (fun c => absurd (decide_eq_true (by omega : (0 : Int) < ((n + 1 : Nat) : Int))) c)⟩
    refine ⟨_, rfl, a, m, 7, rfl, ha3, by omega, by decide, by decide, fun way H4 hway g4 k4 => ?_⟩
    have k04 := (Kp.of_same s03).trans k4
    refine ⟨_, rfl, _, _, rfl, rfl, _, rfl, ite2 (fun _ => ?_) (fun _ => ?_)⟩
    · have ex := k4 _ _ nsa esm
      have lx : ∀ v ∈ ls, Leaf ws c H4 v := fun v hv => (hls v hv).tk (TK.of_kp k4 ha3)
      obtain ⟨mx, hmx⟩ : ∃ mx, mx = m + 1 := ⟨_, rfl⟩
      have gx : Hd H4 a mx := by rw [hmx]; exact g4
      have kx := k04
      refine ⟨_, rfl, _, rfl, _, rfl, sm, sm, ls, ls, rfl, rfl, ex, ex, Nat.le_trans (show ls.length + ls.length ≤ 1000 by omega) (by decide), fun q1 m1 => ?_⟩
      have t1 := same_new (o := .lst (ls ++ ls)) m1
      refine ⟨(by show 1 ≤ sizeLine; decide), fun q2 m2 => ?_⟩
      have t2 := same_new (o := .tup [.str "none"]) m2
      refine ⟨(by show 1 ≤ sizeLine; decide), fun q3 m3 => ?_⟩
      have t3 := same_new (o := .lst [.ref q2]) m3
      refine ⟨q1, q3, _, _, rfl, rfl, t3 _ _ (t2 _ _ upd_same), upd_same, Nat.le_trans (show (ls ++ ls).length + 1 ≤ 1000 by rw [List.length_append]; omega) (by decide), fun q4 m4 => ?_⟩
      have t4 := same_new (o := .lst ((ls ++ ls) ++ [.ref q2])) m4
      have tA := t1.trans (t2.trans (t3.trans t4))
      refine ⟨a, q4, mx, _, rfl, gx.same tA, by omega, upd_same, (((gx.same t1).same t2).same t3).new m4, (by rw [List.length_append, List.length_singleton]; omega), (by rw [List.length_append, List.length_append, List.length_singleton]; omega), fun v Hb hv gb kb => ?_⟩
      have kk := kx.trans ((Kp.of_same tA).trans kb)
      have tkb := TK.of_kp kb (gx.same tA)
      have lf : Leaf ws c Hb v := by
        rcases List.mem_append.mp hv with y | y
        · have y' : v ∈ ls := by rcases List.mem_append.mp y with z | z <;> exact z
          exact ((lx v y').tk (TK.of_same tA)).tk tkb
        · rw [List.mem_singleton.mp y]
          exact ⟨q2, rfl, .inl (tkb _ _ ((t3.trans t4) _ _ upd_same))⟩
      skip
      obtain ⟨d, hd, bd⟩ := lf.d (hL.kp kk gb) hw (by omega)
      exact q v d Hb hd (bd.mono (by omega) (pw_ge _)) (.leaf lf) (gb.mono (by have := pb_ge (n + 1); omega)) kk
    · refine ⟨_, rfl, a, m + 1, 3, rfl, g4, by omega, by decide, by decide, fun r5 H5 hr5 g5 k5 => ?_⟩
      refine ⟨_, _, rfl, rfl, _, rfl, by omega, by omega, fun D3 n3 => ?_⟩
      have k05 := k04.trans k5
      have nD : D3 ≠ a := g5.new n3
      have nma : nm ≠ a := hd_tup ha hnm (by intro xs z; cases z)
      refine Lw.lc_range (lo := 0) (n := ((1 : Int) + (r5 : Int)).toNat) (fun j H' => Hd H' a (m + 2 + pb n * j) ∧ Kp a H5 H' ∧ LL (D3 :: L) H' ∧ ∃ (acc : List V) (ds : List PyData), H' D3 = some (.lst acc) ∧ acc.length = j ∧ (∀ u ∈ acc, Cho H' ws c n u) ∧ DA true (remL (D3 :: L) H') acc ds ∧ ∀ d ∈ ds, Bd (1 + 2 * n) (pw n) d) ?_ ?_ ?_
      · exact ⟨(g5.same (same_new n3)).mono (by omega), Kp.of_same (same_new n3), ((hL.kp k05 g5).same (same_new n3)).cons upd_same, [], [], upd_same, rfl, (by intro u h; cases h), .nil, by intro d hd; cases hd⟩
      · rintro j H6 hj ⟨g6, k6, hL6, acc, ds, ea, la, hp, hda, hbd⟩
        have hj2 : j ≤ 2 := by omega
        have mul := Nat.mul_le_mul_left (pb n) hj2
        have k06 := k05.trans k6
        refine ⟨rfl, ?_⟩
        dsimp only [tYes]
        refine iteT ?_
        refine ⟨_, rfl, _, rfl, _, rfl, _, rfl, _, _, rfl, rfl, a, nm, c, _, ws, D3 :: L, congrArg (fun z => [V.ref a, V.ref nm, V.int c, V.int z]) (by omega : ((n + 1 : Nat) : Int) - 1 = (n : Int)), g6, by omega, k06 _ _ nma hnm, hws, hw, hc, List.mem_cons_of_mem _ hLa, hL6, fun v d H7 hd bd hpk g7 k7 => ?_⟩
        have e7 := k7 _ _ nD ea
        have tk6 := TK.of_kp k7 g6
        have tk7 : TK H7 (upd H7 D3 (.lst (acc ++ [v]))) := TK.at e7
        have up : Same (remL (D3 :: L) H7) (remL (D3 :: L) (upd H7 D3 (.lst (acc ++ [v])))) := remL_in List.mem_cons_self
        refine ⟨acc, e7, Nat.lt_of_le_of_lt (show acc.length ≤ 1000 by omega) (by decide), (g7.at nD).mono (by rw [Nat.mul_succ]; omega), (k6.trans k7).free n3, (hL6.kp k7 g7).at, acc ++ [v], ds ++ [d], upd_same, by rw [List.length_append, la]; rfl, ?_, ((hda.same (k7.remL (List.mem_cons_of_mem _ hLa))).same up).append (.cons (hd.same up) .nil), ?_⟩
        · intro u hu
          rcases List.mem_append.mp hu with y | y
          · exact ((hp u y).tk tk6).tk tk7
          · rw [List.mem_singleton.mp y]
            exact hpk.tk tk7
        · intro e he
          rcases List.mem_append.mp he with y | y
          · exact hbd e y
          · rw [List.mem_singleton.mp y]
            exact bd
      · rintro H6 ⟨g6, k6, hL6, acc, ds, ea, la, hp, hda, hbd⟩
        have la' : acc.length = r5 + 1 := by omega
        have mul := Nat.mul_le_mul_left (pb n) (show ((1 : Int) + (r5 : Int)).toNat ≤ 3 by omega)
        have ldas := hda.length
        refine ⟨D3, acc, rfl, .inl ⟨SqL.of ea, fun pt npt => ?_⟩⟩
        have t7 := same_new (o := .tup acc) npt
        have ept : (upd H6 pt (.tup acc)) pt = some (.tup acc) := upd_same
        have picks : ∀ u ∈ acc, Cho (upd H6 pt (.tup acc)) ws c n u := fun u hu => (hp u hu).tk (TK.of_same t7)
        have da7 := (hda.same remL_less).same (same_remL (as := L) t7)
        have g7 : Hd (upd H6 pt (.tup acc)) a (m + 2 + pb n * 3) := (g6.same t7).mono (by omega)
        have k07 := k05.trans (k6.trans (Kp.of_same t7))
        have bds : Bd (2 + 2 * n) (3 * (pw n + 1)) (.tuple ds) := (Bd.tuple (n := 1 + 2 * n) (m := pw n) hbd (Nat.mul_le_mul_right _ (show ds.length ≤ 3 by omega))).mono (by omega) (Nat.le_refl _)
        generalize upd H6 pt (.tup acc) = H7 at ept picks da7 g7 k07 ⊢
        clear t7 hp hda ea g6 k6 hL6 la
        have fin2 : ∀ (kq : Nat) (row : List V) (dro : List PyData) (H9 : Hp) (p : Addr), 1 ≤ kq → kq ≤ acc.length → Wd pt acc.length kq row → H9 p = some (.tup row) → TK H7 H9 → DA true (remL L H9) row dro → BA (2 + 2 * n) (pw (n + 1)) dro → Hd H9 a (m + pb (n + 1)) → Kp a H H9 → LL L H9 → Q (.ref p) H9 := by
          intro kq row dro H9 p h1 h2 wd ep tk da ba g9 k9 l9
          exact q (.ref p) (.tuple dro) H9 (.tup (l9.out ep) da) (ba.tuple.mono (by omega) (Nat.le_refl _)) (.node ep wd (tk _ _ ept) (fun u hu => (picks u hu).tk tk) h1 h2 (by omega)) g9 k9
        refine ⟨_, rfl, rfl, _, rfl, ite2 (fun _ => ?_) (fun _ => ?_)⟩
        · refine ⟨_, rfl, _, rfl, pt, acc, rfl, .inr (SqT.of ept), a, m + 2 + pb n * 3, acc.length, rfl, g7, by omega, by omega, by omega, fun r8 H8 hr8 g8 k8 => ?_⟩
          refine ⟨_, _, rfl, rfl, _, rfl, (by show 3 ≤ sizeLine; decide), fun p np => ?_⟩
          have t9 := same_new (o := .tup [.str "kth", .int (1 + (r8 : Int)), .ref pt]) np
          have tk : TK H7 (upd H8 p (.tup [.str "kth", .int (1 + (r8 : Int)), .ref pt])) := (TK.of_kp k8 g7).trans (TK.of_same t9)
          have k9 := k07.trans (k8.trans (Kp.of_same t9))
          have g9 := g8.same t9
          have l9 : LL L (upd H8 p (.tup [.str "kth", .int (1 + (r8 : Int)), .ref pt])) := hL.kp k9 g9
          have e1 : (1 : Int) + (r8 : Int) = ((r8 + 1 : Nat) : Int) := by omega
          refine fin2 (r8 + 1) [.str "kth", .int ((r8 + 1 : Nat) : Int), .ref pt] [.str "kth", .int ((r8 + 1 : Nat) : Int), .tuple ds] _ p (by omega) (by omega) .kth (upd_same.trans (congrArg (fun z => some (HO.tup [V.str "kth", V.int z, V.ref pt])) e1)) tk ?_ ?_ (g9.mono (by omega)) k9 l9
          · exact .cons (.str _) (.cons (.int _) (.cons (.tup (l9.out (tk _ _ ept)) ((da7.same (k8.remL hLa)).same (same_remL t9))) .nil))
          · exact (BA.append (ba_one (t := 9) (bd_word (.inr (.inr (.inr (.inl rfl))))) (by decide)) (BA.append (ba_one (t := 6) (Bd.small (by omega)) (by decide)) (ba_one bds (Nat.le_refl _)))).mono (Nat.le_refl _) (by omega)
        · refine ⟨(by show 2 ≤ sizeLine; decide), fun p8 n8 => ?_⟩
          have t8 := same_new (o := .lst [.str "greatest", .str "least"]) n8
          obtain ⟨zz, hat, hzz⟩ : ∃ zz, atI ([.str "greatest", .str "least"] : List V) ((way : Int) % 2) = some (V.str zz) ∧ (zz = "greatest" ∨ zz = "least") := by
            have : (way : Int) % 2 = 0 ∨ (way : Int) % 2 = 1 := by omega
            rcases this with e | e <;> rw [e]
            · exact ⟨_, rfl, .inl rfl⟩
            · exact ⟨_, rfl, .inr rfl⟩
          refine ⟨_, rfl, _, _, rfl, rfl, (by show (0 : Int) < 2; decide), p8, _, _, _, rfl, rfl, SqL.of upd_same, hat, _, rfl, (by show 2 ≤ sizeLine; decide), fun p np => ?_⟩
          have t9 := same_new (o := .tup [.str zz, .ref pt]) np
          have t89 := t8.trans t9
          have k9 := k07.trans (Kp.of_same t89)
          have g9 := g7.same t89
          have l9 := hL.kp k9 g9
          have tk := TK.of_same t89
          have da9 : DA true (remL L (upd (upd H7 p8 (.lst [.str "greatest", .str "least"])) p (.tup [.str zz, .ref pt]))) [.str zz, .ref pt] [.str zz, .tuple ds] := .cons (.str _) (.cons (.tup (l9.out (tk _ _ ept)) (da7.same (same_remL t89))) .nil)
          have ba9 : BA (2 + 2 * n) (pw (n + 1)) [.str zz, .tuple ds] := (BA.append (ba_one (t := 9) (bd_word (.inr (.inr (.inr (.inr hzz))))) (by decide)) (ba_one bds (Nat.le_refl _))).mono (Nat.le_refl _) (by omega)
          have gg : Hd (upd (upd H7 p8 (.lst [.str "greatest", .str "least"])) p (.tup [.str zz, .ref pt])) a (m + pb (n + 1)) := g9.mono (by omega)
          rcases hzz with e | e
          · subst e
            exact fin2 1 _ _ _ p (Nat.le_refl 1) (by omega) (.top rfl) upd_same tk da9 ba9 gg k9 l9
          · subst e
            exact fin2 acc.length _ _ _ p (by omega) (Nat.le_refl _) (.low rfl) upd_same tk da9 ba9 gg k9 l9
end

end Z

namespace Z
open PySem PySem.Spec PyProof.Rows L2 Lw

section
variable {P : Program} {w : World} {K : PySem.W.Frag} {mg : Str → Option Value} {base : Heap}
theorem made {H : Hp} {p : Addr} {o : HO} (h : H p = none) : (upd H p o) p = some o := upd_same
theorem later3 {a b : TS} {k : Ends} {σ : L2.St} {H : Hp} (P : L2.St → Hp → Prop) (h1 : (∀ σ H, P σ H → b k σ H) → tSeq a b k σ H) (h2 : ∀ σ H, P σ H → b k σ H) : tSeq a b k σ H := h1 h2
theorem hd_LL {H : Hp} {a : Addr} {n : Nat} (h : Hd H a n) : LL [a] H := fun b hb => by
  obtain ⟨_, _, _, e, _⟩ := h
  rw [List.mem_singleton.mp hb]
  exact ⟨_, e⟩
/-- a deed's name, and how many numbers it brings -/
def Act (H : Hp) (p : Addr) (x : Str × Nat) : Prop := H p = some (.tup [.str x.1, .int (x.2 : Int)])
def Acts (H : Hp) (ac : Addr) (xs : List (Str × Nat)) : Prop := ∃ ps : List Addr, H ac = some (.tup (ps.map V.ref)) ∧ Paired (Act H) ps xs
theorem Acts.tk {H H' : Hp} {ac : Addr} {xs : List (Str × Nat)} (h : Acts H ac xs) (s : TK H H') : Acts H' ac xs := by
  obtain ⟨ps, e, p⟩ := h
  exact ⟨ps, s _ _ e, L2.Paired.mapP p fun _ _ e => s _ _ e⟩
def OptC (H : Hp) (ws : List Str) (c : Nat) (v : V) : Prop := v = .non ∨ Cho H ws c 2 v
theorem OptC.tk {H H' : Hp} {ws : List Str} {c : Nat} {v : V} (h : OptC H ws c v) (s : TK H H') : OptC H' ws c v := h.imp id fun x => x.tk s
def RuleP (H : Hp) (ws : List Str) (nm c : Nat) (v : V) : Prop := ∃ (p : Addr) (after : Nat) (bc : Addr) (bs : List V) (tl : V), v = .ref p ∧ H p = some (.tup [.int (after : Int), .ref bc, tl]) ∧ after < nm ∧ H bc = some (.tup bs) ∧ bs.length = ws.length ∧ (∀ b ∈ bs, OptC H ws c b) ∧ OptC H ws c tl
theorem RuleP.tk {H H' : Hp} {ws : List Str} {nm c : Nat} {v : V} (h : RuleP H ws nm c v) (s : TK H H') : RuleP H' ws nm c v := by
  obtain ⟨p, af, bc, bs, tl, e, h1, h2, h3, h4, h5, h6⟩ := h
  exact ⟨p, af, bc, bs, tl, e, s _ _ h1, h2, s _ _ h3, h4, fun b hb => (h5 b hb).tk s, h6.tk s⟩
def ModeP (H : Hp) (ws : List Str) (nm : Nat) (xs : List (Str × Nat)) (v : V) : Prop := ∃ (p : Addr) (rs : List V), v = .ref p ∧ H p = some (.tup rs) ∧ Paired (fun r (x : Str × Nat) => RuleP H ws nm x.2 r) rs xs
theorem ModeP.tk {H H' : Hp} {ws : List Str} {nm : Nat} {xs : List (Str × Nat)} {v : V} (h : ModeP H ws nm xs v) (s : TK H H') : ModeP H' ws nm xs v := by
  obtain ⟨p, rs, e, h1, h2⟩ := h
  exact ⟨p, rs, e, s _ _ h1, L2.Paired.mapP h2 fun _ _ e => e.tk s⟩
structure PrgP (H : Hp) (pg c ac mo : Addr) (ws : List Str) (xs : List (Str × Nat)) (ms : List V) : Prop where
  e : H pg = some (.tup [.ref c, .ref ac, .ref mo])
  ec : H c = some (.tup (ws.map V.str))
  as : Acts H ac xs
  em : H mo = some (.tup ms)
  ms : ∀ m ∈ ms, ModeP H ws ms.length xs m
theorem PrgP.tk {H H' : Hp} {pg c ac mo : Addr} {ws : List Str} {xs : List (Str × Nat)} {ms : List V} (h : PrgP H pg c ac mo ws xs ms) (s : TK H H') : PrgP H' pg c ac mo ws xs ms :=
  ⟨s _ _ h.e, s _ _ h.ec, h.as.tk s, s _ _ h.em, fun m hm => (h.ms m hm).tk s⟩
def sp_phase : Sp := fun vs H Q _ => ∃ (a na ac : Addr) (m nm : Nat) (ws : List Str) (xs : List (Str × Nat)), vs = [.ref a, .ref na, .ref ac, .int (nm : Int)] ∧ Hd H a m ∧ m + 704 ≤ 800000 ∧ H na = some (.tup (ws.map V.str)) ∧ ws.length ≤ 4 ∧ (∀ z ∈ ws, Lt z ∧ z.length ≤ 8) ∧ Acts H ac xs ∧ xs.length ≤ 4 ∧ (∀ x ∈ xs, x.2 ≤ 2) ∧ 1 ≤ nm ∧ nm ≤ 10 ∧
  ∀ v H', ModeP H' ws nm xs v → Hd H' a (m + 704) → Kp a H H' → Q v H'
theorem ok_phase (T : Txt K mg) {k : Nat} : FnOk P w K mg base CX0 (k + 6) T.f__law_phase T.fd__law_phase ["_law_hand_here", "_law_names_here", "_law_acts", "_law_phases"] sp_phase := by
  have G__law_take := (ok_take (P := P) (w := w) (base := base) T (k := k)).mono (show k + 1 ≤ k + 5 by omega)
  have G__law_pick := (ok_pick (P := P) (w := w) (base := base) T (k := k) 2).mono (show k + 3 + 2 ≤ k + 5 by omega)
  refine T.F__law_phase.ok (k := k + 5) sc__law_phase (fun vs H Q E h => ?_) (fun cdv A outer s H vs Q E hr h => ?_)
  · obtain ⟨a, na, ac, m, nm, ws, xs, rfl, _⟩ := h
    rfl
  obtain ⟨a, na, ac, m, nm, ws, xs, rfl, ha, hm, hna, hws, hw, hac, hxs, hx2, hn1, hn2, q⟩ := h
  refine ⟨_, (pss_cons (ps_set (i := 4) sc__law_phase.nd rfl (.inl rfl) (pe_lst pa_nil))
      (pss_cons (ps_for PassesOwn.never rfl (pi_tup (pv 2)) (pg_tup rfl (pgs_cons (pg_name (i := 5) sc__law_phase.nd rfl (.inl rfl)) (pgs_cons (pg_name (i := 6) sc__law_phase.nd rfl (.inl rfl)) pgs_nil))) (pss_cons (ps_par (i := 7) (j := 8) rfl sc__law_phase.nd rfl rfl (by decide) rfl rfl (pa_cons (pe_lst pa_nil) (pa_cons pe_non pa_nil)) (by rfl))
      (pss_cons (ps_for PassesOwn.never rfl (pi_tup (pv 1)) (pg_name (i := 9) sc__law_phase.nd rfl (.inl rfl)) (pss_one (ps_expr (pe_bm PySem.F.plainAttrs_list PySem.F.slot_list_append PySem.F.type_list_append mt_append (pv 7) (pa_cons (pe_ifExp (pt_cmpR op_eq (pe_call G__law_take hr (by rfl) T.g__law_take T.k__law_take T.b__law_take .nil pass0 (pa_cons (pv 0) (pa_cons pe_int pa_nil))) pe_int (nomark _)) pe_non (pe_call G__law_pick hr (by rfl) T.g__law_pick T.k__law_pick T.b__law_pick .nil pass0 (pa_cons (pv 0) (pa_cons (pv 1) (pa_cons (pv 6) (pa_cons pe_int pa_nil)))))) pa_nil)))))
      (pss_cons (ps_if (pt_cmpR op_gt (pe_call G__law_take hr (by rfl) T.g__law_take T.k__law_take T.b__law_take .nil pass0 (pa_cons (pv 0) (pa_cons pe_int pa_nil))) pe_int (nomark _)) (pss_one (ps_set (i := 8) sc__law_phase.nd rfl (.inl rfl) (pe_call G__law_pick hr (by rfl) T.g__law_pick T.k__law_pick T.b__law_pick .nil pass0 (pa_cons (pv 0) (pa_cons (pv 1) (pa_cons (pv 6) (pa_cons pe_int pa_nil))))))) pss_nil)
      (pss_one (ps_expr (pe_bm PySem.F.plainAttrs_list PySem.F.slot_list_append PySem.F.type_list_append mt_append (pv 4) (pa_cons (pe_tup (pa_cons (pe_call G__law_take hr (by rfl) T.g__law_take T.k__law_take T.b__law_take .nil pass0 (pa_cons (pv 0) (pa_cons (pv 3) pa_nil))) (pa_cons (pe_callTy call_tuple_of (by rfl) T.m_tuple (by decide +kernel) (pa_cons (pv 7) pa_nil)) (pa_cons (pv 8) pa_nil)))) pa_nil))))))))
      (pss_one (ps_ret (pe_callTy call_tuple_of (by rfl) T.m_tuple (by decide +kernel) (pa_cons (pv 4) pa_nil)))))), ?_⟩
  obtain ⟨ps, eac, hps⟩ := hac
  have lps := hps.length
  have nna : na ≠ a := hd_tup ha hna (by intro xs z; cases z)
  have nca : ac ≠ a := hd_tup ha eac (by intro xs z; cases z)
  refine ⟨(by show 0 ≤ sizeLine; decide), fun q0 n0 => ?_⟩
  have s0 := same_new (o := .lst []) n0
  have nqa : q0 ≠ a := ha.new n0
  refine ⟨_, rfl, ac, rfl, ⟨_, SqT.of (s0 _ _ eac)⟩, for_tup (xs := ps.map V.ref) (fun i σ H' => (∃ y5 y6 y7 y8 y9, σ = [some (.ref a), some (.ref na), some (.ref ac), some (.int (nm : Int)), some (.ref q0), y5, y6, y7, y8, y9]) ∧ Hd H' a (m + 176 * i) ∧ Kp a H H' ∧ ∃ rs, H' q0 = some (.lst rs) ∧ Paired (fun r (x : Str × Nat) => RuleP H' ws nm x.2 r) rs (xs.take i)) ?_ ?_ ?_ ?_⟩
  · exact ⟨⟨_, _, _, _, _, rfl⟩, ha.same s0, Kp.of_same s0, [], upd_same, .nil⟩
  · rintro i σ H' _ ⟨_, _, k1, _⟩
    exact SqT.of (k1 _ _ nca eac)
  · rintro i x σ H1 hx ⟨⟨y5, y6, y7, y8, y9, rfl⟩, g1, k1, rs, ers, hrs⟩
    have hi := (List.getElem?_eq_some_iff.mp hx).1
    rw [List.length_map] at hi
    have hi2 : i < xs.length := by omega
    have hxp : x = .ref ps[i] := by
      rw [List.getElem?_map, List.getElem?_eq_getElem hi] at hx
      exact (Option.some.inj hx).symm
    subst hxp
    have tk1 := TK.of_kp k1 ha
    have ap := Lw.Paired.get (F := Act H) i hps (List.getElem?_eq_getElem hi) (List.getElem?_eq_getElem hi2)
    have ep := tk1 _ _ ap
    clear ap
    have c2 := hx2 _ (List.getElem_mem hi2)
    have lrs := hrs.length
    rw [List.length_take] at lrs
    have eT : xs.take (i + 1) = xs.take i ++ [xs[i]] := by
      rw [List.take_add_one, List.getElem?_eq_getElem hi2]
      rfl
    generalize xs[i] = xx at ep c2 eT
    refine ⟨ps[i], _, rfl, SqT.of ep, rfl, _, _, rfl, _, _, rfl, rfl, ?_⟩
    refine ⟨(by show 0 ≤ sizeLine; decide), fun b0 nb => ⟨_, _, rfl, ?_⟩⟩
    have s2 := same_new (o := .lst []) nb
    have nba : b0 ≠ a := g1.new nb
    have nbq : b0 ≠ q0 := fun z => by
      rw [z, ers] at nb
      cases nb
    have hb0 : H b0 = none := k1.none g1 nb
    refine ⟨_, rfl, na, rfl, ⟨_, SqT.of (s2 _ _ (k1 _ _ nna hna))⟩, for_tup (xs := ws.map V.str) (fun j σ H' => (∃ y9, σ = [some (.ref a), some (.ref na), some (.ref ac), some (.int (nm : Int)), some (.ref q0), some (.str xx.1), some (.int (xx.2 : Int)), some (.ref b0), some .non, y9]) ∧ Hd H' a (m + 176 * i + 35 * j) ∧ Kp a H1 H' ∧ ∃ bs, H' b0 = some (.lst bs) ∧ bs.length = j ∧ ∀ b ∈ bs, OptC H' ws xx.2 b) ?_ ?_ ?_ ?_⟩
    · exact ⟨⟨_, rfl⟩, g1.same s2, Kp.of_same s2, [], upd_same, rfl, by intro b h; cases h⟩
    · rintro j σ H' _ ⟨_, _, k2, _⟩
      exact SqT.of (k2 _ _ nna (k1 _ _ nna hna))
    · rintro j z σ H2 hz ⟨⟨y9', rfl⟩, g2, k2, bs, ebs, lbs, hbs⟩
      have hj := (List.getElem?_eq_some_iff.mp hz).1
      rw [List.length_map] at hj
      have fin : ∀ (y : V) (H5 : Hp), OptC H5 ws xx.2 y → Hd H5 a (m + 176 * i + 35 * j + 35) → Kp a H2 H5 → rAppend (.ref b0) [y] H5 (fun _ H' => (∃ y9, [some (.ref a), some (.ref na), some (.ref ac), some (.int (nm : Int)), some (.ref q0), some (.str xx.1), some (.int (xx.2 : Int)), some (.ref b0), some .non, some z] = [some (.ref a), some (.ref na), some (.ref ac), some (.int (nm : Int)), some (.ref q0), some (.str xx.1), some (.int (xx.2 : Int)), some (.ref b0), some .non, y9]) ∧ Hd H' a (m + 176 * i + 35 * (j + 1)) ∧ Kp a H1 H' ∧ ∃ bs, H' b0 = some (.lst bs) ∧ bs.length = j + 1 ∧ ∀ b ∈ bs, OptC H' ws xx.2 b) := by
        intro y H5 hy g5 k5
        have e5 := k5 _ _ nba ebs
        have tk5 := TK.of_kp k5 g2
        have tk6 : TK H5 (upd H5 b0 (.lst (bs ++ [y]))) := TK.at e5
        refine ⟨b0, bs, y, rfl, rfl, e5, Nat.lt_of_le_of_lt (show bs.length ≤ 1000 by omega) (by decide), ⟨_, rfl⟩, (g5.at nba).mono (by omega), (k2.trans k5).free nb, _, upd_same, by rw [List.length_append, lbs]; rfl, ?_⟩
        intro b hb
        rcases List.mem_append.mp hb with y' | y'
        · exact ((hbs b y').tk tk5).tk tk6
        · rw [List.mem_singleton.mp y']
          exact hy.tk tk6
      refine ⟨_, rfl, .inl ⟨rfl, _, SqL.of ebs⟩, _, rfl, a, _, 3, rfl, g2, by omega, by decide, by decide, fun r3 H3 hr3 g3 k3 => ⟨rfl, _, rfl, ite2 (fun _ => ?_) (fun _ => ?_)⟩⟩
      · exact fin _ _ (.inl rfl) (g3.mono (by omega)) k3
      · refine ⟨_, rfl, _, rfl, _, rfl, a, na, xx.2, _, ws, [a], rfl, g3, (by show m + 176 * i + 35 * j + 1 + 34 ≤ 800000; omega), k3 _ _ nna (k2 _ _ nna (k1 _ _ nna hna)), hws, hw, c2, List.mem_singleton_self _, hd_LL g3, fun v d H4 hd bd hc g4 k4 => ?_⟩
        exact fin _ _ (.inr hc) (g4.mono (by show m + 176 * i + 35 * j + 1 + 34 ≤ m + 176 * i + 35 * j + 35; omega)) (k3.trans k4)
    · rintro σ H2 ⟨⟨y9', rfl⟩, g2, k2, bs, ebs, lbs, hbs⟩
      rw [List.length_map] at lbs g2
      dsimp only
      refine later3 (fun σ Hx => ∃ tl, σ = [some (.ref a), some (.ref na), some (.ref ac), some (.int (nm : Int)), some (.ref q0), some (.str xx.1), some (.int (xx.2 : Int)), some (.ref b0), some tl, y9'] ∧ OptC Hx ws xx.2 tl ∧ Hd Hx a (m + 176 * i + 175) ∧ Kp a H2 Hx) (fun rest => ?_) ?_
      · refine ⟨_, rfl, a, _, 4, rfl, g2, by omega, by decide, by decide, fun r3 H3 hr3 g3 k3 => ⟨_, _, rfl, rfl, _, rfl, ite2 (fun _ => ?_) (fun _ => ?_)⟩⟩
        · refine ⟨_, rfl, _, rfl, _, rfl, a, na, xx.2, _, ws, [a], rfl, g3, (by show m + 176 * i + 35 * ws.length + 1 + 34 ≤ 800000; omega), k3 _ _ nna (k2 _ _ nna (k1 _ _ nna hna)), hws, hw, c2, List.mem_singleton_self _, hd_LL g3, fun v d H4 hd bd hc g4 k4 => ?_⟩
          exact rest _ _ ⟨v, rfl, .inr hc, g4.mono (by show m + 176 * i + 35 * ws.length + 1 + 34 ≤ m + 176 * i + 175; omega), k3.trans k4⟩
        · exact rest _ _ ⟨.non, rfl, .inl rfl, g3.mono (by omega), k3⟩
      rintro σ H3 ⟨tl, rfl, htl, g3, k3⟩
      have k23 := k2.trans k3
      have ers3 := k23 _ _ nqa ers
      refine ⟨_, rfl, .inl ⟨rfl, _, SqL.of ers3⟩, _, rfl, _, rfl, a, _, nm, rfl, g3, by omega, by omega, by omega, fun af H4 haf g4 k4 => ?_⟩
      have ebs4 := k4 _ _ nba (k3 _ _ nba ebs)
      refine ⟨_, rfl, b0, bs, rfl, .inl ⟨SqL.of ebs4, fun bc nbc => ⟨_, rfl, (by show 3 ≤ sizeLine; decide), fun rp nrp => ?_⟩⟩⟩
      have t1 := same_new (o := .tup bs) nbc
      have t2 := same_new (o := .tup [.int (af : Int), .ref bc, tl]) nrp
      have k16 := k23.trans (k4.trans (Kp.of_same (t1.trans t2)))
      have ers6 := k16 _ _ nqa ers
      have u2 := TK.of_kp (k3.trans (k4.trans (Kp.of_same (t1.trans t2)))) g2
      have u3 := TK.of_kp (k4.trans (Kp.of_same (t1.trans t2))) g3
      have u1 := TK.of_kp k16 g1
      have tk7 : TK (upd (upd H4 bc (.tup bs)) rp (.tup [.int (af : Int), .ref bc, tl])) (upd (upd (upd H4 bc (.tup bs)) rp (.tup [.int (af : Int), .ref bc, tl])) q0 (.lst (rs ++ [.ref rp]))) := TK.at ers6
      have rule : RuleP (upd (upd H4 bc (.tup bs)) rp (.tup [.int (af : Int), .ref bc, tl])) ws nm xx.2 (.ref rp) := ⟨rp, af, bc, bs, tl, rfl, made nrp, haf, t2 _ _ (made nbc), lbs, fun b hb => (hbs b hb).tk u2, htl.tk u3⟩
      refine ⟨q0, rs, .ref rp, rfl, rfl, ers6, Nat.lt_of_le_of_lt (show rs.length ≤ 1000 by omega) (by decide), ⟨_, _, _, _, _, rfl⟩, ((((g4.same t1).same t2)).at nqa).mono (by omega), (k1.trans k16).free n0, rs ++ [.ref rp], upd_same, ?_⟩
      rw [eT]
      exact Lw.Paired.app (L2.Paired.mapP hrs fun _ _ e => (e.tk u1).tk tk7) (.cons (rule.tk tk7) .nil)
  · rintro σ H1 ⟨⟨y5, y6, y7, y8, y9, rfl⟩, g1, k1, rs, ers, hrs⟩
    rw [List.length_map, lps, List.take_length] at hrs
    rw [List.length_map, lps] at g1
    refine ⟨_, rfl, q0, rs, rfl, .inl ⟨SqL.of ers, fun p np => ?_⟩⟩
    have t := same_new (o := .tup rs) np
    exact q _ _ ⟨p, rs, rfl, made np, L2.Paired.mapP hrs fun _ _ e => e.tk (TK.of_same t)⟩ ((g1.same t).mono (by omega)) (k1.trans (Kp.of_same t))
end

end Z

namespace Z
open PySem PySem.Spec PyProof.Rows L2 Lw

section
variable {P : Program} {w : World} {K : PySem.W.Frag} {mg : Str → Option Value} {base : Heap}
def sp_prog : Sp := fun vs H Q _ => ∃ (a : Addr) (m R Ph Mc : Nat), vs = [.ref a, .int (R : Int), .int (Ph : Int), .int (Mc : Int)] ∧ Hd H a m ∧ m + 8000 ≤ 700000 ∧ R ≤ 4 ∧ 1 ≤ Ph ∧ Ph ≤ 6 ∧ Mc ≤ 2 ∧
  ∀ (pg c ac mo : Addr) (ws : List Str) (xs : List (Str × Nat)) (ms : List V) H', PrgP H' pg c ac mo ws xs ms → ws.length ≤ R → (∀ z ∈ ws, Lt z ∧ z.length ≤ 8) → ws.Nodup → 1 ≤ xs.length → xs.length ≤ 3 → (∀ x ∈ xs, (Lt x.1 ∧ x.1.length ≤ 8) ∧ x.2 ≤ Mc) → (xs.map (·.1)).Nodup → 1 ≤ ms.length → ms.length ≤ Ph → Hd H' a (m + 8000) → Kp a H H' → Q (.ref pg) H'
theorem ok_prog (T : Txt K mg) {k : Nat} : FnOk P w K mg base CX0 (k + 7) T.f__law_prog T.fd__law_prog ["_law_hand_here", "_law_rooms", "_law_phases", "_law_most_came"] sp_prog := by
  have G__law_take := (ok_take (P := P) (w := w) (base := base) T (k := k)).mono (show k + 1 ≤ k + 6 by omega)
  have G__law_names := (ok_names (P := P) (w := w) (base := base) T (k := k)).mono (show k + 3 ≤ k + 6 by omega)
  have G__law_phase := ok_phase (P := P) (w := w) (base := base) T (k := k)
  refine T.F__law_prog.ok (k := k + 6) sc__law_prog (fun vs H Q E h => ?_) (fun cdv A outer s H vs Q E hr h => ?_)
  · obtain ⟨a, m, R, Ph, Mc, rfl, _⟩ := h
    rfl
  obtain ⟨a, m, R, Ph, Mc, rfl, ha, hm, hR, hP1, hP, hM, q⟩ := h
  refine ⟨_, (pss_cons (ps_set (i := 4) sc__law_prog.nd rfl (.inr rfl) (pe_call G__law_names hr (by rfl) T.g__law_names T.k__law_names T.b__law_names .nil pass0 (pa_cons (pv 0) (pa_cons (pe_op op_add (pv 1) pe_int) pa_nil))))
      (pss_cons (ps_asg (pe_tup (pa_cons (pe_callTy call_tuple_of (by rfl) T.m_tuple (by decide +kernel) (pa_cons (pe_slice sl_list (pv 4) po_none (po_some (pe_call G__law_take hr (by rfl) T.g__law_take T.k__law_take T.b__law_take .nil pass0 (pa_cons (pv 0) (pa_cons (pe_op op_add (pv 1) pe_int) pa_nil))))) pa_nil)) (pa_cons (pe_op op_add pe_int (pe_call G__law_take hr (by rfl) T.g__law_take T.k__law_take T.b__law_take .nil pass0 (pa_cons (pv 0) (pa_cons (pv 2) pa_nil)))) pa_nil))) (pg_tup rfl (pgs_cons (pg_name (i := 5) sc__law_prog.nd rfl (.inr rfl)) (pgs_cons (pg_name (i := 6) sc__law_prog.nd rfl (.inr rfl)) pgs_nil))))
      (pss_cons (ps_set (i := 7) sc__law_prog.nd rfl (.inr rfl) (pe_callTy call_tuple_of (by rfl) T.m_tuple (by decide +kernel) (pa_cons (pe_lc (own := [("_law_spot", 8)]) (g := gName 8) (tt := tYes) rfl sc__law_prog.nd (pi_range1 (by rfl) T.m_range (pa_cons (pe_op op_add pe_int (pe_call G__law_take hr (by rfl) T.g__law_take T.k__law_take T.b__law_take .nil pass0 (pa_cons (pv 0) (pa_cons pe_int pa_nil)))) pa_nil)) (blkOk_by (N := ["_law_hand_here", "_law_rooms", "_law_phases", "_law_most_came", "_law_some", "_law_names_here", "_law_count", "_law_acts", "_law_spot", "_law_turn"]) (sc := defScope s__law_prog) (by decide +kernel)) (fun _ _ _ _ _ => (pg_name (i := 8) sc__law_prog.nd rfl (Or.inl rfl))) (fun _ _ _ _ _ => pts_nil) (fun _ _ _ _ _ => (pe_tup (pa_cons (pe_ix (ix_listK (K := K)) (pv 4) (pe_op op_add (pv 1) (pv 8)) (fun _ _ => rfl)) (pa_cons (pe_call G__law_take hr (by rfl) T.g__law_take T.k__law_take T.b__law_take .nil pass0 (pa_cons (pv 0) (pa_cons (pe_op op_add (pv 3) pe_int) pa_nil))) pa_nil))))) pa_nil)))
      (pss_one (ps_ret (pe_tup (pa_cons (pv 5) (pa_cons (pv 7) (pa_cons (pe_callTy call_tuple_of (by rfl) T.m_tuple (by decide +kernel) (pa_cons (pe_lc (own := [("_law_turn", 9)]) (g := gName 9) (tt := tYes) rfl sc__law_prog.nd (pi_range1 (by rfl) T.m_range (pa_cons (pv 6) pa_nil)) (blkOk_by (N := ["_law_hand_here", "_law_rooms", "_law_phases", "_law_most_came", "_law_some", "_law_names_here", "_law_count", "_law_acts", "_law_spot", "_law_turn"]) (sc := defScope s__law_prog) (by decide +kernel)) (fun _ _ _ _ _ => (pg_name (i := 9) sc__law_prog.nd rfl (Or.inl rfl))) (fun _ _ _ _ _ => pts_nil) (fun _ _ _ _ _ => (pe_call G__law_phase hr (by rfl) T.g__law_phase T.k__law_phase T.b__law_phase .nil pass0 (pa_cons (pv 0) (pa_cons (pv 5) (pa_cons (pv 7) (pa_cons (pv 6) pa_nil))))))) pa_nil)) pa_nil))))))))), ?_⟩
  refine ⟨_, rfl, _, rfl, _, _, rfl, rfl, a, m, R + 3, rfl, ha, by omega, by omega, fun pw wa H1 n1 e1 l1 hw nd g1 k1 => ?_⟩
  have npa : pw ≠ a := fun z => by
    obtain ⟨_, _, _, e, _⟩ := ha
    rw [z, e] at n1
    cases n1
  -- names, count
  refine ⟨_, rfl, _, rfl, _, rfl, _, _, rfl, rfl, a, m + 10, R + 1, rfl, g1, by omega, by omega, by omega, fun r2 H2 hr2 g2 k2 => ?_⟩
  have e2 := k2 _ _ npa e1
  refine ⟨_, rfl, pw, _, rfl, SqL.of e2, fun p3 n3 => ⟨p3, _, rfl, .inl ⟨SqL.of upd_same, fun c nc => ?_⟩⟩⟩
  have t3 := same_new (o := .lst (cutV (wa.map V.str) none (some (r2 : Int)))) n3
  have t4 := same_new (o := .tup (cutV (wa.map V.str) none (some (r2 : Int)))) nc
  have g4 := (g2.same t3).same t4
  refine ⟨_, rfl, _, rfl, a, m + 10 + 1, Ph, rfl, g4, by omega, by omega, by omega, fun r5 H5 hr5 g5 k5 => ?_⟩
  refine ⟨_, _, rfl, rfl, (by show 2 ≤ sizeLine; decide), fun tt ntt => ⟨tt, _, rfl, SqT.of upd_same, rfl, _, _, rfl, _, _, rfl, rfl, ?_⟩⟩
  have t6 := same_new (o := .tup [.ref c, .int (1 + (r5 : Int))]) ntt
  have k6 := k1.trans (k2.trans ((Kp.of_same (t3.trans t4)).trans (k5.trans (Kp.of_same t6))))
  have g6 := g5.same t6
  have ec6 := ((TK.of_kp k5 g4).trans (TK.of_same t6)) _ _ (made (o := .tup (cutV (wa.map V.str) none (some (r2 : Int)))) nc)
  rw [cut_take, ← List.map_take] at ec6
  have ep6 := ((Kp.of_same (t3.trans t4)).trans (k5.trans (Kp.of_same t6))) _ _ npa e2
  dsimp only
  refine later3 (fun σ Hx => ∃ ac xs, σ = [some (.ref a), some (.int (R : Int)), some (.int (Ph : Int)), some (.int (Mc : Int)), some (.ref pw), some (.ref c), some (.int (1 + (r5 : Int))), some (.ref ac), none, none] ∧ Acts Hx ac xs ∧ 1 ≤ xs.length ∧ xs.length ≤ 3 ∧ xs.map (·.1) = (wa.drop R).take xs.length ∧ (∀ x ∈ xs, x.2 ≤ Mc) ∧ Hx c = some (.tup ((wa.take r2).map V.str)) ∧ Hd Hx a (m + 20) ∧ Kp a H Hx) (fun rest => ?_) ?_
  · refine ⟨_, rfl, a, _, 3, rfl, g6, by omega, by decide, by decide, fun r7 H7 hr7 g7 k7 => ?_⟩
    refine ⟨_, _, rfl, rfl, _, rfl, by omega, by omega, fun D1 nD => ?_⟩
    have nDa : D1 ≠ a := g7.new nD
    refine Lw.lc_range (lo := 0) (n := ((1 : Int) + (r7 : Int)).toNat) (fun j H' => Hd H' a (m + 13 + j) ∧ Kp a H7 H' ∧ ∃ (ps : List Addr) (xs : List (Str × Nat)), H' D1 = some (.lst (ps.map V.ref)) ∧ Paired (Act H') ps xs ∧ xs.length = j ∧ xs.map (·.1) = (wa.drop R).take j ∧ ∀ x ∈ xs, x.2 ≤ Mc) ?_ ?_ ?_
    · exact ⟨(g7.same (same_new nD)).mono (by omega), Kp.of_same (same_new nD), [], [], upd_same, .nil, rfl, rfl, by intro x hx; cases hx⟩
    · rintro j H8 hj ⟨g8, k8, ps, xs, ed, hpx, lx, hnm, hx2⟩
      have hj3 : j < 3 := by omega
      have lp := hpx.length
      have hix : R + j < wa.length := by omega
      have epw := k8 _ _ npa (k7 _ _ npa ep6)
      refine ⟨rfl, ?_⟩
      dsimp only [tYes]
      refine iteT ?_
      refine ⟨_, rfl, _, rfl, _, rfl, _, _, rfl, rfl, pw, _, ((R + j : Nat) : Int), .str wa[R + j], rfl, congrArg V.int (by omega), SqL.of epw, atI_nat (by rw [List.getElem?_map, List.getElem?_eq_getElem hix]; rfl), ?_⟩
      refine ⟨_, rfl, _, rfl, _, _, rfl, rfl, a, _, Mc + 1, rfl, g8, by omega, by omega, by omega, fun r9 H9 hr9 g9 k9 => ⟨(by show 2 ≤ sizeLine; decide), fun p np => ?_⟩⟩
      have t9 := same_new (o := .tup [.str wa[R + j], .int (r9 : Int)]) np
      have k89 := k9.trans (Kp.of_same t9)
      have ed9 := k89 _ _ nDa ed
      have u8 := TK.of_kp k89 g8
      have tk9 : TK (upd H9 p (.tup [.str wa[R + j], .int (r9 : Int)])) (upd (upd H9 p (.tup [.str wa[R + j], .int (r9 : Int)])) D1 (.lst (ps.map V.ref ++ [.ref p]))) := TK.at ed9
      refine ⟨_, ed9, Nat.lt_of_le_of_lt (show (ps.map V.ref).length ≤ 1000 by rw [List.length_map]; omega) (by decide), ((g9.same t9).at nDa).mono (by omega), (k8.trans k89).free nD, ps ++ [p], xs ++ [(wa[R + j], r9)], by rw [upd_same, List.map_append]; rfl, ?_, by rw [List.length_append, lx]; rfl, ?_, ?_⟩
      · exact Lw.Paired.app (L2.Paired.mapP hpx fun _ _ e => tk9 _ _ (u8 _ _ e)) (.cons (tk9 _ _ (made (o := .tup [.str wa[R + j], .int (r9 : Int)]) np)) .nil)
      · rw [List.map_append, hnm, List.take_add_one, List.getElem?_drop, List.getElem?_eq_getElem hix]
        rfl
      · intro x hx
        rcases List.mem_append.mp hx with z | z
        · exact hx2 x z
        · rw [List.mem_singleton.mp z]
          show r9 ≤ Mc
          omega
    · rintro H8 ⟨g8, k8, ps, xs, ed, hpx, lx, hnm, hx2⟩
      refine ⟨D1, _, rfl, .inl ⟨SqL.of ed, fun ac nac => ?_⟩⟩
      have t9 := same_new (o := .tup (ps.map V.ref)) nac
      have k69 := k7.trans (k8.trans (Kp.of_same t9))
      rw [← lx] at hnm
      exact rest _ _ ⟨ac, xs, rfl, ⟨ps, made nac, L2.Paired.mapP hpx fun _ _ e => t9 _ _ e⟩, by omega, by omega, hnm, hx2, (TK.of_kp k69 g6) _ _ ec6, (g8.same t9).mono (by omega), k6.trans k69⟩
  rintro σ Hx ⟨ac, xs, rfl, hac, lx1, lx3, hnm, hx2, ec, gx, kx⟩
  have hwt : (wa.take r2).length ≤ 4 := by
    rw [List.length_take]
    omega
  have hwz : ∀ z ∈ wa.take r2, Lt z ∧ z.length ≤ 8 := fun z hz => hw z (List.mem_of_mem_take hz)
  have nca : c ≠ a := hd_tup gx ec (by intro xs z; cases z)
  refine ⟨_, rfl, _, rfl, _, rfl, _, rfl, by omega, by omega, fun D1 nD => ?_⟩
  have nDa : D1 ≠ a := gx.new nD
  refine Lw.lc_range (lo := 0) (n := ((1 : Int) + (r5 : Int)).toNat) (fun j H' => Hd H' a (m + 20 + 704 * j) ∧ Kp a Hx H' ∧ ∃ ms : List V, H' D1 = some (.lst ms) ∧ ms.length = j ∧ ∀ v ∈ ms, ModeP H' (wa.take r2) (1 + r5) xs v) ?_ ?_ ?_
  · exact ⟨(gx.same (same_new nD)).mono (by omega), Kp.of_same (same_new nD), [], upd_same, rfl, by intro x hx; cases hx⟩
  · rintro j H8 hj ⟨g8, k8, ms, ed, lm, hms⟩
    have hj6 : j < 6 := by omega
    have u0 := TK.of_kp k8 gx
    refine ⟨rfl, ?_⟩
    dsimp only [tYes]
    refine iteT ?_
    refine ⟨_, rfl, _, rfl, _, rfl, _, rfl, a, c, ac, _, 1 + r5, wa.take r2, xs, rfl, g8, by omega, u0 _ _ ec, hwt, hwz, hac.tk u0, by omega, fun x hx => Nat.le_trans (hx2 x hx) hM, by omega, by omega, fun v H9 hmo g9 k9 => ?_⟩
    have ed9 := k9 _ _ nDa ed
    have u9 := TK.of_kp k9 g8
    have tk9 : TK H9 (upd H9 D1 (.lst (ms ++ [v]))) := TK.at ed9
    refine ⟨ms, ed9, Nat.lt_of_le_of_lt (show ms.length ≤ 1000 by omega) (by decide), (g9.at nDa).mono (by omega), (k8.trans k9).free nD, _, upd_same, by rw [List.length_append, lm]; rfl, ?_⟩
    intro x hx
    rcases List.mem_append.mp hx with z | z
    · exact ((hms x z).tk u9).tk tk9
    · rw [List.mem_singleton.mp z]
      exact hmo.tk tk9
  · rintro H8 ⟨g8, k8, ms, ed, lm, hms⟩
    refine ⟨D1, ms, rfl, .inl ⟨SqL.of ed, fun mo nmo => ⟨(by show 3 ≤ sizeLine; decide), fun pg npg => ?_⟩⟩⟩
    have t1 := same_new (o := .tup ms) nmo
    have t2 := same_new (o := .tup [.ref c, .ref ac, .ref mo]) npg
    have t12 := t1.trans t2
    have u := TK.of_kp (k8.trans (Kp.of_same t12)) gx
    have lm' : ms.length = 1 + r5 := by omega
    refine q pg c ac mo (wa.take r2) xs ms _ ⟨made npg, u _ _ ec, hac.tk u, t2 _ _ (made nmo), fun v hv => ?_⟩ ?_ hwz (nd.sublist (List.take_sublist _ _)) lx1 lx3 (fun x hx => ⟨hw _ ?_, hx2 x hx⟩) ?_ (by omega) (by omega) (((g8.same t1).same t2).mono (by omega)) (kx.trans (k8.trans (Kp.of_same t12)))
    · rw [lm']
      exact (hms v hv).tk (TK.of_same t12)
    · rw [List.length_take]
      omega
    · have : x.1 ∈ xs.map (·.1) := List.mem_map_of_mem hx
      rw [hnm] at this
      exact List.mem_of_mem_drop (List.mem_of_mem_take this)
    · rw [hnm]
      exact nd.sublist ((List.take_sublist _ _).trans (List.drop_sublist _ _))
end

end Z

namespace Z
open PySem PySem.Spec PyProof.Rows L2 Lw

section
variable {P : Program} {w : World} {K : PySem.W.Frag} {mg : Str → Option Value} {base : Heap}
/-- the place behind a deed, or none -/
def spv : Option Nat → V
  | none => .non
  | some n => .int (n : Int)
def natV (n : Nat) : V := .int (n : Int)
def Gt (H : Hp) (gt : Addr) (gs : List (List (Option Nat))) : Prop := ∃ ps : List Addr, H gt = some (.tup (ps.map V.ref)) ∧ Paired (fun p (row : List (Option Nat)) => H p = some (.tup (row.map spv))) ps gs
theorem Gt.tk {H H' : Hp} {gt : Addr} {gs : List (List (Option Nat))} (h : Gt H gt gs) (s : TK H H') : Gt H' gt gs := by
  obtain ⟨ps, e, p⟩ := h
  exact ⟨ps, s _ _ e, L2.Paired.mapP p fun _ _ e => s _ _ e⟩
/-- a guard of so many deeds -/
def GOk (n : Nat) (gs : List (List (Option Nat))) : Prop := 1 ≤ gs.length ∧ ∀ row ∈ gs, row.length = n ∧ ∀ k, some k ∈ row → k < gs.length
def sp_gate : Sp := fun vs H Q _ => ∃ (a t : Addr) (n Mp : Nat) (as : List V), vs = [.ref a, .ref t, .int (Mp : Int)] ∧ Hd H a n ∧ n + 50 ≤ 800000 ∧ 1 ≤ Mp ∧ Mp ≤ 4 ∧ H t = some (.tup as) ∧ as.length ≤ 4 ∧
  ∀ (gt : Addr) (gs : List (List (Option Nat))) H', Gt H' gt gs → GOk as.length gs → gs.length ≤ Mp → Hd H' a (n + 50) → Kp a H H' → Q (.ref gt) H'
theorem ok_gate (T : Txt K mg) {k : Nat} : FnOk P w K mg base CX0 (k + 2) T.f__law_gate T.fd__law_gate ["_law_hand_here", "_law_acts", "_law_most_places"] sp_gate := by
  have G__law_take := ok_take (P := P) (w := w) (base := base) T (k := k)
  refine T.F__law_gate.ok sc__law_gate (fun vs H Q E h => ?_) (fun cdv A outer s H vs Q E hr h => ?_)
  · obtain ⟨a, t, n, Mp, as, rfl, _⟩ := h
    rfl
  obtain ⟨a, t, n, Mp, as, rfl, ha, hn, hM1, hM4, ht, has, q⟩ := h
  refine ⟨_, (pss_cons (ps_asg (pe_tup (pa_cons (pe_op op_add pe_int (pe_call G__law_take hr (by rfl) T.g__law_take T.k__law_take T.b__law_take .nil pass0 (pa_cons (pv 0) (pa_cons (pv 2) pa_nil)))) (pa_cons (pe_lst pa_nil) pa_nil))) (pg_tup rfl (pgs_cons (pg_name (i := 3) sc__law_gate.nd rfl (.inr rfl)) (pgs_cons (pg_name (i := 4) sc__law_gate.nd rfl (.inl rfl)) pgs_nil))))
      (pss_cons (ps_for PassesOwn.never rfl (pi_range1 (by rfl) T.m_range (pa_cons (pv 3) pa_nil)) (pg_name (i := 5) sc__law_gate.nd rfl (.inl rfl)) (pss_one (ps_expr (pe_bm PySem.F.plainAttrs_list PySem.F.slot_list_append PySem.F.type_list_append mt_append (pv 4) (pa_cons (pe_callTy call_tuple_of (by rfl) T.m_tuple (by decide +kernel) (pa_cons (pe_lc (own := [("_law_act", 6)]) (g := gName 6) (tt := tYes) rfl sc__law_gate.nd (pi_tup (pv 1)) (blkOk_by (N := ["_law_hand_here", "_law_acts", "_law_most_places", "_law_count", "_law_found", "_law_turn", "_law_act"]) (sc := defScope s__law_gate) (by decide +kernel)) (fun _ _ _ _ _ => (pg_name (i := 6) sc__law_gate.nd rfl (Or.inl rfl))) (fun _ _ _ _ _ => pts_nil) (fun _ _ _ _ _ => (pe_ifExp (pt_cmpR op_eq (pe_call G__law_take hr (by rfl) T.g__law_take T.k__law_take T.b__law_take .nil pass0 (pa_cons (pv 0) (pa_cons pe_int pa_nil))) pe_int (nomark _)) pe_non (pe_call G__law_take hr (by rfl) T.g__law_take T.k__law_take T.b__law_take .nil pass0 (pa_cons (pv 0) (pa_cons (pv 3) pa_nil)))))) pa_nil)) pa_nil)))))
      (pss_one (ps_ret (pe_callTy call_tuple_of (by rfl) T.m_tuple (by decide +kernel) (pa_cons (pv 4) pa_nil)))))), ?_⟩
  refine ⟨_, rfl, _, rfl, a, n, Mp, rfl, ha, by omega, by omega, by omega, fun r H1 hr1 g1 k1 => ?_⟩
  refine ⟨_, _, rfl, rfl, (by show 0 ≤ sizeLine; decide), fun fl nfl => ?_⟩
  have s0 := same_new (o := .lst []) nfl
  refine ⟨(by show 2 ≤ sizeLine; decide), fun tt ntt => ⟨tt, _, rfl, SqT.of upd_same, rfl, _, _, rfl, _, _, rfl, rfl, ?_⟩⟩
  have s1 := s0.trans (same_new (o := .tup [.int (1 + (r : Int)), .ref fl]) ntt)
  have ef : (upd (upd H1 fl (.lst [])) tt (.tup [.int (1 + (r : Int)), .ref fl])) fl = some (.lst []) := same_new ntt _ _ upd_same
  have nfa : fl ≠ a := g1.new nfl
  have hfl : H fl = none := k1.none g1 nfl
  have nta : t ≠ a := hd_tup ha ht (by intro xs z; cases z)
  refine ⟨_, rfl, _, rfl, by omega, by omega, for_range (lo := 0) (fun i σ H' => (∃ y5 y6, σ = [some (.ref a), some (.ref t), some (.int (Mp : Int)), some (.int (1 + (r : Int))), some (.ref fl), y5, y6]) ∧ Hd H' a (n + 1 + 8 * i) ∧ Kp a H H' ∧
    ∃ (ps : List Addr) (gs : List (List (Option Nat))), H' fl = some (.lst (ps.map V.ref)) ∧ Paired (fun p (row : List (Option Nat)) => H' p = some (.tup (row.map spv))) ps gs ∧ gs.length = i ∧ ∀ row ∈ gs, row.length = as.length ∧ ∀ k, some k ∈ row → k < 1 + r) ?_ ?_ ?_⟩
  · exact ⟨⟨_, _, rfl⟩, g1.same s1, k1.trans (Kp.of_same s1), [], [], ef, .nil, rfl, fun v hv => by cases hv⟩
  · rintro i σ H2 hi ⟨⟨y5, y6, rfl⟩, g2, k2, ps, gs, ev, hpg, lg, hg⟩
    have hi4 : i < 4 := by omega
    have lp := hpg.length
    refine ⟨_, rfl, .inl ⟨rfl, _, SqL.of ev⟩, _, rfl, t, rfl, ⟨as, SqT.of (k2 _ _ nta ht)⟩, fun D1 n1 => ?_⟩
    have nD : D1 ≠ a := g2.new n1
    refine Lw.lc_tup (xs := as) (fun j H' => Hd H' a (n + 1 + 8 * i + 2 * j) ∧ Kp a H2 H' ∧ ∃ row : List (Option Nat), H' D1 = some (.lst (row.map spv)) ∧ row.length = j ∧ ∀ k, some k ∈ row → k < 1 + r) ⟨g2.same (same_new n1), Kp.of_same (same_new n1), [], upd_same, rfl, fun v hv => by cases hv⟩ ?_ ?_ ?_
    · rintro j H' _ ⟨_, k3, _⟩
      exact SqT.of (k3 _ _ nta (k2 _ _ nta ht))
    · rintro j x H3 hx ⟨g3, k3, row, ea, la, hrow⟩
      have hj := (List.getElem?_eq_some_iff.mp hx).1
      have fin : ∀ (y : Option Nat) (H5 : Hp), (∀ k, y = some k → k < 1 + r) → Hd H5 a (n + 1 + 8 * i + 2 * j + 2) → Kp a H3 H5 → ∃ acc, H5 D1 = some (.lst acc) ∧ acc.length < sizeLine ∧ Hd (upd H5 D1 (.lst (acc ++ [spv y]))) a (n + 1 + 8 * i + 2 * (j + 1)) ∧ Kp a H2 (upd H5 D1 (.lst (acc ++ [spv y]))) ∧
          ∃ row : List (Option Nat), (upd H5 D1 (.lst (acc ++ [spv y]))) D1 = some (.lst (row.map spv)) ∧ row.length = j + 1 ∧ ∀ k, some k ∈ row → k < 1 + r := by
        intro y H5 hy g5 k5
        refine ⟨row.map spv, k5 _ _ nD ea, Nat.lt_of_le_of_lt (show (row.map spv).length ≤ 1000 by rw [List.length_map]; omega) (by decide), (g5.at nD).mono (by omega), (k3.trans k5).free n1, row ++ [y], by rw [upd_same, List.map_append]; rfl, by rw [List.length_append, la]; rfl, ?_⟩
        intro k hk
        rcases List.mem_append.mp hk with z | z
        · exact hrow k z
        · exact hy k (List.mem_singleton.mp z).symm
      refine ⟨rfl, ?_⟩
      dsimp only [tYes]
      refine iteT ?_
      refine ⟨_, rfl, a, _, 5, rfl, g3, by omega, by decide, by decide, fun r4 H4 hr4 g4 k4 => ⟨rfl, _, rfl, ite2 (fun c => ?_) (fun c => ?_)⟩⟩
      · exact fin none _ (by intro k z; cases z) (g4.mono (by omega)) k4
      · refine ⟨_, rfl, _, rfl, a, _, 1 + r, rfl, g4, by omega, by omega, by omega, fun r5 H5 hr5 g5 k5 => ?_⟩
        exact fin (some r5) _ (by intro k z; cases z; exact hr5) g5 (k4.trans k5)
    · rintro H3 ⟨g3, k3, row, ea, la, hrow⟩
      refine ⟨D1, _, rfl, .inl ⟨SqL.of ea, fun qd nq => ?_⟩⟩
      have s4 := same_new (o := .tup (row.map spv)) nq
      have k24 := k3.trans (Kp.of_same s4)
      have ev4 := k24 _ _ nfa ev
      have u := TK.of_kp k24 g2
      have tk5 : TK (upd H3 qd (.tup (row.map spv))) (upd (upd H3 qd (.tup (row.map spv))) fl (.lst (ps.map V.ref ++ [.ref qd]))) := TK.at ev4
      refine ⟨fl, _, .ref qd, rfl, rfl, ev4, Nat.lt_of_le_of_lt (show (ps.map V.ref).length ≤ 1000 by rw [List.length_map]; omega) (by decide), ⟨_, _, rfl⟩, ((g3.same s4).at nfa).mono (by omega), (k2.trans k24).free hfl, ps ++ [qd], gs ++ [row], by rw [upd_same, List.map_append]; rfl, ?_, by rw [List.length_append, lg]; rfl, ?_⟩
      · exact Lw.Paired.app (L2.Paired.mapP hpg fun _ _ e => tk5 _ _ (u _ _ e)) (.cons (tk5 _ _ (made nq)) .nil)
      · intro x hx
        rcases List.mem_append.mp hx with z | z
        · exact hg x z
        · rw [List.mem_singleton.mp z]
          exact ⟨la, hrow⟩
  · rintro σ H2 ⟨⟨y5, y6, rfl⟩, g2, k2, ps, gs, ev, hpg, lg, hg⟩
    refine ⟨_, rfl, fl, _, rfl, .inl ⟨SqL.of ev, fun p np => ?_⟩⟩
    have s3 := same_new (o := .tup (ps.map V.ref)) np
    have lg' : gs.length = 1 + r := by omega
    refine q p gs _ ⟨ps, made np, L2.Paired.mapP hpg fun _ _ e => s3 _ _ e⟩ ⟨by omega, fun row hrow => ?_⟩ (by omega) ((g2.same s3).mono (by omega)) (k2.trans (Kp.of_same s3))
    rw [lg']
    exact hg row hrow
end

end Z

namespace Z
open PySem PySem.Spec PyProof.Rows L2 Lw

section
variable {P : Program} {w : World} {K : PySem.W.Frag} {mg : Str → Option Value} {base : Heap}
def sp_number : Sp := fun vs H Q _ => ∃ (a : Addr) (n : Nat), vs = [.ref a] ∧ Hd H a n ∧ n + 3 ≤ 800000 ∧ ∀ (i : Int) H', i.natAbs < 10 ^ 60 → Hd H' a (n + 3) → Kp a H H' → Q (.int i) H'
theorem ok_number (T : Txt K mg) {k : Nat} : FnOk P w K mg base CX0 (k + 2) T.f__law_number T.fd__law_number ["_law_hand_here"] sp_number := by
  have G__law_take := ok_take (P := P) (w := w) (base := base) T (k := k)
  refine T.F__law_number.ok sc__law_number (fun vs H Q E h => ?_) (fun cdv A outer s H vs Q E hr h => ?_)
  · obtain ⟨a, n, rfl, _⟩ := h
    rfl
  obtain ⟨a, n, rfl, ha, hn, q⟩ := h
  refine ⟨_, (pss_cons (ps_set (i := 1) sc__law_number.nd rfl (.inl rfl) (pe_call G__law_take hr (by rfl) T.g__law_take T.k__law_take T.b__law_take .nil pass0 (pa_cons (pv 0) (pa_cons pe_int pa_nil))))
      (pss_cons (ps_if (pt_cmpR op_lt (pv 1) pe_int (nomark _)) (pss_one (ps_ret (pe_call G__law_take hr (by rfl) T.g__law_take T.k__law_take T.b__law_take .nil pass0 (pa_cons (pv 0) (pa_cons pe_int pa_nil))))) pss_nil)
      (pss_one (ps_ret (pe_ix ix_list (pe_lst (pa_cons (pe_call G__law_take hr (by rfl) T.g__law_take T.k__law_take T.b__law_take .nil pass0 (pa_cons (pv 0) (pa_cons (pe_op op_pow pe_int pe_int) pa_nil))) (pa_cons (pe_op op_sub (pe_un un_neg pe_int) (pe_call G__law_take hr (by rfl) T.g__law_take T.k__law_take T.b__law_take .nil pass0 (pa_cons (pv 0) (pa_cons pe_int pa_nil)))) pa_nil))) (pe_op op_sub (pv 1) pe_int) (fun _ _ => rfl)))))), ?_⟩
  have p59 : CPow 10 59 := ⟨by decide, by decide, by decide⟩
  refine ⟨_, rfl, a, n, 9, rfl, ha, by omega, by decide, by decide, fun way H1 hw g1 k1 => ?_⟩
  refine ⟨_, rfl, _, _, rfl, rfl, _, rfl, ite2 (fun c => ?_) (fun c => ?_)⟩
  · refine ⟨_, rfl, a, n + 1, 6, rfl, g1, by omega, by decide, by decide, fun r H2 hr2 g2 k2 => ?_⟩
    exact q _ _ (Nat.lt_trans (show ((r : Nat) : Int).natAbs < 1000 by omega) (by decide +kernel)) (g2.mono (by omega)) (k1.trans k2)
  · have cw : ¬ (way : Int) < 7 := fun z => c (decide_eq_true z)
    refine ⟨_, rfl, _, _, rfl, rfl, p59, a, n + 1, 100000000000000000000000000000000000000000000000000000000000, congrArg (fun z => [V.ref a, V.int z]) (by decide +kernel : (10 : Int) ^ (59 : Int).toNat = ((100000000000000000000000000000000000000000000000000000000000 : Nat) : Int)), g1, by omega, by decide, by decide, fun r H2 hr2 g2 k2 => ?_⟩
    refine ⟨_, rfl, _, rfl, a, n + 1 + 1, 9, rfl, g2, by omega, by decide, by decide, fun r3 H3 hr3 g3 k3 => ?_⟩
    refine ⟨_, _, rfl, rfl, (by show 2 ≤ sizeLine; decide), fun p np => ?_⟩
    have t4 := same_new (o := .lst [.int (r : Int), .int (-1 - (r3 : Int))]) np
    have kk := k1.trans (k2.trans (k3.trans (Kp.of_same t4)))
    have gg := (g3.same t4).mono (show n + 1 + 1 + 1 ≤ n + 3 by omega)
    have b1 : ((r : Nat) : Int).natAbs < 10 ^ 60 := Nat.lt_trans (show ((r : Nat) : Int).natAbs < 100000000000000000000000000000000000000000000000000000000000 by omega) (by decide +kernel)
    have b2 : (-1 - (r3 : Int)).natAbs < 10 ^ 60 := Nat.lt_trans (show (-1 - (r3 : Int)).natAbs < 1000 by omega) (by decide +kernel)
    have hw7 : way = 7 ∨ way = 8 := by omega
    rcases hw7 with e | e
    · subst e
      exact ⟨_, rfl, _, _, rfl, rfl, p, _, 0, _, rfl, rfl, SqL.of upd_same, rfl, q _ _ b1 gg kk⟩
    · subst e
      exact ⟨_, rfl, _, _, rfl, rfl, p, _, 1, _, rfl, rfl, SqL.of upd_same, rfl, q _ _ b2 gg kk⟩
end

end Z

namespace Z
open PySem PySem.Spec PyProof.Rows L2 Lw

section
variable {P : Program} {w : World} {K : PySem.W.Frag} {mg : Str → Option Value} {base : Heap}
/-- a deed done, as data -/
def deedD (z : Str) (is : List Int) : PyData := .tuple (.str z :: is.map PyData.int)
/-- a deed of a program -/
def IsDeed (xs : List (Str × Nat)) (d : PyData) : Prop := ∃ (z : Str) (is : List Int), d = deedD z is ∧ (z, is.length) ∈ xs ∧ ∀ i ∈ is, i.natAbs < 10 ^ 60
/-- tuples that hold deeds -/
def Deeds (H : Hp) (vs : List V) (ds : List PyData) : Prop := Paired (fun v d => ∃ (p : Addr) (z : Str) (is : List Int), v = .ref p ∧ d = deedD z is ∧ H p = some (.tup (.str z :: is.map V.int))) vs ds
theorem Deeds.tk {H H' : Hp} {vs : List V} {ds : List PyData} (h : Deeds H vs ds) (s : TK H H') : Deeds H' vs ds := L2.Paired.mapP h fun _ _ ⟨p, z, is, e1, e2, e3⟩ => ⟨p, z, is, e1, e2, s _ _ e3⟩
/-- where a guard leads along deeds, by their numbers -/
def stepG (gs : List (List (Option Nat))) (pl n : Nat) : Option Nat := (gs[pl]?.bind fun row => row[n]?).join
theorem stepG_lt {gs : List (List (Option Nat))} {m pl n pl' : Nat} (h : GOk m gs) (e : stepG gs pl n = some pl') : pl' < gs.length := by
  unfold stepG at e
  cases h1 : gs[pl]? with
  | none =>
    rw [h1] at e
    cases e
  | some row =>
    rw [h1] at e
    cases h2 : row[n]? with
    | none =>
      simp [h2] at e
    | some o =>
      simp only [Option.bind_some, h2, Option.join_some] at e
      subst e
      exact (h.2 row (List.mem_of_getElem? h1)).2 pl' (List.mem_of_getElem? h2)
theorem Gt.at {H : Hp} {gt : Addr} {gs : List (List (Option Nat))} (h : Gt H gt gs) {m pl : Nat} (hm : GOk m gs) (hp : pl < gs.length) : ∃ (xs : List V) (p : Addr) (row : List (Option Nat)), H gt = some (.tup xs) ∧ xs[pl]? = some (.ref p) ∧ H p = some (.tup (row.map spv)) ∧ row.length = m ∧ ∀ n, row[n]?.join = stepG gs pl n := by
  obtain ⟨ps, e, hp2⟩ := h
  have hl := hp2.length
  have h1 : ps[pl]? = some ps[pl] := List.getElem?_eq_getElem (by omega)
  have h2 : gs[pl]? = some gs[pl] := List.getElem?_eq_getElem hp
  refine ⟨_, ps[pl], gs[pl], e, by rw [List.getElem?_map, h1]; rfl, ?_, (hm.2 _ (List.getElem_mem hp)).1, fun n => ?_⟩
  · have := Lw.Paired.get (F := fun p (row : List (Option Nat)) => H p = some (.tup (row.map spv))) pl hp2 h1 h2
    exact this
  · unfold stepG
    rw [h2]
    rfl
def sp_row : Sp := fun vs H Q _ => ∃ (a pg gt c ac mo : Addr) (m st cnt : Nat) (ws : List Str) (xs : List (Str × Nat)) (ms : List V) (gs : List (List (Option Nat))), vs = [.ref a, .ref pg, .ref gt, .int (st : Int), .int (cnt : Int)] ∧ Hd H a m ∧ m + 10 * cnt ≤ 700000 ∧ cnt ≤ 60 ∧
  PrgP H pg c ac mo ws xs ms ∧ xs.length ≤ 4 ∧ (∀ x ∈ xs, x.2 ≤ 2) ∧ Gt H gt gs ∧ GOk xs.length gs ∧ st < gs.length ∧
  ∀ (p t : Addr) (us : List V) (ds : List PyData) (en : Nat) H', H' p = some (.tup [.ref t, .int (en : Int)]) → H' t = some (.tup us) → Deeds H' us ds → us.length ≤ cnt → (∀ d ∈ ds, IsDeed xs d) → en < gs.length → Hd H' a (m + 10 * cnt) → Kp a H H' → Q (.ref p) H'
theorem ok_row (T : Txt K mg) {k : Nat} : FnOk P w K mg base CX0 (k + 3) T.f__law_row T.fd__law_row ["_law_hand_here", "_law_prog_here", "_law_gate_here", "_law_stead", "_law_count"] sp_row := by
  have G__law_of := ok_of (P := P) (w := w) (base := base) T (k := k)
  have G__law_number := ok_number (P := P) (w := w) (base := base) T (k := k)
  refine T.F__law_row.ok (k := k + 2) sc__law_row (fun vs H Q E h => ?_) (fun cdv A outer s H vs Q E hr h => ?_)
  · obtain ⟨a, pg, gt, c, ac, mo, m, st, cnt, ws, xs, ms, gs, rfl, _⟩ := h
    rfl
  obtain ⟨a, pg, gt, c, ac, mo, m, st, cnt, ws, xs, ms, gs, rfl, ha, hm, hcnt, hpg, hx4, hx2, hgt, hgo, hst, q⟩ := h
  refine ⟨_, (pss_cons (ps_set (i := 5) sc__law_row.nd rfl (.inl rfl) (pe_lst pa_nil))
      (pss_cons (ps_for PassesOwn.never rfl (pi_range1 (by rfl) T.m_range (pa_cons (pv 4) pa_nil)) (pg_name (i := 6) sc__law_row.nd rfl (.inl rfl)) (pss_cons (ps_setLc (i := 8) (own := [("_law_spot", 7)]) (g := gName 7) rfl sc__law_row.nd rfl rfl (sw_true rfl rfl rfl (by decide +kernel)) (pi_range1 (by rfl) T.m_range (pa_cons (pe_callB call_len_seq (by rfl) T.m_len (by decide +kernel) (pa_cons (pe_ix ix_tup (pv 1) pe_int (fun _ _ => rfl)) pa_nil)) pa_nil)) (blkOk_by (N := ["_law_hand_here", "_law_prog_here", "_law_gate_here", "_law_stead", "_law_count", "_law_found", "_law_turn", "_law_spot", "_law_some", "_law_name", "_law_notes", "_law_number_here"]) (sc := defScope s__law_row) (by decide +kernel)) (fun _ _ _ _ _ => (pg_name (i := 7) sc__law_row.nd rfl (Or.inl rfl))) (fun _ _ _ _ _ => (pts_one (pt_cmp (pc_notN (pe_ix (ix_tupK (K := K)) (pe_ix (ix_tupK (K := K)) (pv 2) (pv 3) (fun _ _ => rfl)) (pv 7) (fun _ _ => rfl)))))) (fun _ _ _ _ _ => (pv 7)))
      (pss_one (ps_if (pt_cmpR (op_neL0 hr) (pv 8) (pe_lst pa_nil) (nomark _)) (pss_cons (ps_set (i := 7) sc__law_row.nd rfl (.inl rfl) (pe_call G__law_of hr (by rfl) T.g__law_of T.k__law_of T.b__law_of .nil pass0 (pa_cons (pv 0) (pa_cons (pv 8) pa_nil))))
      (pss_cons (ps_asg (pe_ix ix_tup (pe_ix ix_tup (pv 1) pe_int (fun _ _ => rfl)) (pv 7) (fun _ _ => rfl)) (pg_tup rfl (pgs_cons (pg_name (i := 9) sc__law_row.nd rfl (.inl rfl)) (pgs_cons (pg_name (i := 10) sc__law_row.nd rfl (.inl rfl)) pgs_nil))))
      (pss_cons (ps_expr (pe_bm PySem.F.plainAttrs_list PySem.F.slot_list_append PySem.F.type_list_append mt_append (pv 5) (pa_cons (pe_op op_catU (pe_tup (pa_cons (pv 9) pa_nil)) (pe_callTy call_tuple_of (by rfl) T.m_tuple (by decide +kernel) (pa_cons (pe_lc (own := [("_law_number_here", 11)]) (g := gName 11) (tt := tYes) rfl sc__law_row.nd (pi_range1 (by rfl) T.m_range (pa_cons (pv 10) pa_nil)) (blkOk_by (N := ["_law_hand_here", "_law_prog_here", "_law_gate_here", "_law_stead", "_law_count", "_law_found", "_law_turn", "_law_spot", "_law_some", "_law_name", "_law_notes", "_law_number_here"]) (sc := defScope s__law_row) (by decide +kernel)) (fun _ _ _ _ _ => (pg_name (i := 11) sc__law_row.nd rfl (Or.inl rfl))) (fun _ _ _ _ _ => pts_nil) (fun _ _ _ _ _ => (pe_call G__law_number hr (by rfl) T.g__law_number T.k__law_number T.b__law_number .nil pass0 (pa_cons (pv 0) pa_nil)))) pa_nil))) pa_nil)))
      (pss_one (ps_set (i := 3) sc__law_row.nd rfl (.inr rfl) (pe_ix ix_tup (pe_ix ix_tup (pv 2) (pv 3) (fun _ _ => rfl)) (pv 7) (fun _ _ => rfl))))))) pss_nil))))
      (pss_one (ps_ret (pe_tup (pa_cons (pe_callTy call_tuple_of (by rfl) T.m_tuple (by decide +kernel) (pa_cons (pv 5) pa_nil)) (pa_cons (pv 3) pa_nil))))))), ?_⟩
  refine ⟨(by show 0 ≤ sizeLine; decide), fun q0 n0 => ?_⟩
  have s0 := same_new (o := .lst []) n0
  have nqa : q0 ≠ a := ha.new n0
  refine ⟨_, rfl, _, rfl, by omega, by omega, for_range (lo := 0) (fun i σ H' => (∃ (pl : Nat) (y6 y7 y8 y9 y10 : Option V), σ = [some (.ref a), some (.ref pg), some (.ref gt), some (.int (pl : Int)), some (.int (cnt : Int)), some (.ref q0), y6, y7, y8, y9, y10, none] ∧ pl < gs.length) ∧ Hd H' a (m + 10 * i) ∧ Kp a H H' ∧ ∃ us ds, H' q0 = some (.lst us) ∧ us.length ≤ i ∧ Deeds H' us ds ∧ ∀ d ∈ ds, IsDeed xs d) ?_ ?_ ?_⟩
  · exact ⟨⟨st, _, _, _, _, _, rfl, hst⟩, ha.same s0, Kp.of_same s0, [], [], upd_same, Nat.le_refl 0, .nil, by intro d h; cases h⟩
  · rintro i σ H1 hi ⟨⟨pl, y6, y7, y8, y9, y10, rfl, hpl⟩, g1, k1, us, ds, eq, lus, hds, hid⟩
    have hi' : i < cnt := by omega
    have tk1 := TK.of_kp k1 ha
    have hpg1 := hpg.tk tk1
    have hgt1 := hgt.tk tk1
    obtain ⟨gx, gp, row, egt, egp, erow, lrow, hrow⟩ := hgt1.at hgo hpl
    obtain ⟨ps, eac, hps⟩ := hpg1.as
    have lps := hps.length
    -- the spots
    refine ⟨_, rfl, pg, _, 1, _, rfl, rfl, SqT.of hpg1.e, rfl, ac, _, rfl, .inr (SqT.of eac), ?_⟩
    have lpm : (ps.map V.ref).length = xs.length := by rw [List.length_map]; exact lps
    refine ⟨_, rfl, by omega, by omega, fun D1 nD => ?_⟩
    refine Lw.lc_range (lo := 0) (n := ((((ps.map V.ref).length : Nat) : Int)).toNat) (fun j H' => Same H1 H' ∧ ∃ ks : List Nat, H' D1 = some (.lst (ks.map natV)) ∧ ks.length ≤ j ∧ ∀ k ∈ ks, k < xs.length ∧ ∃ pl', stepG gs pl k = some pl') ?_ ?_ ?_
    · exact ⟨same_new nD, [], upd_same, Nat.le_refl 0, by intro x h; cases h⟩
    · rintro j H2 hj ⟨s2, ks, ed, lk, hks⟩
      have hj' : j < row.length := by omega
      have ej : (0 : Int) + (j : Int) = ((j : Nat) : Int) := Int.zero_add _
      refine ⟨rfl, ?_⟩
      obtain ⟨o, hro⟩ : ∃ o, row[j]? = some o := ⟨_, List.getElem?_eq_getElem hj'⟩
      have hst2 := hrow j
      rw [hro, Option.join_some] at hst2
      refine ⟨_, rfl, _, rfl, gt, gx, ((pl : Nat) : Int), .ref gp, rfl, rfl, SqT.of (s2 _ _ egt), atI_nat egp, _, rfl, gp, _, ((j : Nat) : Int), spv o, rfl, congrArg V.int ej, SqT.of (s2 _ _ erow), atI_nat (by rw [List.getElem?_map, hro]; rfl), _, rfl, ?_⟩
      cases o with
      | none => exact iteF ⟨s2, ks, ed, by omega, hks⟩
      | some k' =>
        refine iteT ⟨_, rfl, ks.map natV, ed, Nat.lt_of_le_of_lt (show (ks.map natV).length ≤ 1000 by rw [List.length_map]; omega) (by decide), ?_, ks ++ [j], ?_, by rw [List.length_append, List.length_singleton]; omega, ?_⟩
        · intro b o e
          have nb : b ≠ D1 := fun z => by
            rw [z, nD] at e
            cases e
          rw [upd_ne nb]
          exact s2 _ _ e
        · rw [upd_same, List.map_append, ej]
          rfl
        · intro k hk
          rcases List.mem_append.mp hk with z | z
          · exact hks k z
          · rw [List.mem_singleton.mp z]
            exact ⟨by omega, k', hst2.symm⟩
    · rintro H2 ⟨s2, ks, ed, lk, hks⟩
      have tk2 := TK.of_same s2
      have g2 := g1.same s2
      refine ⟨_, rfl, (by show 0 ≤ sizeLine; decide), fun e0 ne0 => ⟨D1, e0, _, rfl, rfl, same_new ne0 _ _ ed, upd_same, _, rfl, ?_⟩⟩
      have t3 := same_new (o := .lst []) ne0
      have g3 := g2.same t3
      have k13 := (Kp.of_same (a := a) s2).trans (Kp.of_same t3)
      have nDa : D1 ≠ a := g1.new nD
      by_cases c0 : (ks.map natV).length = 0
      · rw [decide_eq_true c0]
        refine iteF ⟨⟨pl, _, _, _, _, _, rfl, hpl⟩, g3.mono (by omega), k1.trans k13, us, ds, k13 _ _ nqa eq, by omega, hds.tk (TK.of_kp k13 g1), hid⟩
      · rw [decide_eq_false c0]
        refine iteT ?_
        refine ⟨_, rfl, _, rfl, a, D1, _, _, rfl, g3, by omega, t3 _ _ ed, nDa, by omega, by rw [List.length_map]; omega, fun v H4 hv g4 k4 => ?_⟩
        obtain ⟨sp, hsp, rfl⟩ := List.mem_map.mp hv
        obtain ⟨hs1, pl', hpl'⟩ := hks sp hsp
        have k14 := k13.trans k4
        have u4 := TK.of_kp k14 g1
        have hx1 : xs[sp]? = some xs[sp] := List.getElem?_eq_getElem hs1
        have hp1 : ps[sp]? = some ps[sp] := List.getElem?_eq_getElem (by omega)
        have ap := Lw.Paired.get (F := Act H1) sp hps hp1 hx1
        have eap := u4 _ _ ap
        have hmem : xs[sp] ∈ xs := List.getElem_mem hs1
        generalize xs[sp] = xx at hx1 ap eap hmem
        refine ⟨_, rfl, pg, _, 1, _, rfl, rfl, SqT.of (u4 _ _ hpg1.e), rfl, _, rfl, ac, _, ((sp : Nat) : Int), _, rfl, rfl, SqT.of (u4 _ _ eac), atI_nat (by rw [List.getElem?_map, hp1]; rfl), ?_⟩
        refine ⟨ps[sp], _, rfl, SqT.of eap, rfl, _, _, rfl, _, _, rfl, rfl, ?_⟩
        have eq4 := k14 _ _ nqa eq
        have c2 := hx2 xx hmem
        refine ⟨_, rfl, .inl ⟨rfl, _, SqL.of eq4⟩, _, rfl, (by show 1 ≤ sizeLine; decide), fun p1 n1 => ⟨_, rfl, _, rfl, by omega, by omega, fun D2 nD2 => ?_⟩⟩
        have t5 := same_new (o := .tup [.str xx.1]) n1
        have g5 := g4.same t5
        have nD2a : D2 ≠ a := g5.new nD2
        refine Lw.lc_range (lo := 0) (n := ((xx.2 : Int)).toNat) (fun j H' => Hd H' a (m + 10 * i + 1 + 3 * j) ∧ Kp a (upd H4 p1 (.tup [.str xx.1])) H' ∧ ∃ is : List Int, H' D2 = some (.lst (is.map V.int)) ∧ is.length = j ∧ ∀ z ∈ is, z.natAbs < 10 ^ 60) ?_ ?_ ?_
        · exact ⟨g5.same (same_new nD2), Kp.of_same (same_new nD2), [], upd_same, rfl, by intro z h; cases h⟩
        · rintro j H6 hj ⟨g6, k6, is, ei, li, his⟩
          refine ⟨rfl, ?_⟩
          dsimp only [tYes]
          refine iteT ?_
          refine ⟨_, rfl, a, _, rfl, g6, by omega, fun num H7 hnum g7 k7 => ?_⟩
          have e7 := k7 _ _ nD2a ei
          refine ⟨_, e7, Nat.lt_of_le_of_lt (show (is.map V.int).length ≤ 1000 by rw [List.length_map]; omega) (by decide), (g7.at nD2a).mono (by omega), (k6.trans k7).free nD2, is ++ [num], by rw [upd_same, List.map_append]; rfl, by rw [List.length_append, li]; rfl, ?_⟩
          intro z hz
          rcases List.mem_append.mp hz with y | y
          · exact his z y
          · rw [List.mem_singleton.mp y]
            exact hnum
        · rintro H6 ⟨g6, k6, is, ei, li, his⟩
          have li' : is.length = xx.2 := by omega
          refine ⟨D2, _, rfl, .inl ⟨SqL.of ei, fun p2 n2 => ?_⟩⟩
          have t7 := same_new (o := .tup (is.map V.int)) n2
          have e1 := t7 _ _ ((TK.of_kp k6 g5) _ _ (made n1))
          refine ⟨p1, p2, _, _, rfl, rfl, e1, made n2, Nat.le_trans (show 1 + (is.map V.int).length ≤ 1000 by rw [List.length_map]; omega) (by decide), fun p3 H7 s7 e7 o7 => ?_⟩
          have k57 := (Kp.of_same (a := a) t5).trans (k6.trans (Kp.of_same (t7.trans s7)))
          have k17 := k14.trans k57
          have eq7 := k17 _ _ nqa eq
          have u7 := TK.of_kp k17 g1
          have tk8 : TK H7 (upd H7 q0 (.lst (us ++ [.ref p3]))) := TK.at eq7
          refine ⟨q0, us, .ref p3, rfl, rfl, eq7, Nat.lt_of_le_of_lt (show us.length ≤ 1000 by omega) (by decide), ?_⟩
          refine ⟨_, rfl, _, rfl, gt, gx, ((pl : Nat) : Int), .ref gp, rfl, rfl, SqT.of (tk8 _ _ (u7 _ _ egt)), atI_nat egp, _, rfl, gp, _, ((sp : Nat) : Int), spv (some pl'), rfl, rfl, SqT.of (tk8 _ _ (u7 _ _ erow)), atI_nat ?_, ⟨pl', _, _, _, _, _, rfl, stepG_lt hgo hpl'⟩, ((((g6.same t7).same s7)).at nqa).mono (by omega), (k1.trans k17).free n0, us ++ [.ref p3], ds ++ [deedD xx.1 is], upd_same, by rw [List.length_append, List.length_singleton]; omega, ?_, ?_⟩
          · have hh := hrow sp
            rw [hpl'] at hh
            rw [List.getElem?_map]
            cases hr5 : row[sp]? with
            | none =>
              rw [hr5] at hh
              cases hh
            | some o =>
              rw [hr5, Option.join_some] at hh
              rw [hh]
              rfl
          · exact Lw.Paired.app ((hds.tk u7).tk tk8) (.cons ⟨p3, xx.1, is, rfl, rfl, tk8 _ _ e7⟩ .nil)
          · intro d hd
            rcases List.mem_append.mp hd with y | y
            · exact hid d y
            · rw [List.mem_singleton.mp y]
              refine ⟨xx.1, is, rfl, ?_, his⟩
              rw [li']
              exact hmem
  · rintro σ H1 ⟨⟨pl, y6, y7, y8, y9, y10, rfl, hpl⟩, g1, k1, us, ds, eq, lus, hds, hid⟩
    refine ⟨_, rfl, q0, us, rfl, .inl ⟨SqL.of eq, fun t nt => ⟨_, rfl, (by show 2 ≤ sizeLine; decide), fun p np => ?_⟩⟩⟩
    have t1 := same_new (o := .tup us) nt
    have t2 := same_new (o := .tup [.ref t, .int (pl : Int)]) np
    exact q p t us ds pl _ (made np) (t2 _ _ (made nt)) (hds.tk (TK.of_same (t1.trans t2))) (by omega) hid hpl (((g1.same t1).same t2).mono (by omega)) (k1.trans (Kp.of_same (t1.trans t2)))
end

end Z

namespace Z
open PySem PySem.Spec PyProof.Rows L2 Lw

section
variable {P : Program} {w : World} {K : PySem.W.Frag} {mg : Str → Option Value} {base : Heap}
/-- a thing that is not too large -/
def Gd (L : List Addr) (N W B : Nat) (H : Hp) (u : V) : Prop := ∃ d, D true (remL L H) u d ∧ Bd N W d ∧ inB B d = true
theorem Gd.same {L : List Addr} {N W B : Nat} {H H' : Hp} {u : V} (h : Gd L N W B H u) (s : Same H H') : Gd L N W B H' u := by
  obtain ⟨d, a, b, c⟩ := h
  exact ⟨d, a.same (same_remL s), b, c⟩
theorem Gd.kp {L : List Addr} {N W B : Nat} {a : Addr} {H H' : Hp} {u : V} (h : Gd L N W B H u) (ha : a ∈ L) (k : Kp a H H') : Gd L N W B H' u := by
  obtain ⟨d, x, b, c⟩ := h
  exact ⟨d, x.same (k.remL ha), b, c⟩
theorem Gd.mono {L : List Addr} {N W B N' W' B' : Nat} {H : Hp} {u : V} (h : Gd L N W B H u) (h1 : N ≤ N') (h2 : W ≤ W') (h3 : B ≤ B') : Gd L N' W' B' H u := by
  obtain ⟨d, x, b, c⟩ := h
  exact ⟨d, x, b.mono h1 h2, inB_mono h3 d c⟩
theorem inB_small {B : Nat} {i : Int} (h : i.natAbs < B) : inB B (.int i) = true := by
  simp only [inB, decide_eq_true_eq]
  exact h
theorem str_codes (s : String) : ∀ c ∈ (Str.ofString s).cps.toList, c < 16 ^ 8 := by
  intro c hc
  have e : (Str.ofString s).cps.toList = s.toList.map Char.toNat := PyProof.Rows.signs_ofString s
  rw [e] at hc
  obtain ⟨x, _, rfl⟩ := List.mem_map.mp hc
  have h := x.valid
  have : x.toNat < 1114112 := by
    rcases h with h | ⟨_, h⟩
    · exact Nat.lt_trans h (by decide)
    · exact h
  exact Nat.lt_trans this (by decide)
theorem mem_rep {k : Nat} {xs : List V} {u : V} (h : u ∈ (List.replicate k xs).flatten) : u ∈ xs := by
  obtain ⟨l, hl, hu⟩ := List.mem_flatten.mp h
  rw [(List.mem_replicate.mp hl).2] at hu
  exact hu
theorem len_rep {k : Nat} {xs : List V} : (List.replicate k xs).flatten.length = k * xs.length := by
  rw [List.length_flatten, List.map_replicate, List.sum_replicate_nat]
def sp_odd : Sp := fun vs H Q _ => ∃ (a : Addr) (n : Nat) (L : List Addr) (v : V) (nn W B : Nat), vs = [.ref a, v] ∧ Hd H a n ∧ n + 1 ≤ 800000 ∧ a ∈ L ∧ Trk L H ∧ Gd L nn W B H v ∧ W ≤ 30000 ∧ 10 ≤ B ∧ B ≤ 10 ^ 61 ∧
  ∀ v' H', Gd L (nn + 1) (2 * W + 220) (B + 1) H' v' → Hd H' a (n + 1) → Kp a H H' → Q v' H'
theorem ok_odd (T : Txt K mg) {k : Nat} : FnOk P w K mg base CX0 (k + 3) T.f__law_odd T.fd__law_odd ["_law_hand_here", "_law_item"] sp_odd := by
  have G__law_of := ok_of (P := P) (w := w) (base := base) T (k := k)
  refine T.F__law_odd.ok (k := k + 2) sc__law_odd (fun vs H Q E h => ?_) (fun cdv A outer s H vs Q E hr h => ?_)
  · obtain ⟨a, n, L, v, nn, W, B, rfl, _⟩ := h
    rfl
  obtain ⟨a, n, L, v, nn, W, B, rfl, ha, hn, hm, tr, ⟨d, hd, bd, hb⟩, hW, hB1, hB2, q⟩ := h
  refine ⟨_, (pss_cons (ps_set (i := 2) sc__law_odd.nd rfl (.inl rfl) (pe_lst (pa_cons pe_non (pa_cons pe_bl (pa_cons pe_bl (pa_cons pe_int (pa_cons pe_int (pa_cons (pe_un un_neg pe_int) (pa_cons pe_int (pa_cons pe_str (pa_cons pe_str (pa_cons (pe_tup pa_nil) (pa_cons (pe_lstN pa_nil) (pa_cons pe_dnewK (pa_cons (pe_tup (pa_cons pe_int pa_nil)) (pa_cons (pe_tup (pa_cons pe_str pa_nil)) (pa_cons (pe_lstN (pa_cons (pv 1) pa_nil)) (pa_cons (pe_tup (pa_cons (pv 1) pa_nil)) pa_nil))))))))))))))))))
      (pss_cons (ps_if (pt_val (pe_callB call_isi (by rfl) T.m_isinstance (by decide +kernel) (pa_cons (pv 1) (pa_cons (pe_bltn (v := .ty "tuple") (by rfl) T.m_tuple (by decide +kernel) rfl) pa_nil)))) (pss_one (ps_set (i := 2) sc__law_odd.nd rfl (.inl rfl) (pe_op op_cat (pv 2) (pe_op op_rep (pe_lst (pa_cons (pe_callTy call_listN (by rfl) T.m_list (by decide +kernel) (pa_cons (pv 1) pa_nil)) (pa_cons (pe_op op_catU (pv 1) (pe_slice sl_U (pv 1) (po_some (pe_un un_neg pe_int)) po_none)) (pa_cons (pe_slice sl_U (pv 1) po_none (po_some (pe_un un_neg pe_int))) (pa_cons (pe_revT (pv 1)) (pa_cons (pe_slice sl_U (pv 1) (po_some pe_int) po_none) pa_nil)))))) pe_int)))) pss_nil)
      (pss_cons (ps_if (pt_val (pe_callB call_isi (by rfl) T.m_isinstance (by decide +kernel) (pa_cons (pv 1) (pa_cons (pe_bltn (v := .ty "int") (by rfl) T.m_int (by decide +kernel) rfl) pa_nil)))) (pss_one (ps_set (i := 2) sc__law_odd.nd rfl (.inl rfl) (pe_op op_cat (pv 2) (pe_op op_rep (pe_lst (pa_cons (pe_op op_addN (pv 1) pe_int) (pa_cons (pe_op op_subN (pv 1) pe_int) (pa_cons (pe_cmpR op_eqN (pv 1) pe_int (nomark _)) (pa_cons (pe_callTy call_strN (by rfl) T.m_str (by decide +kernel) (pa_cons (pv 1) pa_nil)) (pa_cons (pe_op op_subM pe_int (pv 1)) pa_nil)))))) pe_int)))) pss_nil)
      (pss_cons (ps_if (pt_val (pe_callB call_isi (by rfl) T.m_isinstance (by decide +kernel) (pa_cons (pv 1) (pa_cons (pe_bltn (v := .ty "str") (by rfl) T.m_str (by decide +kernel) rfl) pa_nil)))) (pss_one (ps_set (i := 2) sc__law_odd.nd rfl (.inl rfl) (pe_op op_cat (pv 2) (pe_op op_rep (pe_lst (pa_cons (pe_op op_add_str (pv 1) pe_str) (pa_cons (pe_slice sl_str (pv 1) (po_some pe_int) po_none) (pa_cons (pe_slice sl_str (pv 1) po_none (po_some (pe_un un_neg pe_int))) (pa_cons (pe_op op_add_str (pv 1) pe_str) (pa_cons (pe_tup (pa_cons (pv 1) (pa_cons pe_int pa_nil))) pa_nil)))))) pe_int)))) pss_nil)
      (pss_one (ps_ret (pe_call G__law_of hr (by rfl) T.g__law_of T.k__law_of T.b__law_of .nil pass0 (pa_cons (pv 0) (pa_cons (pv 2) pa_nil))))))))), ?_⟩
  have gv : ∀ {H' : Hp}, Same H H' → Gd L (nn + 1) (2 * W + 220) (B + 1) H' v := fun s' => ⟨d, hd.same (same_remL s'), bd.mono (by omega) (by omega), inB_mono (by omega) d hb⟩
  have flat : ∀ {H' : Hp} {u : V} {e : PyData}, D true (remL L H') u e → (e = .none ∨ (∃ b, e = .bool b) ∨ e = .str "" ∨ e = .str "0" ∨ e = .tuple [] ∨ e = .list [] ∨ e = .dict []) → inB (B + 1) e = true → Gd L (nn + 1) (2 * W + 220) (B + 1) H' u := fun x y z => ⟨_, x, Bd.flat0 y (by omega) (by omega), z⟩
  have num : ∀ {H' : Hp} (i : Int), i.natAbs < B + 1 → Gd L (nn + 1) (2 * W + 220) (B + 1) H' (.int i) := fun i hi => ⟨_, .int i, (Bd.int (n := nn + 1) (Nat.lt_of_lt_of_le hi (Nat.le_trans (Nat.succ_le_succ hB2) (by decide +kernel)))).mono (Nat.le_refl _) (by omega), inB_small hi⟩
  have txt : ∀ {H' : Hp} (z : Str), Bd 0 (W + 70) (.str z) → Gd L (nn + 1) (2 * W + 220) (B + 1) H' (.str z) := fun z hz => ⟨_, .str z, hz.mono (by omega) (by omega), by simp [inB]⟩
  -- the first things
  refine later3 (fun σ Hx => ∃ so us, σ = [some (.ref a), some v, some (.ref so)] ∧ Hx so = some (.lst us) ∧ us.length = 16 ∧ so ≠ a ∧ (∀ u ∈ us, Gd L (nn + 1) (2 * W + 220) (B + 1) Hx u) ∧ Same H Hx) (fun rest => ?_) ?_
  · refine ⟨_, rfl, (by show 0 ≤ sizeLine; decide), fun p1 n1 => ⟨(by show 0 ≤ sizeLine; decide), fun p2 n2 w2 => ?_⟩⟩
    intro p3 n3
    refine ⟨(by show 1 ≤ sizeLine; decide), fun p4 n4 => ⟨(by show 1 ≤ sizeLine; decide), fun p5 n5 => ⟨_, rfl, (by show 1 ≤ sizeLine; decide), fun p6 n6 w6 => ⟨_, rfl, (by show 1 ≤ sizeLine; decide), fun p7 n7 => ⟨(by show 16 ≤ sizeLine; decide), fun so nso => ?_⟩⟩⟩⟩⟩
    have e1 := same_new (o := .tup []) n1
    have e2 := same_new (o := .lst []) n2
    have e3 := same_new (o := .dK []) n3
    have e4 := same_new (o := .tup [.int 0]) n4
    have e5 := same_new (o := .tup [.str "none"]) n5
    have e6 := same_new (o := .lst [v]) n6
    have e7 := same_new (o := .tup [v]) n7
    have e8 := same_new (o := .lst [.non, .bl true, .bl false, .int 0, .int 1, .int (-1), .int 7, .str "", .str "none", .ref p1, .ref p2, .ref p3, .ref p4, .ref p5, .ref p6, .ref p7]) nso
    have t1 := tr.same e1
    have t2 := t1.same e2
    have t3 := t2.same e3
    have t4 := t3.same e4
    have t5 := t4.same e5
    have t6 := t5.same e6
    have t7 := t6.same e7
    have sA := e1.trans (e2.trans (e3.trans (e4.trans (e5.trans (e6.trans (e7.trans e8))))))
    have g1 := same_remL (as := L) (e2.trans (e3.trans (e4.trans (e5.trans (e6.trans (e7.trans e8)))))) _ _ (remL_new tr n1)
    have g2 := same_remL (as := L) (e3.trans (e4.trans (e5.trans (e6.trans (e7.trans e8))))) _ _ (remL_new t1 n2)
    have g3 := same_remL (as := L) (e4.trans (e5.trans (e6.trans (e7.trans e8)))) _ _ (remL_new t2 n3)
    have g4 := same_remL (as := L) (e5.trans (e6.trans (e7.trans e8))) _ _ (remL_new t3 n4)
    have g5 := same_remL (as := L) (e6.trans (e7.trans e8)) _ _ (remL_new t4 n5)
    have g6 := same_remL (as := L) (e7.trans e8) _ _ (remL_new t5 n6)
    have g7 := same_remL (as := L) e8 _ _ (remL_new t6 n7)
    have hdA := hd.same (same_remL sA)
    refine rest _ _ ⟨so, _, rfl, made nso, rfl, fun z => (t7.new nso) (z ▸ hm), fun u hu => ?_, sA⟩
    simp only [List.mem_cons, List.not_mem_nil, or_false] at hu
    rcases hu with e | e | e | e | e | e | e | e | e | e | e | e | e | e | e | e
    · rw [e]; exact flat .non (.inl rfl) (by simp [inB])
    · rw [e]; exact flat (.bl _) (.inr (.inl ⟨_, rfl⟩)) (by simp [inB])
    · rw [e]; exact flat (.bl _) (.inr (.inl ⟨_, rfl⟩)) (by simp [inB])
    · rw [e]; exact num 0 (by omega)
    · rw [e]; exact num 1 (by omega)
    · rw [e]; exact num (-1) (by omega)
    · rw [e]; exact num 7 (by omega)
    · rw [e]; exact flat (.str _) (.inr (.inr (.inl rfl))) (by simp [inB])
    · rw [e]; exact txt _ ((bd_word (n := 0) (.inl rfl)).mono (Nat.le_refl _) (by omega))
    · rw [e]; exact flat (.tup g1 .nil) (.inr (.inr (.inr (.inr (.inl rfl))))) (by simp [inB, inBAll])
    · rw [e]; exact flat (.lst g2 (fun _ => w2) .nil) (.inr (.inr (.inr (.inr (.inr (.inl rfl)))))) (by simp [inB, inBAll])
    · rw [e]; exact flat (.dct (ds := []) g3 .nil) (.inr (.inr (.inr (.inr (.inr (.inr rfl)))))) (by simp [inB, inBKv])
    · rw [e]; exact ⟨_, .tup g4 (.cons (.int 0) .nil), (BA.one (Bd.small (n := nn) (i := 0) (by decide))).tuple.mono (Nat.le_refl _) (by omega), by simp [inB, inBAll]⟩
    · rw [e]; exact ⟨_, .tup g5 (.cons (.str _) .nil), (BA.one (bd_word (n := nn) (.inl rfl))).tuple.mono (Nat.le_refl _) (by omega), by simp [inB, inBAll]⟩
    · rw [e]; exact ⟨_, .lst g6 (fun _ => w6) (.cons hdA .nil), (BA.one bd).list.mono (Nat.le_refl _) (by omega), inB_lst.mpr fun x hx => by rw [List.mem_singleton.mp hx]; exact inB_mono (by omega) d hb⟩
    · rw [e]; exact ⟨_, .tup g7 (.cons hdA .nil), (BA.one bd).tuple.mono (Nat.le_refl _) (by omega), inB_tup.mpr fun x hx => by rw [List.mem_singleton.mp hx]; exact inB_mono (by omega) d hb⟩
  rintro σ H1 ⟨so, us, rfl, eso, lus, nsa, hus, s1⟩
  -- a tuple
  refine later3 (fun σ Hx => ∃ so us, σ = [some (.ref a), some v, some (.ref so)] ∧ Hx so = some (.lst us) ∧ 16 ≤ us.length ∧ us.length ≤ 31 ∧ so ≠ a ∧ (∀ u ∈ us, Gd L (nn + 1) (2 * W + 220) (B + 1) Hx u) ∧ Same H Hx) (fun rest => ?_) ?_
  · have hdx := hd.same (same_remL s1)
    refine ⟨v, rfl, v, _, _, _, _, rfl, .ty _, (hdx.same remL_same).ty, kit_tup d, _, rfl, ite2 (fun c => ?_) (fun c => ?_)⟩
    · obtain ⟨ds, rfl⟩ : ∃ ds, d = .tuple ds := by
        cases d with
        | tuple ds => exact ⟨ds, rfl⟩
        | _ => cases c
      obtain ⟨ba, bx⟩ := bd.ofTup
      have hib := inB_tup.mp (inB_mono (show B ≤ B + 1 by omega) _ hb)
      have hle : ds.length ≤ W := by
        have := len_le_wa ds
        have := ba.wt
        omega
      have small : ∀ x : Nat, x ≤ 100000 → x ≤ sizeLine := fun x h => Nat.le_trans h (by decide)
      have trx := tr.same s1
      obtain ⟨b, rfl, nb, xs, ex, da⟩ := Tp.of hdx
      have hl := da.length
      have c1 := fun (lo hi : Option Int) => cutV_le xs lo hi
      refine ⟨_, rfl, _, rfl, b, xs, rfl, ex, fun p1 n1 w1 => ?_⟩
      have s2 := same_new (o := .lst xs) n1
      have t1 := trx.same s2
      refine ⟨_, rfl, _, rfl, _, rfl, _, rfl, b, xs, rfl, s2 _ _ ex, fun p3 H3 s3 e3 o3 => ?_⟩
      have z3 := Tp.cut nb (da.same (same_remL s2)) t1 s3 e3 o3
      have t3 := t1.same s3
      have s13 := s2.trans s3
      refine ⟨b, p3, _, _, rfl, rfl, s13 _ _ ex, e3, small _ (by have := c1 (some (-1)) none; omega), fun p4 H4 s4 e4 o4 => ?_⟩
      have z4 := Tp.cat nb z3.1 (da.same (same_remL s13)) ((da.cut (some (-1)) none).same (same_remL s13)) t3 s4 e4 o4
      have t4 := t3.same s4
      have s14 := s13.trans s4
      refine ⟨_, rfl, _, rfl, _, rfl, b, xs, rfl, s14 _ _ ex, fun p5 H5 s5 e5 o5 => ?_⟩
      have z5 := Tp.cut nb (da.same (same_remL s14)) t4 s5 e5 o5
      have t5 := t4.same s5
      have s15 := s14.trans s5
      refine ⟨_, rfl, b, xs, rfl, SqT.of (s15 _ _ ex), fun p6 n6 => ?_⟩
      have s6 := same_new (o := .tup xs.reverse) n6
      have t6 := t5.same s6
      have s16 := s15.trans s6
      refine ⟨_, rfl, _, rfl, b, xs, rfl, s16 _ _ ex, fun p7 H7 s7 e7 o7 => ?_⟩
      have z7 := Tp.cut nb (da.same (same_remL s16)) t6 s7 e7 o7
      have t7 := t6.same s7
      have s17 := s16.trans s7
      refine ⟨(by show 5 ≤ sizeLine; decide), fun p8 n8 => ?_⟩
      have s8 := same_new (o := .lst [.ref p1, .ref p4, .ref p5, .ref p6, .ref p7]) n8
      refine ⟨p8, 3, _, rfl, rfl, made n8, by decide, by decide, (by show 5 * 3 ≤ sizeLine; decide), fun p9 n9 => ?_⟩
      have s9 := same_new (o := .lst (List.replicate (3 : Int).toNat [.ref p1, .ref p4, .ref p5, .ref p6, .ref p7]).flatten) n9
      have s19 := s17.trans (s8.trans s9)
      refine ⟨so, p9, us, _, rfl, rfl, s19 _ _ eso, made n9, Nat.le_trans (show us.length + 15 ≤ 1000 by omega) (by decide), fun q1 nq => ?_⟩
      have sq := same_new (o := .lst (us ++ (List.replicate (3 : Int).toNat [.ref p1, .ref p4, .ref p5, .ref p6, .ref p7]).flatten)) nq
      have sA := s19.trans sq
      have daA := da.same (same_remL sA)
      have gR := same_remL (as := L) (s7.trans (s8.trans (s9.trans sq))) _ _ (remL_new t5 n6)
      refine rest _ _ ⟨q1, _, rfl, made nq, by rw [List.length_append]; omega, by rw [List.length_append]; show us.length + 15 ≤ 31; omega, fun z => ((t7.same s8).same s9).new nq (z ▸ hm), fun u hu => ?_, s1.trans sA⟩
      rcases List.mem_append.mp hu with z | z
      · exact (hus u z).same sA
      have hu5 := mem_rep z
      simp only [List.mem_cons, List.not_mem_nil, or_false] at hu5
      rcases hu5 with e | e | e | e | e
      · rw [e]
        exact ⟨.list ds, .lst (same_remL (s3.trans (s4.trans (s5.trans (s6.trans (s7.trans (s8.trans (s9.trans sq))))))) _ _ (remL_new trx n1)) (fun _ => w1) daA, ba.list.mono (Nat.le_refl _) (by omega), inB_lst.mpr hib⟩
      · rw [e]
        exact ⟨_, (z4.same (s5.trans (s6.trans (s7.trans (s8.trans (s9.trans sq)))))).d, (ba.append (ba.cut _ _)).tuple.mono (Nat.le_refl _) (by omega), inB_tup.mpr fun x hx => by
          rcases List.mem_append.mp hx with y | y
          · exact hib x y
          · exact hib x (cutD_mem y)⟩
      · rw [e]
        exact ⟨_, (z5.same (s6.trans (s7.trans (s8.trans (s9.trans sq))))).d, (ba.cut _ _).tuple.mono (Nat.le_refl _) (by omega), inB_tup.mpr fun x hx => hib x (cutD_mem hx)⟩
      · rw [e]
        exact ⟨.tuple ds.reverse, .tup gR daA.rev, ba.rev.tuple.mono (Nat.le_refl _) (by omega), inB_tup.mpr fun x hx => hib x (List.mem_reverse.mp hx)⟩
      · rw [e]
        exact ⟨_, (z7.same (s8.trans (s9.trans sq))).d, (ba.cut _ _).tuple.mono (Nat.le_refl _) (by omega), inB_tup.mpr fun x hx => hib x (cutD_mem hx)⟩
    · exact rest _ _ ⟨so, us, rfl, eso, by omega, by omega, nsa, hus, s1⟩
  clear eso lus nsa hus s1 so us
  rintro σ H1 ⟨so, us, rfl, eso, lus, lus2, nsa, hus, s1⟩
  -- a number
  refine later3 (fun σ Hx => ∃ so us, σ = [some (.ref a), some v, some (.ref so)] ∧ Hx so = some (.lst us) ∧ 16 ≤ us.length ∧ us.length ≤ 41 ∧ so ≠ a ∧ (∀ u ∈ us, Gd L (nn + 1) (2 * W + 220) (B + 1) Hx u) ∧ Same H Hx) (fun rest => ?_) ?_
  · have hdx := hd.same (same_remL s1)
    refine ⟨v, rfl, v, _, _, _, _, rfl, .ty _, (hdx.same remL_same).ty, kit_int d, _, rfl, ite2 (fun c => ?_) (fun c => ?_)⟩
    · obtain ⟨i, hi, hiB, hsv⟩ : ∃ i, isN v i ∧ i.natAbs < B ∧ Bd 0 (W + 70) (.str (strN v)) := by
        cases hd with
        | int i =>
          simp only [inB, decide_eq_true_eq] at hb
          refine ⟨i, .inl rfl, hb, bd_chars (str_codes _) ?_⟩
          have := int_short (i := i) (Nat.lt_of_lt_of_le hb (Nat.le_trans hB2 (by decide +kernel)))
          exact Nat.le_trans this (by omega)
        | bl b =>
          refine ⟨_, .inr ⟨b, rfl, rfl⟩, ?_, bd_chars (str_codes _) ?_⟩
          · cases b <;> show _ < B <;> simp <;> omega
          · cases b <;> exact Nat.le_trans (by decide : _ ≤ 10) (by omega)
        | _ => cases c
      have hlog : i.natAbs.log2 < 1920 := PySem.Flt.log2_lt_of (by decide) (Nat.lt_of_lt_of_le hiB (Nat.le_trans hB2 (by decide +kernel)))
      refine ⟨_, rfl, _, rfl, i, 1, hi, rfl, _, rfl, i, 1, hi, rfl, _, rfl, ⟨i, 1, hi, rfl, ?_⟩⟩
      refine ⟨_, rfl, v, i, rfl, hi, hlog, _, rfl, 0, i, rfl, hi, (by show 5 ≤ sizeLine; decide), fun p8 n8 => ?_⟩
      have s8 := same_new (o := .lst [.int (i + 1), .int (i - 1), .bl (i == 1), .str (strN v), .int (0 - i)]) n8
      refine ⟨p8, 2, _, rfl, rfl, made n8, by decide, by decide, (by show 5 * 2 ≤ sizeLine; decide), fun p9 n9 => ?_⟩
      have s9 := same_new (o := .lst (List.replicate (2 : Int).toNat [.int (i + 1), .int (i - 1), .bl (i == 1), .str (strN v), .int (0 - i)]).flatten) n9
      have s19 := s8.trans s9
      refine ⟨so, p9, us, _, rfl, rfl, s19 _ _ eso, made n9, Nat.le_trans (show us.length + 10 ≤ 1000 by omega) (by decide), fun q1 nq => ?_⟩
      have sq := same_new (o := .lst (us ++ (List.replicate (2 : Int).toNat [.int (i + 1), .int (i - 1), .bl (i == 1), .str (strN v), .int (0 - i)]).flatten)) nq
      have sA := s19.trans sq
      refine rest _ _ ⟨q1, _, rfl, made nq, by rw [List.length_append]; omega, by rw [List.length_append]; show us.length + 10 ≤ 41; omega, fun z => (((tr.same s1).same s8).same s9).new nq (z ▸ hm), fun u hu => ?_, s1.trans sA⟩
      rcases List.mem_append.mp hu with z | z
      · exact (hus u z).same sA
      have hu5 := mem_rep z
      simp only [List.mem_cons, List.not_mem_nil, or_false] at hu5
      rcases hu5 with e | e | e | e | e
      · rw [e]; exact num _ (by omega)
      · rw [e]; exact num _ (by omega)
      · rw [e]; exact flat (.bl _) (.inr (.inl ⟨_, rfl⟩)) (by simp [inB])
      · rw [e]; exact txt _ hsv
      · rw [e]; exact num _ (by omega)
    · exact rest _ _ ⟨so, us, rfl, eso, by omega, by omega, nsa, hus, s1⟩
  clear eso lus lus2 nsa hus s1 so us
  rintro σ H1 ⟨so, us, rfl, eso, lus, lus2, nsa, hus, s1⟩
  -- a text
  refine later3 (fun σ Hx => ∃ so us, σ = [some (.ref a), some v, some (.ref so)] ∧ Hx so = some (.lst us) ∧ 16 ≤ us.length ∧ us.length ≤ 51 ∧ so ≠ a ∧ (∀ u ∈ us, Gd L (nn + 1) (2 * W + 220) (B + 1) Hx u) ∧ Same H Hx) (fun rest => ?_) ?_
  · have hdx := hd.same (same_remL s1)
    refine ⟨v, rfl, v, _, _, _, _, rfl, .ty _, (hdx.same remL_same).ty, kit_str d, _, rfl, ite2 (fun c => ?_) (fun c => ?_)⟩
    · obtain ⟨z, rfl, rfl⟩ : ∃ z, v = .str z ∧ d = .str z := by
        cases hd with
        | str z => exact ⟨z, rfl, rfl⟩
        | _ => cases c
      have bz : Bd 0 W (.str z) := bd_chars bd.chars.1 bd.chars.2
      have lz := bz.chars.2
      have zl : z.length ≤ sizeLine := Nat.le_trans (show z.length ≤ 100000 by omega) (by decide)
      have zl1 : z.length + 1 ≤ sizeLine := Nat.le_trans (show z.length + 1 ≤ 100000 by omega) (by decide)
      have ba : Bd 0 1 (.str "a") := bd_chars (str_codes _) (by decide)
      have bb : Bd 0 1 (.str " ") := bd_chars (str_codes _) (by decide)
      refine ⟨_, rfl, _, rfl, z, _, rfl, rfl, zl1, _, rfl, _, rfl, z, rfl, zl, _, rfl, _, rfl, _, rfl, z, rfl, zl, _, rfl, z, _, rfl, rfl, zl1, _, rfl, (by show 2 ≤ sizeLine; decide), fun p7 n7 => ⟨(by show 5 ≤ sizeLine; decide), fun p8 n8 => ?_⟩⟩
      have s7 := same_new (o := .tup [.str z, .int 0]) n7
      have s8 := same_new (o := .lst [.str (z ++ Str.ofString "a"), .str (cutS z (some 1) none), .str (cutS z none (some (-1))), .str (z ++ Str.ofString " "), .ref p7]) n8
      refine ⟨p8, 2, _, rfl, rfl, made n8, by decide, by decide, (by show 5 * 2 ≤ sizeLine; decide), fun p9 n9 => ?_⟩
      have s9 := same_new (o := .lst (List.replicate (2 : Int).toNat [.str (z ++ Str.ofString "a"), .str (cutS z (some 1) none), .str (cutS z none (some (-1))), .str (z ++ Str.ofString " "), .ref p7]).flatten) n9
      have s19 := s7.trans (s8.trans s9)
      refine ⟨so, p9, us, _, rfl, rfl, s19 _ _ eso, made n9, Nat.le_trans (show us.length + 10 ≤ 1000 by omega) (by decide), fun q1 nq => ?_⟩
      have sq := same_new (o := .lst (us ++ (List.replicate (2 : Int).toNat [.str (z ++ Str.ofString "a"), .str (cutS z (some 1) none), .str (cutS z none (some (-1))), .str (z ++ Str.ofString " "), .ref p7]).flatten)) nq
      have sA := s19.trans sq
      have t1 := tr.same s1
      have g7 := same_remL (as := L) (s8.trans (s9.trans sq)) _ _ (remL_new t1 n7)
      refine rest _ _ ⟨q1, _, rfl, made nq, by rw [List.length_append]; omega, by rw [List.length_append]; show us.length + 10 ≤ 51; omega, fun z => (((t1.same s7).same s8).same s9).new nq (z ▸ hm), fun u hu => ?_, s1.trans sA⟩
      rcases List.mem_append.mp hu with y | y
      · exact (hus u y).same sA
      have hu5 := mem_rep y
      simp only [List.mem_cons, List.not_mem_nil, or_false] at hu5
      rcases hu5 with e | e | e | e | e
      · rw [e]; exact txt _ ((bz.app ba).mono (Nat.le_refl _) (by omega))
      · rw [e]; exact txt _ ((bz.cutS _ _).mono (Nat.le_refl _) (by omega))
      · rw [e]; exact txt _ ((bz.cutS _ _).mono (Nat.le_refl _) (by omega))
      · rw [e]; exact txt _ ((bz.app bb).mono (Nat.le_refl _) (by omega))
      · rw [e]
        refine ⟨_, .tup g7 (.cons (.str _) (.cons (.int 0) .nil)), ((BA.append (BA.one (bz.mono (Nat.zero_le nn) (Nat.le_refl _))) (BA.one (Bd.small (n := nn) (i := 0) (by decide)))).tuple).mono (Nat.le_refl _) (by omega), by simp [inB, inBAll]⟩
    · exact rest _ _ ⟨so, us, rfl, eso, by omega, by omega, nsa, hus, s1⟩
  clear eso lus lus2 nsa hus s1 so us
  rintro σ H1 ⟨so, us, rfl, eso, lus, lus2, nsa, hus, s1⟩
  refine ⟨_, rfl, _, rfl, a, so, n, us, rfl, ha.same s1, by omega, eso, nsa, by omega, by omega, fun v' H2 hv g2 k2 => ?_⟩
  exact q v' H2 ((hus v' hv).kp hm k2) g2 ((Kp.of_same s1).trans k2)
end

end Z

namespace Z
open PySem PySem.Spec PyProof.Rows L2 Lw

section
variable {P : Program} {w : World} {K : PySem.W.Frag} {mg : Str → Option Value} {base : Heap}
theorem cutD_take (ds : List PyData) (n : Nat) : cutD ds none (some (n : Int)) = ds.take n := by
  unfold Lw.cutD
  rw [HT.sIx_none, HT.sIx_nat, List.drop_zero, Nat.sub_zero]
  by_cases h : n ≤ ds.length
  · rw [Nat.min_eq_left h]
  · rw [Nat.min_eq_right (by omega), List.take_length, List.take_of_length_le (by omega)]
theorem cutD_drop (ds : List PyData) (n : Nat) : cutD ds (some (n : Int)) none = ds.drop n := by
  unfold Lw.cutD
  rw [HT.sIx_none, HT.sIx_nat]
  by_cases h : n ≤ ds.length
  · rw [Nat.min_eq_left h]
    exact List.take_of_length_le (by rw [List.length_drop]; omega)
  · rw [Nat.min_eq_right (by omega), List.drop_length, List.drop_of_length_le (by omega), List.take_nil]
/-- one thing exchanged for another -/
theorem BA.put {n W V : Nat} {ds : List PyData} {d : PyData} {r : Nat} (h : BA n W ds) (g : Bd n V d) (hr : r < ds.length) : BA n (W + V + 1) (cutD ds none (some (r : Int)) ++ [d] ++ cutD ds (some ((r : Int) + 1)) none) := by
  have e : ((r : Int) + 1) = ((r + 1 : Nat) : Int) := rfl
  have b := BA.append (BA.append (h.cut none (some (r : Int))) (BA.one g)) (h.cut (some ((r : Int) + 1)) none)
  refine ⟨b.lf, b.sh, b.dp, ?_⟩
  rw [e, cutD_take, cutD_drop, wa_append, wa_append]
  have e1 : ds = ds.take r ++ ds.drop r := (List.take_append_drop r ds).symm
  have e2 : ds.drop r = ds[r] :: ds.drop (r + 1) := List.drop_eq_getElem_cons hr
  have hw := h.wt
  rw [e1, wa_append, e2] at hw
  simp only [PyData.weightAll] at hw ⊢
  have := g.wt
  omega
def sp_bent (r : Nat) : Sp := fun vs H Q _ => ∃ (a : Addr) (n : Nat) (L : List Addr) (v : V) (nn W B : Nat), vs = [.ref a, v, .int (r : Int)] ∧ Hd H a n ∧ n + 2 * r + 2 ≤ 800000 ∧ a ∈ L ∧ Trk L H ∧ Gd L nn W B H v ∧ W ≤ 30000 ∧ 10 ≤ B ∧ B ≤ 10 ^ 61 ∧
  ∀ v' H', Gd L (nn + 1) ((r + 2) * W + 220 + r) (B + 1) H' v' → Hd H' a (n + 2 * r + 2) → Kp a H H' → Q v' H'
theorem ok_bent (T : Txt K mg) {k : Nat} : ∀ r : Nat, FnOk P w K mg base CX0 (k + 4 + r) T.f__law_bent T.fd__law_bent ["_law_hand_here", "_law_item", "_law_room"] (sp_bent r)
  | 0 => by
    have G__law_bent := FnOk.never (P := P) (w := w) (K := K) (mg := mg) (base := base) (k := k + 3) (f := T.f__law_bent) (fd := T.fd__law_bent) (ps := ["_law_hand_here", "_law_item", "_law_room"])
    have G__law_take := (ok_take (P := P) (w := w) (base := base) T (k := k)).mono (show k + 1 ≤ k + 3 by omega)
    have G__law_odd := ok_odd (P := P) (w := w) (base := base) T (k := k)
    refine T.F__law_bent.ok (k := k + 3) sc__law_bent (fun vs H Q E h => ?_) (fun cdv A outer s H vs Q E hr h => ?_)
    · obtain ⟨a, n, L, v, nn, W, B, rfl, _⟩ := h
      rfl
    obtain ⟨a, n, L, v, nn, W, B, rfl, ha, hn, hm, tr, gd, hW, hB1, hB2, q⟩ := h
    refine ⟨_, (pss_cons (ps_if (PW.pt (pw_or (pt_cmpR op_eq (pv 2) pe_int (nomark _)) (pw_or (pt_not (pt_val (pe_callB call_isi (by rfl) T.m_isinstance (by decide +kernel) (pa_cons (pv 1) (pa_cons (pe_bltn (v := .ty "tuple") (by rfl) T.m_tuple (by decide +kernel) rfl) pa_nil))))) (pw_or (pt_cmpR (op_eq0 hr) (pv 1) (pe_tup pa_nil) (nomark _)) (pw_or1 (pt_cmpR op_eq (pe_call G__law_take hr (by rfl) T.g__law_take T.k__law_take T.b__law_take .nil pass0 (pa_cons (pv 0) (pa_cons pe_int pa_nil))) pe_int (nomark _))))))) (pss_one (ps_ret (pe_call G__law_odd hr (by rfl) T.g__law_odd T.k__law_odd T.b__law_odd .nil pass0 (pa_cons (pv 0) (pa_cons (pv 1) pa_nil))))) pss_nil)
      (pss_cons (ps_set (i := 3) sc__law_bent.nd rfl (.inl rfl) (pe_call G__law_take hr (by rfl) T.g__law_take T.k__law_take T.b__law_take .nil pass0 (pa_cons (pv 0) (pa_cons (pe_callB call_len_seq (by rfl) T.m_len (by decide +kernel) (pa_cons (pv 1) pa_nil)) pa_nil))))
      (pss_one (ps_ret (pe_op op_catU (pe_op op_catU (pe_slice sl_U (pv 1) po_none (po_some (pv 3))) (pe_tup (pa_cons (pe_call G__law_bent hr (by rfl) T.g__law_bent T.k__law_bent T.b__law_bent .nil pass0 (pa_cons (pv 0) (pa_cons (pe_ix ix_tup (pv 1) (pv 3) (fun _ _ => rfl)) (pa_cons (pe_op op_sub (pv 2) pe_int) pa_nil)))) pa_nil))) (pe_slice sl_U (pv 1) (po_some (pe_op op_add (pv 3) pe_int)) po_none)))))), ?_⟩
    refine ⟨_, rfl, rfl, _, rfl, ?_⟩
    rw [decide_eq_true (show V.int ((0 : Nat) : Int) = V.int 0 from rfl)]
    refine iteT (iteT ?_)
    exact ⟨_, rfl, _, rfl, a, n, L, v, nn, W, B, rfl, ha, by omega, hm, tr, gd, hW, hB1, hB2, fun v' H' g' hd' k' => q v' H' (g'.mono (Nat.le_refl _) (by omega) (Nat.le_refl _)) (hd'.mono (by omega)) k'⟩
  | r + 1 => by
    have G__law_bent := ok_bent T (k := k) r
    have G__law_take := (ok_take (P := P) (w := w) (base := base) T (k := k)).mono (show k + 1 ≤ k + 4 + r by omega)
    have G__law_odd := (ok_odd (P := P) (w := w) (base := base) T (k := k)).mono (show k + 3 ≤ k + 4 + r by omega)
    refine T.F__law_bent.ok (k := k + 4 + r) sc__law_bent (fun vs H Q E h => ?_) (fun cdv A outer s H vs Q E hr h => ?_)
    · obtain ⟨a, n, L, v, nn, W, B, rfl, _⟩ := h
      rfl
    obtain ⟨a, n, L, v, nn, W, B, rfl, ha, hn, hm, tr, ⟨d, hd, bd, hb⟩, hW, hB1, hB2, q⟩ := h
    refine ⟨_, (pss_cons (ps_if (PW.pt (pw_or (pt_cmpR op_eq (pv 2) pe_int (nomark _)) (pw_or (pt_not (pt_val (pe_callB call_isi (by rfl) T.m_isinstance (by decide +kernel) (pa_cons (pv 1) (pa_cons (pe_bltn (v := .ty "tuple") (by rfl) T.m_tuple (by decide +kernel) rfl) pa_nil))))) (pw_or (pt_cmpR (op_eq0 hr) (pv 1) (pe_tup pa_nil) (nomark _)) (pw_or1 (pt_cmpR op_eq (pe_call G__law_take hr (by rfl) T.g__law_take T.k__law_take T.b__law_take .nil pass0 (pa_cons (pv 0) (pa_cons pe_int pa_nil))) pe_int (nomark _))))))) (pss_one (ps_ret (pe_call G__law_odd hr (by rfl) T.g__law_odd T.k__law_odd T.b__law_odd .nil pass0 (pa_cons (pv 0) (pa_cons (pv 1) pa_nil))))) pss_nil)
      (pss_cons (ps_set (i := 3) sc__law_bent.nd rfl (.inl rfl) (pe_call G__law_take hr (by rfl) T.g__law_take T.k__law_take T.b__law_take .nil pass0 (pa_cons (pv 0) (pa_cons (pe_callB call_len_seq (by rfl) T.m_len (by decide +kernel) (pa_cons (pv 1) pa_nil)) pa_nil))))
      (pss_one (ps_ret (pe_op op_catU (pe_op op_catU (pe_slice sl_U (pv 1) po_none (po_some (pv 3))) (pe_tup (pa_cons (pe_call G__law_bent hr (by rfl) T.g__law_bent T.k__law_bent T.b__law_bent .nil pass0 (pa_cons (pv 0) (pa_cons (pe_ix ix_tup (pv 1) (pv 3) (fun _ _ => rfl)) (pa_cons (pe_op op_sub (pv 2) pe_int) pa_nil)))) pa_nil))) (pe_slice sl_U (pv 1) (po_some (pe_op op_add (pv 3) pe_int)) po_none)))))), ?_⟩
    have eW : (r + 1 + 2) * W = (r + 2) * W + W := by rw [Nat.add_mul, Nat.add_mul, Nat.add_mul]; omega
    have eW2 : (r + 1 + 2) * W = 2 * W + (r + 1) * W := by rw [← Nat.add_mul]; congr 1; omega
    have small : ∀ x : Nat, x ≤ 100000 → x ≤ sizeLine := fun x h => Nat.le_trans h (by decide)
    have q' : ∀ v' H', Gd L (nn + 1) (2 * W + 220) (B + 1) H' v' → Hd H' a (n + 1 + 1) → Kp a H H' → Q v' H' := fun v' H' g' hd' k' => q v' H' (g'.mono (Nat.le_refl _) (by omega) (Nat.le_refl _)) (hd'.mono (by omega)) k'
    have gdk : ∀ {H' : Hp}, Kp a H H' → Gd L nn W B H' v := fun k' => ⟨d, hd.same (k'.remL hm), bd, hb⟩
    refine ⟨_, rfl, rfl, _, rfl, ?_⟩
    rw [decide_eq_false (show ¬ V.int ((r + 1 : Nat) : Int) = V.int 0 from fun z => by injection z with z; omega)]
    refine iteF ?_
    refine ⟨v, rfl, v, _, _, _, _, rfl, .ty _, (hd.same remL_same).ty, kit_tup d, _, rfl, ?_⟩
    by_cases it : isTupD d = true
    · obtain ⟨ds, rfl⟩ : ∃ ds, d = .tuple ds := by
        cases d with
        | tuple ds => exact ⟨ds, rfl⟩
        | _ => cases it
      refine iteF ?_
      obtain ⟨ba, bx⟩ := bd.ofTup
      have hib := inB_tup.mp hb
      have hle : ds.length ≤ W := by
        have := len_le_wa ds
        have := ba.wt
        omega
      obtain ⟨b, rfl, nb, xs, ex, da⟩ := Tp.of hd
      have nba : b ≠ a := fun z => nb (z ▸ hm)
      have hl := da.length
      refine ⟨_, rfl, (by show 0 ≤ sizeLine; decide), fun p1 n1 => ?_⟩
      have s1 := same_new (o := .tup []) n1
      refine ⟨b, p1, xs, rfl, rfl, s1 _ _ ex, upd_same, _, rfl, ?_⟩
      by_cases c0 : xs.length = 0
      · rw [decide_eq_true c0]
        refine iteT (iteT ?_)
        exact ⟨_, rfl, _, rfl, a, n, L, _, nn, W, B, rfl, ha.same s1, by omega, hm, tr.same s1, gdk (Kp.of_same s1), hW, hB1, hB2, fun v' H' g' hd' k' => q' v' H' g' (hd'.mono (by omega)) ((Kp.of_same s1).trans k')⟩
      · rw [decide_eq_false c0]
        refine iteF ?_
        refine ⟨_, rfl, a, n, 5, rfl, ha.same s1, by omega, by decide, by decide, fun r2 H2 hr2 g2 k2 => ⟨rfl, _, rfl, ite2 (fun c => ?_) (fun c => ?_)⟩⟩
        · have k02 := (Kp.of_same s1).trans k2
          exact ⟨_, rfl, _, rfl, a, n + 1, L, _, nn, W, B, rfl, g2, by omega, hm, tr.kp k02 g2, gdk k02, hW, hB1, hB2, fun v' H' g' hd' k' => q' v' H' g' hd' (k02.trans k')⟩
        · have k02 := (Kp.of_same s1).trans k2
          have tr2 := tr.kp k02 g2
          have ex2 := k02 _ _ nba ex
          refine ⟨_, rfl, _, rfl, b, xs, rfl, .inr (SqT.of ex2), a, n + 1, xs.length, rfl, g2, by omega, by omega, by omega, fun r3 H3 hr3 g3 k3 => ?_⟩
          have k03 := k02.trans k3
          have tr3 := tr2.kp k3 g3
          have ex3 := k3 _ _ nba ex2
          have da3 := da.same (k03.remL hm)
          have c1 := fun (lo hi : Option Int) => cutV_le xs lo hi
          refine ⟨_, rfl, _, rfl, _, rfl, b, xs, rfl, ex3, fun q1 H4 s4 e4 o4 => ?_⟩
          have z1 := Tp.cut nb da3 tr3 s4 e4 o4
          have tr4 := tr3.same s4
          have da4 := da3.same (same_remL s4)
          obtain ⟨dx, hdx, hD⟩ := DA.get r3 da4 (List.getElem?_eq_getElem hr3)
          have hxm := List.mem_of_getElem? hdx
          refine ⟨_, rfl, _, rfl, _, rfl, b, xs, (r3 : Int), xs[r3], rfl, rfl, SqT.of (s4 _ _ ex3), atI_nat (List.getElem?_eq_getElem hr3), ?_⟩
          have hnn : 1 ≤ nn := by
            have := bd.dp
            simp only [PyData.depth] at this
            omega
          refine ⟨_, rfl, _, _, rfl, rfl, a, n + 1 + 1, L, xs[r3], nn - 1, W, B, congrArg (fun z => [V.ref a, xs[r3], V.int z]) (by omega : ((r + 1 : Nat) : Int) - 1 = (r : Int)), g3.same s4, by omega, hm, tr4, ⟨dx, hD, bx dx hxm, hib dx hxm⟩, hW, hB1, hB2, fun v' H5 gd5 g5 k5 => ?_⟩
          obtain ⟨d', hD', hB', hI'⟩ := gd5
          have tr5 := tr4.kp k5 g5
          have np1 : q1 ≠ a := fun z => z1.1 (z ▸ hm)
          have dz1 := (da4.cut none (some (r3 : Int))).same (k5.remL hm)
          refine ⟨(by show 1 ≤ sizeLine; decide), fun q2 n6 => ?_⟩
          have s6 := same_new (o := .tup [v']) n6
          have x1 := c1 none (some (r3 : Int))
          have x3 := c1 (some ((r3 : Int) + 1)) none
          refine ⟨q1, q2, _, _, rfl, rfl, s6 _ _ (k5 _ _ np1 e4), upd_same, small _ (by rw [List.length_singleton]; omega), fun q3 H7 s7 e7 o7 => ?_⟩
          have z3 := Tp.cat z1.1 (tr5.new n6) (dz1.same (same_remL s6)) (.cons (hD'.same (same_remL s6)) .nil) (tr5.same s6) s7 e7 o7
          have s67 := s6.trans s7
          refine ⟨_, rfl, _, rfl, _, _, rfl, rfl, _, rfl, b, xs, rfl, s67 _ _ (k5 _ _ nba (s4 _ _ ex3)), fun q4 H8 s8 e8 o8 => ?_⟩
          have da7 := (da4.same (k5.remL hm)).same (same_remL s67)
          have z4 := Tp.cut nb da7 (tr5.same s67) s8 e8 o8
          refine ⟨q3, q4, _, _, rfl, rfl, s8 _ _ e7, e8, small _ (by rw [List.length_append, List.length_singleton]; omega), fun q5 H9 s9 e9 o9 => ?_⟩
          have s68 := s67.trans s8
          have z := Tp.cat z3.1 z4.1 ((dz1.same (same_remL s68)).append (.cons (hD'.same (same_remL s68)) .nil)) ((da7.cut _ _).same (same_remL s8)) ((tr5.same s67).same s8) s9 e9 o9
          have sA := s68.trans s9
          refine q _ H9 ⟨_, z.d, (BA.put (V := (r + 2) * W + 220 + r) ba (hB'.mono (show nn - 1 + 1 ≤ nn by omega) (Nat.le_refl _)) (by omega)).tuple.mono (Nat.le_refl _) (by omega), inB_tup.mpr fun x hx => ?_⟩ ((g5.same sA).mono (by omega)) (k03.trans ((Kp.of_same s4).trans (k5.trans (Kp.of_same sA))))
          rcases List.mem_append.mp hx with y | y
          · rcases List.mem_append.mp y with y | y
            · exact inB_mono (by omega) x (hib x (cutD_mem y))
            · rw [List.mem_singleton.mp y]
              exact hI'
          · exact inB_mono (by omega) x (hib x (cutD_mem y))
    · have it' : isTupD d = false := by simpa using it
      rw [it']
      refine iteT (iteT ?_)
      exact ⟨_, rfl, _, rfl, a, n, L, v, nn, W, B, rfl, ha, by omega, hm, tr, ⟨d, hd, bd, hb⟩, hW, hB1, hB2, fun v' H' g' hd' k' => q' v' H' g' (hd'.mono (by omega)) k'⟩
end

end Z

namespace Z
open PySem PySem.Spec PyProof.Rows L2 Lw

/-! ### deeds and histories -/
def wholeD : PyData → Bool
  | .int _ => true
  | _ => false
/-- the number of the deed that this is -/
def actOf (xs : List (Str × Nat)) : PyData → Option Nat
  | .tuple (x :: rest) => if rest.all wholeD = true then xs.findIdx? (fun a => strIs a.1 x && decide (a.2 = rest.length)) else none
  | _ => none
def goD (gs : List (List (Option Nat))) (xs : List (Str × Nat)) : Nat → List PyData → Bool
  | _, [] => true
  | pl, d :: ds => match actOf xs d with
    | none => false
    | some n => match stepG gs pl n with
      | none => false
      | some pl' => goD gs xs pl' ds
def histD (gs : List (List (Option Nat))) (xs : List (Str × Nat)) : PyData → Bool
  | .tuple ds => goD gs xs 0 ds
  | _ => false
def freeG (n : Nat) : List (List (Option Nat)) := [List.replicate n (some 0)]
section
variable {P : Program} {w : World} {K : PySem.W.Frag} {mg : Str → Option Value} {base : Heap}
theorem spv_non (o : Option Nat) : decide (spv o = V.non) = o.isNone := by
  cases o with
  | none => rfl
  | some n => exact decide_eq_false (fun z => nomatch z)
theorem freeG_ok (n : Nat) : GOk n (freeG n) := ⟨Nat.le_refl 1, fun row h => by
  rw [List.mem_singleton.mp h]
  refine ⟨List.length_replicate, fun k hk => ?_⟩
  have := (List.mem_replicate.mp hk).2
  cases this
  exact Nat.zero_lt_one⟩
def sp_is_whole : Sp := fun vs H Q _ => ∃ (v : V) (d : PyData) (f : Bool), vs = [v] ∧ D f H v d ∧ Q (.bl (wholeD d)) H
theorem ok_is_whole (T : Txt K mg) {k : Nat} : FnOk P w K mg base CX0 (k + 1) T.f_is_whole T.fd_is_whole ["thing"] sp_is_whole := by
  refine T.F_is_whole.ok sc_is_whole (fun vs H Q E h => ?_) (fun cdv A outer s H vs Q E hr h => ?_)
  · obtain ⟨v, d, f, rfl, _⟩ := h
    rfl
  obtain ⟨v, d, f, rfl, hd, q⟩ := h
  refine ⟨_, (pss_one (ps_ret (pe_and (pe_callB call_isi (by rfl) T.m_isinstance (by decide +kernel) (pa_cons (pv 0) (pa_cons (pe_bltn (v := .ty "int") (by rfl) T.m_int (by decide +kernel) rfl) pa_nil))) (pe_one (pe_not (pe_callB call_isi (by rfl) T.m_isinstance (by decide +kernel) (pa_cons (pv 0) (pa_cons (pe_bltn (v := .ty "bool") (by rfl) T.m_bool (by decide +kernel) rfl) pa_nil)))))))), ?_⟩
  refine ⟨v, rfl, v, _, _, _, _, rfl, .ty _, hd.ty, kit_int d, _, rfl, ?_⟩
  cases d with
  | int i => exact iteT ⟨v, rfl, v, _, _, _, _, rfl, .ty _, hd.ty, kit_bool _, _, rfl, q⟩
  | bool b => exact iteT ⟨v, rfl, v, _, _, _, _, rfl, .ty _, hd.ty, kit_bool _, _, rfl, q⟩
  | none => exact iteF q
  | str x => exact iteF q
  | list xs => exact iteF q
  | tuple xs => exact iteF q
  | dict kvs => exact iteF q
def sp_free : Sp := fun vs H Q _ => ∃ (t : Addr) (as : List V), vs = [.ref t] ∧ H t = some (.tup as) ∧ 1 ≤ as.length ∧ as.length ≤ 100 ∧
  ∀ p r H', H' p = some (.tup [.ref r]) → H' r = some (.tup (List.replicate as.length (V.int 0))) → Same H H' → Q (.ref p) H'
theorem rep_one {α : Type} (n : Nat) (x : α) : (List.replicate n [x]).flatten = List.replicate n x := by
  induction n with
  | zero => rfl
  | succ n ih =>
    rw [List.replicate_succ, List.flatten_cons, ih]
    rfl
theorem ok_free (T : Txt K mg) {k : Nat} : FnOk P w K mg base CX0 (k + 1) T.f_free T.fd_free ["deeds"] sp_free := by
  refine T.F_free.ok sc_free (fun vs H Q E h => ?_) (fun cdv A outer s H vs Q E hr h => ?_)
  · obtain ⟨t, as, rfl, _⟩ := h
    rfl
  obtain ⟨t, as, rfl, ht, h1, h2, q⟩ := h
  refine ⟨_, (pss_one (ps_ret (pe_tup (pa_cons (pe_op op_repU (pe_tup (pa_cons pe_int pa_nil)) (pe_callB call_len_seq (by rfl) T.m_len (by decide +kernel) (pa_cons (pv 0) pa_nil))) pa_nil)))), ?_⟩
  refine ⟨(by show 1 ≤ sizeLine; decide), fun p1 n1 => ?_⟩
  have s1 := same_new (o := .tup [.int 0]) n1
  refine ⟨_, rfl, t, as, rfl, .inr (SqT.of (s1 _ _ ht)), p1, _, _, rfl, rfl, upd_same, (by simp), by omega, by omega, (by show 1 ≤ 1000; decide), fun p2 H2 s2 e2 _ => ?_⟩
  refine ⟨(by show 1 ≤ sizeLine; decide), fun p3 n3 => ?_⟩
  have s3 := same_new (o := .tup [.ref p2]) n3
  refine q p3 p2 _ upd_same ?_ (s1.trans (s2.trans s3))
  have e : (List.replicate ((as.length : Int)).toNat [V.int 0]).flatten = List.replicate as.length (V.int 0) := by
    rw [show ((as.length : Int)).toNat = as.length by omega, rep_one]
  rw [e] at e2
  exact s3 _ _ e2

def sp_gof : Sp := fun vs H Q _ => ∃ (pg c ac mo : Addr) (g : V) (as : List V) (gs : List (List (Option Nat))), vs = [.ref pg, g] ∧ H pg = some (.tup [.ref c, .ref ac, .ref mo]) ∧ H ac = some (.tup as) ∧ 1 ≤ as.length ∧ as.length ≤ 100 ∧ ((g = .non ∧ gs = freeG as.length) ∨ ∃ gt, g = .ref gt ∧ Gt H gt gs) ∧
  ∀ (gt : Addr) H', Gt H' gt gs → Same H H' → Q (.ref gt) H'
theorem ok_gof (T : Txt K mg) {k : Nat} : FnOk P w K mg base CX0 (k + 2) T.f_guard_or_free T.fd_guard_or_free ["program", "guard"] sp_gof := by
  have G_free := ok_free (P := P) (w := w) (base := base) T (k := k)
  refine T.F_guard_or_free.ok sc_guard_or_free (fun vs H Q E h => ?_) (fun cdv A outer s H vs Q E hr h => ?_)
  · obtain ⟨pg, c, ac, mo, g, as, gs, rfl, _⟩ := h
    rfl
  obtain ⟨pg, c, ac, mo, g, as, gs, rfl, hp, hac, h1, h2, hg, q⟩ := h
  refine ⟨_, (pss_one (ps_ret (pe_ifExp (pt_cmp (pc_isN (pv 1))) (pe_call G_free hr (by rfl) T.g_free T.k_free T.b_free .nil pass0 (pa_cons (pe_ix ix_tup (pv 0) pe_int (fun _ _ => rfl)) pa_nil)) (pv 1)))), ?_⟩
  rcases hg with ⟨rfl, rfl⟩ | ⟨gt, rfl, hgt⟩
  · refine ⟨_, rfl, _, rfl, iteT ?_⟩
    refine ⟨_, rfl, pg, _, 1, _, rfl, rfl, SqT.of hp, rfl, ac, as, rfl, hac, h1, h2, fun p r H' e1 e2 s1 => ?_⟩
    refine q p H' ⟨[r], e1, .cons ?_ .nil⟩ s1
    rw [List.map_replicate]
    exact e2
  · refine ⟨_, rfl, _, rfl, ?_⟩
    refine iteF ?_
    exact ⟨_, rfl, q gt H hgt (Same.refl H)⟩
def sp_num (fw : Addr) : Sp := fun vs H Q _ => ∃ (pg c ac mo : Addr) (v : V) (d : PyData) (f : Bool) (xs : List (Str × Nat)), vs = [.ref pg, v, .ref fw] ∧ H pg = some (.tup [.ref c, .ref ac, .ref mo]) ∧ Acts H ac xs ∧ D f H v d ∧ d.weight ≤ 200000 ∧
  ∀ H', Same H H' → Q (spv (actOf xs d)) H'
theorem ok_num (T : Txt K mg) {k : Nat} : FnOk P w K mg base CX0 (k + 2) T.f_deed_number T.fd_deed_number ["program", "thing", "fits"] (sp_num T.f_is_whole) := by
  have G_is_whole := ok_is_whole (P := P) (w := w) (base := base) T (k := k)
  refine T.F_deed_number.ok sc_deed_number (fun vs H Q E h => ?_) (fun cdv A outer s H vs Q E hr h => ?_)
  · obtain ⟨pg, c, ac, mo, v, d, f, xs, rfl, _⟩ := h
    rfl
  obtain ⟨pg, c, ac, mo, v, d, f, xs, rfl, hp, hac, hd, hw, q⟩ := h
  refine ⟨_, (pss_cons (ps_if (PW.pt (pw_or (pt_not (pt_val (pe_callB call_isi (by rfl) T.m_isinstance (by decide +kernel) (pa_cons (pv 1) (pa_cons (pe_bltn (v := .ty "tuple") (by rfl) T.m_tuple (by decide +kernel) rfl) pa_nil))))) (pw_or (pt_cmpR op_eq (pe_callB call_len_seq (by rfl) T.m_len (by decide +kernel) (pa_cons (pv 1) pa_nil)) pe_int (nomark _)) (pw_or1 (pt_not (pt_val (pe_callB (cr_all rfl) (by rfl) T.m_all (by decide +kernel) (pa_cons (pe_lc (own := [("part", 6)]) (g := gName 6) (tt := tYes) rfl sc_deed_number.nd (pi_tup (pe_slice sl_U (pv 1) (po_some pe_int) po_none)) (blkOk_by (N := ["program", "thing", "fits", "number", "name", "many", "part"]) (sc := defScope s_deed_number) (by decide +kernel)) (fun _ _ _ _ _ => (pg_name (i := 6) sc_deed_number.nd rfl (Or.inl rfl))) (fun _ _ _ _ _ => pts_nil) (fun _ _ _ _ _ => (pe_callL (i := 2) G_is_whole hr rfl (by first | exact Or.inl rfl | exact Or.inr (Or.inl rfl) | exact Or.inr (Or.inr rfl)) T.k_is_whole T.b_is_whole .nil pass0 (pa_cons (pv 6) pa_nil)))) pa_nil)))))))) (pss_one (ps_ret pe_non)) pss_nil)
      (pss_cons (ps_for PassesOwn.never rfl (pi_enumT (by rfl) T.m_enumerate (pa_cons (pe_ix ix_tup (pv 0) pe_int (fun _ _ => rfl)) pa_nil)) (pg_tup rfl (pgs_cons (pg_name (i := 3) sc_deed_number.nd rfl (.inl rfl)) (pgs_cons (pg_tup rfl (pgs_cons (pg_name (i := 4) sc_deed_number.nd rfl (.inl rfl)) (pgs_cons (pg_name (i := 5) sc_deed_number.nd rfl (.inl rfl)) pgs_nil))) pgs_nil))) (pss_one (ps_if (PW.pt (pw_and (pt_cmpR (op_eqSD hr) (pv 4) (pe_ix ix_tup (pv 1) pe_int (fun _ _ => rfl)) (nomark _)) (pw_and1 (pt_cmpR op_eq (pv 5) (pe_op op_sub (pe_callB call_len_seq (by rfl) T.m_len (by decide +kernel) (pa_cons (pv 1) pa_nil)) pe_int) (nomark _))))) (pss_one (ps_ret (pv 3))) pss_nil)))
      (pss_one (ps_ret pe_non)))), ?_⟩
  refine ⟨v, rfl, v, _, _, _, _, rfl, .ty _, hd.ty, kit_tup d, _, rfl, ?_⟩
  by_cases itf : isTupD d = false
  · rw [itf]
    refine iteT (iteT ?_)
    have e : actOf xs d = none := by
      cases d with
      | tuple ds => cases itf
      | _ => rfl
    have q0 := q H (Same.refl H)
    rw [e] at q0
    exact q0
  have it : isTupD d = true := by simpa using itf
  obtain ⟨ds, rfl⟩ : ∃ ds, d = .tuple ds := by
    cases d with
    | tuple ds => exact ⟨ds, rfl⟩
    | _ => cases it
  refine iteF ?_
  obtain ⟨b, ys, rfl, eb, da⟩ := hd.tupOf
  have hl := da.length
  have hlen : ds.length ≤ 200000 := by
    have := len_le_wa ds
    simp only [PyData.weight] at hw
    omega
  refine ⟨_, rfl, b, ys, rfl, .inr (SqT.of eb), rfl, _, rfl, ?_⟩
  cases ds with
  | nil =>
    cases da
    refine iteT (iteT ?_)
    exact q H (Same.refl H)
  | cons dx rest =>
    cases da with
    | @cons y yr _ _ dy dr =>
    rw [decide_eq_false (show ¬ V.int (((y :: yr).length : Nat) : Int) = V.int 0 from fun z => by injection z with z; simp at z; omega)]
    refine iteF ?_
    have lr := dr.length
    refine ⟨_, rfl, _, rfl, b, _, rfl, eb, fun p1 H1 s1 e1 o1 => ?_⟩
    have ec : cutV (y :: yr) (some 1) none = yr := cut_drop (y :: yr) 1
    rw [ec] at e1
    refine ⟨p1, rfl, ⟨yr, SqT.of e1⟩, fun D1 n1 => ?_⟩
    refine Lw.lc_tup (xs := yr) (fun j H2 => Same H1 H2 ∧ H2 D1 = some (.lst (((rest.take j).map wholeD).map V.bl))) ⟨same_new n1, upd_same⟩ ?_ ?_ ?_
    · rintro j H2 _ ⟨s2, _⟩
      exact SqT.of (s2 _ _ e1)
    · rintro j x H2 hx ⟨s2, e2⟩
      obtain ⟨dz, hdz, hD⟩ := DA.get j dr hx
      have hj := (List.getElem?_eq_some_iff.mp hx).1
      refine ⟨rfl, ?_⟩
      dsimp only [tYes]
      refine iteT ?_
      refine ⟨rfl, _, rfl, x, dz, f, rfl, (hD.same s1).same s2, ?_⟩
      refine ⟨_, e2, ?_, ?_, ?_⟩
      · rw [List.length_map, List.length_map]
        exact Nat.lt_of_le_of_lt (Nat.le_trans (List.length_take_le _ _) (show j ≤ 200000 by simp only [List.length_cons] at hlen; omega)) (by decide)
      · intro b' o eb'
        rw [upd_ne (ne_of_none eb' n1)]
        exact s2 _ _ eb'
      · rw [upd_same, List.take_add_one, hdz, List.map_append, List.map_append]
        rfl
    · rintro H2 ⟨s2, e2⟩
      rw [lr, List.take_length] at e2
      have s12 := s1.trans s2
      refine ⟨D1, rest.map wholeD, rfl, SqL.of e2, _, rfl, ?_⟩
      have eall : ((rest.map wholeD).all id) = rest.all wholeD := by
        rw [List.all_map]
        rfl
      rw [eall]
      cases hall : rest.all wholeD with
      | false =>
        refine iteT ?_
        have q0 := q H2 s12
        have e : actOf xs (.tuple (dx :: rest)) = none := by
          show (if rest.all wholeD = true then _ else none) = none
          rw [hall]
          rfl
        rw [e] at q0
        exact q0
      | true =>
        refine iteF ?_
        have eA : actOf xs (.tuple (dx :: rest)) = xs.findIdx? (fun a => strIs a.1 dx && decide (a.2 = rest.length)) := by
          show (if rest.all wholeD = true then _ else none) = _
          rw [hall]
          rfl
        obtain ⟨ps, eac, hps⟩ := hac
        have lps := hps.length
        refine ⟨_, rfl, pg, _, 1, _, rfl, rfl, SqT.of (s12 _ _ hp), rfl, ac, _, rfl, SqT.of (s12 _ _ eac), for_enumT (xs := ps.map V.ref) (fun i σ H' => Same H2 H' ∧ (∃ y3 y4 y5, σ = [some (.ref pg), some (.ref b), some (.ref T.f_is_whole), y3, y4, y5, none]) ∧ ∀ j, j < i → ∀ a, xs[j]? = some a → (strIs a.1 dx && decide (a.2 = rest.length)) = false) ?_ ?_ ?_ ?_⟩
        · exact ⟨Same.refl H2, ⟨_, _, _, rfl⟩, fun j hj => absurd hj (Nat.not_lt_zero j)⟩
        · rintro i σ H' _ ⟨s3, _⟩
          exact SqT.of (s3 _ _ (s12 _ _ eac))
        · rintro i x T2 σ H3 hx ⟨s3, ⟨y3, y4, y5, rfl⟩, hno⟩ nT
          have hi := (List.getElem?_eq_some_iff.mp hx).1
          rw [List.length_map] at hi
          have hi2 : i < xs.length := by omega
          have hxp : x = .ref ps[i] := by
            rw [List.getElem?_map, List.getElem?_eq_getElem hi] at hx
            exact (Option.some.inj hx).symm
          subst hxp
          have hx2 : xs[i]? = some xs[i] := List.getElem?_eq_getElem hi2
          have ap := Lw.Paired.get (F := Act H) i hps (List.getElem?_eq_getElem hi) hx2
          have s4 := same_new (o := .tup [.int (i : Nat), .ref ps[i]]) nT
          have s14 := s12.trans (s3.trans s4)
          have ap4 := s14 _ _ ap
          generalize xs[i] = xx at hx2 ap ap4
          refine ⟨T2, _, rfl, SqT.of upd_same, rfl, _, _, rfl, ?_⟩
          refine ⟨_, _, rfl, ps[i], _, rfl, SqT.of ap4, rfl, _, _, rfl, _, _, rfl, rfl, rfl, ?_⟩
          have nx : ∀ {H' : Hp}, Same H2 H' → (strIs xx.1 dx && decide (xx.2 = rest.length)) = false → Same H2 H' ∧ (∃ y3 y4 y5, [some (V.ref pg), some (.ref b), some (.ref T.f_is_whole), some (.int (i : Int)), some (.str xx.1), some (.int (xx.2 : Int)), none] = [some (.ref pg), some (.ref b), some (.ref T.f_is_whole), y3, y4, y5, none]) ∧ ∀ j, j < i + 1 → ∀ a, xs[j]? = some a → (strIs a.1 dx && decide (a.2 = rest.length)) = false := fun s' hf => ⟨s', ⟨_, _, _, rfl⟩, fun j hj a ha => by
            by_cases ej : j = i
            · subst ej
              rw [hx2] at ha
              cases ha
              exact hf
            · exact hno j (by omega) a ha⟩
          have eb4 := s14 _ _ eb
          refine ⟨_, rfl, _, rfl, b, _, 0, y, rfl, rfl, SqT.of eb4, atI0, xx.1, dx, f, rfl, dy.same s14, _, rfl, ?_⟩
          cases hsi : strIs xx.1 dx with
          | false => exact iteF (iteF (nx (s3.trans s4) (by rw [hsi]; rfl)))
          | true =>
            refine iteT ⟨_, rfl, _, rfl, b, _, rfl, .inr (SqT.of eb4), _, _, rfl, rfl, rfl, _, rfl, ?_⟩
            by_cases c2 : xx.2 = rest.length
            · rw [decide_eq_true (show V.int (xx.2 : Int) = V.int ((((y :: yr).length : Nat) : Int) - 1) from congrArg V.int (by rw [List.length_cons, lr, c2]; omega))]
              refine iteT ⟨_, rfl, ?_⟩
              have q0 := q _ s14
              have e : actOf xs (.tuple (dx :: rest)) = some i := by
                rw [eA]
                refine List.findIdx?_eq_some_iff_getElem.mpr ⟨hi2, ?_, fun j hj => ?_⟩
                · have : xs[i] = xx := by
                    rw [List.getElem?_eq_getElem hi2] at hx2
                    exact Option.some.inj hx2
                  rw [this, hsi, decide_eq_true c2]
                  rfl
                · have := hno j hj _ (List.getElem?_eq_getElem (by omega))
                  rw [this]
                  exact Bool.false_ne_true
              rw [e] at q0
              exact q0
            · rw [decide_eq_false (show ¬ V.int (xx.2 : Int) = V.int ((((y :: yr).length : Nat) : Int) - 1) from fun z => by injection z with z; rw [List.length_cons, lr] at z; omega)]
              exact iteF (nx (s3.trans s4) (by rw [decide_eq_false c2, Bool.and_false]))
        · rintro σ H3 ⟨s3, ⟨y3, y4, y5, rfl⟩, hno⟩
          have q0 := q H3 (s12.trans s3)
          have e : actOf xs (.tuple (dx :: rest)) = none := by
            rw [eA, List.findIdx?_eq_none_iff]
            intro a ha
            obtain ⟨j, hj⟩ := List.getElem?_of_mem ha
            have hjl := (List.getElem?_eq_some_iff.mp hj).1
            exact hno j (by rw [List.length_map]; omega) a hj
          rw [e] at q0
          exact q0
def sp_hist : Sp := fun vs H Q _ => ∃ (pg c ac mo : Addr) (v g : V) (d : PyData) (f : Bool) (xs : List (Str × Nat)) (gs : List (List (Option Nat))), vs = [.ref pg, v, g] ∧ H pg = some (.tup [.ref c, .ref ac, .ref mo]) ∧ Acts H ac xs ∧ 1 ≤ xs.length ∧ xs.length ≤ 100 ∧ ((g = .non ∧ gs = freeG xs.length) ∨ ∃ gt, g = .ref gt ∧ Gt H gt gs) ∧ GOk xs.length gs ∧ D f H v d ∧ d.weight ≤ 200000 ∧
  ∀ H', Same H H' → Q (.bl (histD gs xs d)) H'
theorem wt_mem {x : PyData} : ∀ {ds : List PyData}, x ∈ ds → x.weight ≤ PyData.weightAll ds
  | [], h => by cases h
  | d :: ds, h => by
    simp only [PyData.weightAll]
    rcases List.mem_cons.mp h with z | z
    · rw [z]
      omega
    · have := wt_mem z
      omega
theorem actOf_lt {xs : List (Str × Nat)} {d : PyData} {n : Nat} (h : actOf xs d = some n) : n < xs.length := by
  cases d with
  | tuple ds =>
    cases ds with
    | nil => cases h
    | cons x rest =>
      have h' : (if rest.all wholeD = true then xs.findIdx? (fun a => strIs a.1 x && decide (a.2 = rest.length)) else none) = some n := h
      by_cases c : rest.all wholeD = true
      · rw [if_pos c] at h'
        exact (List.findIdx?_eq_some_iff_getElem.mp h').1
      · rw [if_neg c] at h'
        cases h'
  | _ => cases h
theorem ok_hist (T : Txt K mg) {k : Nat} : FnOk P w K mg base CX0 (k + 3) T.f_is_history T.fd_is_history ["program", "thing", "guard"] sp_hist := by
  have G_guard_or_free := ok_gof (P := P) (w := w) (base := base) T (k := k)
  have G_deed_number := ok_num (P := P) (w := w) (base := base) T (k := k)
  refine T.F_is_history.ok (k := k + 2) sc_is_history (fun vs H Q E h => ?_) (fun cdv A outer s H vs Q E hr h => ?_)
  · obtain ⟨pg, c, ac, mo, v, g, d, f, xs, gs, rfl, _⟩ := h
    rfl
  obtain ⟨pg, c, ac, mo, v, g, d, f, xs, gs, rfl, hp, hac, hx1, hx2, hg, hgo, hd, hw, q⟩ := h
  refine ⟨_, (pss_cons (ps_if (pt_not (pt_val (pe_callB call_isi (by rfl) T.m_isinstance (by decide +kernel) (pa_cons (pv 1) (pa_cons (pe_bltn (v := .ty "tuple") (by rfl) T.m_tuple (by decide +kernel) rfl) pa_nil))))) (pss_one (ps_ret pe_bl)) pss_nil)
      (pss_cons (ps_set (i := 3) sc_is_history.nd rfl (.inl rfl) (pe_call G_guard_or_free hr (by rfl) T.g_guard_or_free T.k_guard_or_free T.b_guard_or_free .nil pass0 (pa_cons (pv 0) (pa_cons (pv 2) pa_nil))))
      (pss_cons (ps_set (i := 4) sc_is_history.nd rfl (.inl rfl) pe_int)
      (pss_cons (ps_for PassesOwn.never rfl (pi_tup (pv 1)) (pg_name (i := 5) sc_is_history.nd rfl (.inl rfl)) (pss_cons (ps_set (i := 6) sc_is_history.nd rfl (.inl rfl) (pe_call G_deed_number hr (by rfl) T.g_deed_number T.k_deed_number T.b_deed_number .nil pass0 (pa_cons (pv 0) (pa_cons (pv 5) (pa_cons (pe_glob (v := .ref T.f_is_whole) (by rfl) T.g_is_whole rfl) pa_nil)))))
      (pss_cons (ps_if (pt_cmp (pc_isN (pv 6))) (pss_one (ps_ret pe_bl)) pss_nil)
      (pss_cons (ps_set (i := 4) sc_is_history.nd rfl (.inl rfl) (pe_ix ix_tup (pe_ix ix_tup (pv 3) (pv 4) (fun _ _ => rfl)) (pv 6) (fun _ _ => rfl)))
      (pss_one (ps_if (pt_cmp (pc_isN (pv 4))) (pss_one (ps_ret pe_bl)) pss_nil))))))
      (pss_one (ps_ret pe_bl)))))), ?_⟩
  refine ⟨v, rfl, v, _, _, _, _, rfl, .ty _, hd.ty, kit_tup d, _, rfl, ?_⟩
  by_cases itf : isTupD d = false
  · rw [itf]
    refine iteT ?_
    have q0 := q H (Same.refl H)
    have e : histD gs xs d = false := by
      cases d with
      | tuple ds => cases itf
      | _ => rfl
    rw [e] at q0
    exact q0
  have it : isTupD d = true := by simpa using itf
  obtain ⟨ds, rfl⟩ : ∃ ds, d = .tuple ds := by
    cases d with
    | tuple ds => exact ⟨ds, rfl⟩
    | _ => cases it
  refine iteF ?_
  obtain ⟨b, ys, rfl, eb, da⟩ := hd.tupOf
  have hl := da.length
  obtain ⟨ps, eac, hps⟩ := id hac
  have lps := hps.length
  have lpm : (ps.map V.ref).length = xs.length := by rw [List.length_map]; exact lps
  refine ⟨_, rfl, _, rfl, pg, c, ac, mo, g, ps.map V.ref, gs, rfl, hp, eac, by omega, by omega, by rw [lpm]; exact hg, fun gt H1 hgt s1 => ?_⟩
  refine ⟨_, rfl, b, rfl, ⟨ys, SqT.of (s1 _ _ eb)⟩, for_tup (xs := ys) (fun i σ H' => Same H1 H' ∧ ∃ (pl : Nat) (y5 y6 : Option V), σ = [some (.ref pg), some (.ref b), some g, some (.ref gt), some (.int (pl : Int)), y5, y6] ∧ pl < gs.length ∧ goD gs xs 0 ds = goD gs xs pl (ds.drop i)) ?_ ?_ ?_ ?_⟩
  · exact ⟨Same.refl H1, 0, _, _, rfl, by have := hgo.1; omega, rfl⟩
  · rintro i σ H' _ ⟨s2, _⟩
    exact SqT.of (s2 _ _ (s1 _ _ eb))
  · rintro i x σ H2 hx ⟨s2, pl, y5, y6, rfl, hpl, hgoe⟩
    have s12 := s1.trans s2
    obtain ⟨dx, hdx, hD⟩ := DA.get i da hx
    obtain ⟨hid, hdx2⟩ := List.getElem?_eq_some_iff.mp hdx
    have edrop : ds.drop i = dx :: ds.drop (i + 1) := by
      rw [List.drop_eq_getElem_cons hid, hdx2]
    rw [edrop] at hgoe
    have hwx : dx.weight ≤ 200000 := by
      have := wt_mem (List.mem_of_getElem? hdx)
      simp only [PyData.weight] at hw
      omega
    refine ⟨_, rfl, _, rfl, pg, c, ac, mo, x, dx, f, xs, rfl, s12 _ _ hp, hac.tk (TK.of_same s12), hD.same s12, hwx, fun H3 s3 => ?_⟩
    have s13 := s12.trans s3
    refine ⟨_, rfl, _, rfl, ?_⟩
    rw [spv_non]
    cases hact : actOf xs dx with
    | none =>
      refine iteT ?_
      have q0 := q H3 s13
      have e : histD gs xs (.tuple ds) = false := by
        show goD gs xs 0 ds = false
        rw [hgoe]
        show (match actOf xs dx with | none => false | some n => _) = false
        rw [hact]
      rw [e] at q0
      exact q0
    | some n =>
      refine iteF ?_
      have hn := actOf_lt hact
      have hgt3 := hgt.tk (TK.of_same (s2.trans s3))
      obtain ⟨gx, gp, row, egt, egp, erow, lrow, hrow⟩ := hgt3.at hgo hpl
      obtain ⟨o, ho⟩ : ∃ o, row[n]? = some o := ⟨_, List.getElem?_eq_getElem (by omega)⟩
      have hst := hrow n
      rw [ho, Option.join_some] at hst
      refine ⟨_, rfl, _, rfl, gt, gx, ((pl : Nat) : Int), .ref gp, rfl, rfl, SqT.of egt, atI_nat egp, _, rfl, gp, _, ((n : Nat) : Int), spv o, rfl, rfl, SqT.of erow, atI_nat (by rw [List.getElem?_map, ho]; rfl), ?_⟩
      refine ⟨_, rfl, _, rfl, ?_⟩
      rw [spv_non]
      cases o with
      | none =>
        refine iteT ?_
        have q0 := q H3 s13
        have e : histD gs xs (.tuple ds) = false := by
          show goD gs xs 0 ds = false
          rw [hgoe]
          show (match actOf xs dx with | none => false | some n => (match stepG gs pl n with | none => false | some pl' => goD gs xs pl' (ds.drop (i + 1)))) = false
          rw [hact]
          show (match stepG gs pl n with | none => false | some pl' => goD gs xs pl' (ds.drop (i + 1))) = false
          rw [← hst]
        rw [e] at q0
        exact q0
      | some pl' =>
        refine iteF ⟨s2.trans s3, pl', _, _, rfl, stepG_lt hgo hst.symm, ?_⟩
        rw [hgoe]
        show (match actOf xs dx with | none => false | some n => (match stepG gs pl n with | none => false | some pl' => goD gs xs pl' (ds.drop (i + 1)))) = _
        rw [hact]
        show (match stepG gs pl n with | none => false | some pl' => goD gs xs pl' (ds.drop (i + 1))) = _
        rw [← hst]
  · rintro σ H2 ⟨s2, pl, y5, y6, rfl, hpl, hgoe⟩
    have q0 := q H2 (s1.trans s2)
    have e : histD gs xs (.tuple ds) = true := by
      show goD gs xs 0 ds = true
      rw [hgoe, hl, List.drop_length]
      rfl
    rw [e] at q0
    exact q0
end

end Z

namespace Z
open PySem PySem.Spec PyProof.Rows L2 Lw

/-! ### the law's own look -/
def actL (xs : List (Str × Nat)) : PyData → Bool
  | .tuple (.str z :: rest) => match xs.filter (fun a => decide (a.1 = z)) with
    | [] => false
    | a :: _ => decide (a.2 = rest.length) && rest.all wholeD
  | _ => false
theorem strIs_eq (x z : Str) : strIs x (.str z) = decide (x = z) := by
  show (x == z) = decide (x = z)
  by_cases h : x = z
  · subst h
    simp
  · rw [decide_eq_false h]
    simpa using h
theorem find_name {xs : List (Str × Nat)} (nd : (xs.map (·.1)).Nodup) (z : Str) (l : Nat) :
    (xs.findIdx? (fun a => strIs a.1 (.str z) && decide (a.2 = l))).isSome = (match xs.filter (fun a => decide (a.1 = z)) with | [] => false | a :: _ => decide (a.2 = l)) := by
  induction xs with
  | nil => rfl
  | cons a xs ih =>
    rw [List.map_cons, List.nodup_cons] at nd
    rw [List.findIdx?_cons, strIs_eq]
    by_cases e : a.1 = z
    · rw [List.filter_cons_of_pos (by simpa using e), decide_eq_true e, Bool.true_and]
      by_cases c : a.2 = l
      · simp [c]
      · have hn : xs.findIdx? (fun b => strIs b.1 (.str z) && decide (b.2 = l)) = none := by
          rw [List.findIdx?_eq_none_iff]
          intro b hb
          have : ¬ b.1 = z := fun w => nd.1 (by rw [e, ← w]; exact List.mem_map_of_mem hb)
          rw [strIs_eq, decide_eq_false this]
          rfl
        simp [c, hn]
    · rw [List.filter_cons_of_neg (by simpa using e), decide_eq_false e, Bool.false_and]
      simp only [Bool.false_eq_true, if_false, Option.isSome_map]
      exact ih nd.2
theorem act_same {xs : List (Str × Nat)} (nd : (xs.map (·.1)).Nodup) (d : PyData) : (actOf xs d).isSome = actL xs d := by
  cases d with
  | tuple ds =>
    cases ds with
    | nil => rfl
    | cons x rest =>
      have e1 : actOf xs (.tuple (x :: rest)) = if rest.all wholeD = true then xs.findIdx? (fun a => strIs a.1 x && decide (a.2 = rest.length)) else none := rfl
      rw [e1]
      have hnone : (∀ z : Str, strIs z x = false) → (if rest.all wholeD = true then xs.findIdx? (fun a => strIs a.1 x && decide (a.2 = rest.length)) else none).isSome = false := fun h => by
        have : xs.findIdx? (fun a => strIs a.1 x && decide (a.2 = rest.length)) = none := by
          rw [List.findIdx?_eq_none_iff]
          intro b _
          rw [h b.1]
          rfl
        rw [this]
        split <;> rfl
      cases x with
      | str z =>
        have e2 : actL xs (.tuple (.str z :: rest)) = (match xs.filter (fun a => decide (a.1 = z)) with | [] => false | a :: _ => decide (a.2 = rest.length) && rest.all wholeD) := rfl
        rw [e2]
        have f := find_name nd z rest.length
        cases hw : rest.all wholeD with
        | true =>
          simp only [if_true, Bool.and_true]
          exact f
        | false =>
          simp only [Bool.false_eq_true, if_false, Bool.and_false, Option.isSome_none]
          split <;> rfl
      | _ => exact hnone (fun _ => rfl)
  | _ => rfl
theorem act_name {xs : List (Str × Nat)} (nd : (xs.map (·.1)).Nodup) {d : PyData} {n : Nat} (h : actOf xs d = some n) : ∃ z rest, d = .tuple (.str z :: rest) ∧ (xs.map (·.1))[n]? = some z ∧ ∀ m z', m < n → (xs.map (·.1))[m]? = some z' → z' ≠ z := by
  cases d with
  | tuple ds =>
    cases ds with
    | nil => cases h
    | cons x rest =>
      have e1 : actOf xs (.tuple (x :: rest)) = if rest.all wholeD = true then xs.findIdx? (fun a => strIs a.1 x && decide (a.2 = rest.length)) else none := rfl
      rw [e1] at h
      by_cases c : rest.all wholeD = true
      · rw [if_pos c] at h
        obtain ⟨hn, hp, _⟩ := List.findIdx?_eq_some_iff_getElem.mp h
        rw [Bool.and_eq_true] at hp
        cases x with
        | str z =>
          have ez : xs[n].1 = z := by
            have := hp.1
            rw [strIs_eq] at this
            exact of_decide_eq_true this
          have hz : (xs.map (·.1))[n]? = some z := by
            rw [List.getElem?_map, List.getElem?_eq_getElem hn]
            exact congrArg some ez
          refine ⟨z, rest, rfl, hz, fun m z' hm hz' e => ?_⟩
          subst e
          have hlm := (List.getElem?_eq_some_iff.mp hz').1
          have hln := (List.getElem?_eq_some_iff.mp hz).1
          have p := List.pairwise_iff_getElem.mp nd m n hlm hln hm
          exact p ((List.getElem?_eq_some_iff.mp hz').2.trans (List.getElem?_eq_some_iff.mp hz).2.symm)
        | _ => cases hp.1
      · rw [if_neg c] at h
        cases h
  | _ => cases h
/-- along deeds that all are some -/
def wkD (gs : List (List (Option Nat))) (xs : List (Str × Nat)) : Option Nat → List PyData → Option Nat
  | o, [] => o
  | none, _ :: _ => none
  | some pl, d :: ds => wkD gs xs ((actOf xs d).bind fun n => stepG gs pl n) ds
theorem wk_none (gs : List (List (Option Nat))) (xs : List (Str × Nat)) : ∀ ds, wkD gs xs none ds = none
  | [] => rfl
  | _ :: _ => rfl
theorem go_wk (gs : List (List (Option Nat))) (xs : List (Str × Nat)) : ∀ (ds : List PyData) (pl : Nat), (∀ d ∈ ds, (actOf xs d).isSome = true) → goD gs xs pl ds = (wkD gs xs (some pl) ds).isSome
  | [], pl, _ => rfl
  | d :: ds, pl, h => by
    obtain ⟨n, hn⟩ := Option.isSome_iff_exists.mp (h d List.mem_cons_self)
    show (match actOf xs d with | none => false | some n => (match stepG gs pl n with | none => false | some pl' => goD gs xs pl' ds)) = (wkD gs xs ((actOf xs d).bind fun n => stepG gs pl n) ds).isSome
    rw [hn]
    show (match stepG gs pl n with | none => false | some pl' => goD gs xs pl' ds) = (wkD gs xs (stepG gs pl n) ds).isSome
    cases hs : stepG gs pl n with
    | none =>
      rw [wk_none]
      rfl
    | some pl' => exact go_wk gs xs ds pl' fun x hx => h x (List.mem_cons_of_mem _ hx)
theorem go_bad (gs : List (List (Option Nat))) (xs : List (Str × Nat)) : ∀ (ds : List PyData) (pl : Nat), (∃ d ∈ ds, (actOf xs d).isSome = false) → goD gs xs pl ds = false
  | [], pl, ⟨d, hd, _⟩ => by cases hd
  | d :: ds, pl, ⟨x, hx, hn⟩ => by
    show (match actOf xs d with | none => false | some n => (match stepG gs pl n with | none => false | some pl' => goD gs xs pl' ds)) = false
    cases ha : actOf xs d with
    | none => rfl
    | some n =>
      cases hs : stepG gs pl n with
      | none => simp only [hs]
      | some pl' =>
        simp only [hs]
        rcases List.mem_cons.mp hx with e | e
        · rw [e, ha] at hn
          cases hn
        · exact go_bad gs xs ds pl' ⟨x, e, hn⟩
section
variable {P : Program} {w : World} {K : PySem.W.Frag} {mg : Str → Option Value} {base : Heap}
def sp_act : Sp := fun vs H Q _ => ∃ (ac : Addr) (v : V) (d : PyData) (f : Bool) (xs : List (Str × Nat)), vs = [.ref ac, v] ∧ Acts H ac xs ∧ xs.length ≤ 100 ∧ D f H v d ∧ d.weight ≤ 200000 ∧ ∀ H', Same H H' → Q (.bl (actL xs d)) H'
theorem ok_act (T : Txt K mg) {k : Nat} : FnOk P w K mg base CX0 (k + 1) T.f__law_is_act T.fd__law_is_act ["_law_acts", "_law_item"] sp_act := by
  refine T.F__law_is_act.ok sc__law_is_act (fun vs H Q E h => ?_) (fun cdv A outer s H vs Q E hr h => ?_)
  · obtain ⟨ac, v, d, f, xs, rfl, _⟩ := h
    rfl
  obtain ⟨ac, v, d, f, xs, rfl, hac, hx, hd, hw, q⟩ := h
  refine ⟨_, (pss_cons (ps_if (PW.pt (pw_or (pt_not (pt_val (pe_callB call_isi (by rfl) T.m_isinstance (by decide +kernel) (pa_cons (pv 1) (pa_cons (pe_bltn (v := .ty "tuple") (by rfl) T.m_tuple (by decide +kernel) rfl) pa_nil))))) (pw_or (pt_cmpR (op_eq0 hr) (pv 1) (pe_tup pa_nil) (nomark _)) (pw_or1 (pt_not (pt_val (pe_callB call_isi (by rfl) T.m_isinstance (by decide +kernel) (pa_cons (pe_ix ix_tup (pv 1) pe_int (fun _ _ => rfl)) (pa_cons (pe_bltn (v := .ty "str") (by rfl) T.m_str (by decide +kernel) rfl) pa_nil))))))))) (pss_one (ps_ret pe_bl)) pss_nil)
      (pss_cons (ps_setLc (i := 2) (own := [("_law_name", 3), ("_law_count", 4)]) (g := gTup K 2 (gCons (gName 3) (gCons (gName 4) gNil))) rfl sc__law_is_act.nd rfl rfl (sw_true rfl rfl rfl (by decide +kernel)) (pi_tup (pv 0)) (blkOk_by (N := ["_law_acts", "_law_item", "_law_counts", "_law_name", "_law_count", "_law_part"]) (sc := defScope s__law_is_act) (by decide +kernel)) (fun _ _ _ _ _ => (pg_tup rfl (pgs_cons (pg_name (i := 3) sc__law_is_act.nd rfl (.inl rfl)) (pgs_cons (pg_name (i := 4) sc__law_is_act.nd rfl (.inl rfl)) pgs_nil)))) (fun _ _ _ _ _ => (pts_one (pt_cmpR op_eq (pv 3) (pe_ix (ix_tupK (K := K)) (pv 1) pe_int (fun _ _ => rfl)) (nomark _)))) (fun _ _ _ _ _ => (pv 4)))
      (pss_cons (ps_if (PW.pt (pw_or (pt_cmpR (op_eqL0 hr) (pv 2) (pe_lst pa_nil) (nomark _)) (pw_or1 (pt_cmpR op_ne (pe_callB call_len_seq (by rfl) T.m_len (by decide +kernel) (pa_cons (pv 1) pa_nil)) (pe_op op_add pe_int (pe_ix ix_list (pv 2) pe_int (fun _ _ => rfl))) (nomark _))))) (pss_one (ps_ret pe_bl)) pss_nil)
      (pss_one (ps_ret (pe_callB (cr_all rfl) (by rfl) T.m_all (by decide +kernel) (pa_cons (pe_lc (own := [("_law_part", 5)]) (g := gName 5) (tt := tYes) rfl sc__law_is_act.nd (pi_tup (pe_slice sl_U (pv 1) (po_some pe_int) po_none)) (blkOk_by (N := ["_law_acts", "_law_item", "_law_counts", "_law_name", "_law_count", "_law_part"]) (sc := defScope s__law_is_act) (by decide +kernel)) (fun _ _ _ _ _ => (pg_name (i := 5) sc__law_is_act.nd rfl (Or.inl rfl))) (fun _ _ _ _ _ => pts_nil) (fun _ _ _ _ _ => (pe_and (pe_callB (call_isiKK (K := K)) (by rfl) T.m_isinstance (by decide +kernel) (pa_cons (pv 5) (pa_cons (pe_bltn (v := .ty "int") (by rfl) T.m_int (by decide +kernel) rfl) pa_nil))) (pe_one (pe_not (pe_callB (call_isiKK (K := K)) (by rfl) T.m_isinstance (by decide +kernel) (pa_cons (pv 5) (pa_cons (pe_bltn (v := .ty "bool") (by rfl) T.m_bool (by decide +kernel) rfl) pa_nil)))))))) pa_nil))))))), ?_⟩
  refine ⟨v, rfl, v, _, _, _, _, rfl, .ty _, hd.ty, kit_tup d, _, rfl, ?_⟩
  by_cases itf : isTupD d = false
  · rw [itf]
    refine iteT (iteT ?_)
    have q0 := q H (Same.refl H)
    have e : actL xs d = false := by
      cases d with
      | tuple ds => cases itf
      | _ => rfl
    rw [e] at q0
    exact q0
  have it : isTupD d = true := by simpa using itf
  obtain ⟨ds, rfl⟩ : ∃ ds, d = .tuple ds := by
    cases d with
    | tuple ds => exact ⟨ds, rfl⟩
    | _ => cases it
  refine iteF ?_
  obtain ⟨b, ys, rfl, eb, da⟩ := hd.tupOf
  have hl := da.length
  have hlen : ds.length ≤ 200000 := by
    have := len_le_wa ds
    simp only [PyData.weight] at hw
    omega
  refine ⟨_, rfl, (by show 0 ≤ sizeLine; decide), fun e0 n0 => ⟨b, e0, ys, rfl, rfl, same_new n0 _ _ eb, upd_same, _, rfl, ?_⟩⟩
  have s0 := same_new (o := .tup []) n0
  cases ds with
  | nil =>
    cases da
    refine iteT (iteT ?_)
    exact q _ s0
  | cons dx rest =>
    cases da with
    | @cons y yr _ _ dy dr =>
    have lr := dr.length
    refine iteF ?_
    refine ⟨_, rfl, b, _, 0, y, rfl, rfl, SqT.of (s0 _ _ eb), atI0, y, _, _, _, _, rfl, .ty _, (dy.same s0).ty, kit_str dx, _, rfl, ?_⟩
    by_cases isf : isStrD dx = false
    · rw [isf]
      refine iteT ?_
      have q0 := q _ s0
      have e : actL xs (.tuple (dx :: rest)) = false := by
        cases dx with
        | str z => cases isf
        | _ => rfl
      rw [e] at q0
      exact q0
    have is' : isStrD dx = true := by simpa using isf
    obtain ⟨z, rfl, rfl⟩ : ∃ z, y = .str z ∧ dx = .str z := by
      cases dy with
      | str z => exact ⟨z, rfl, rfl⟩
      | _ => cases is'
    rw [is']
    refine iteF ?_
    obtain ⟨ps, eac, hps⟩ := hac
    have lps := hps.length
    generalize upd H e0 (.tup []) = H0 at s0
    -- the counts
    refine ⟨_, rfl, ac, rfl, ⟨_, SqT.of (s0 _ _ eac)⟩, fun D1 n1 => ?_⟩
    refine Lw.lc_tup (xs := ps.map V.ref) (fun j H2 => Same H0 H2 ∧ H2 D1 = some (.lst ((((xs.take j).filter fun a => decide (a.1 = z)).map (·.2)).map natV))) ⟨same_new n1, upd_same⟩ ?_ ?_ ?_
    · rintro j H2 _ ⟨s2, _⟩
      exact SqT.of (s2 _ _ (s0 _ _ eac))
    · rintro j x H2 hxj ⟨s2, e2⟩
      have hj := (List.getElem?_eq_some_iff.mp hxj).1
      rw [List.length_map] at hj
      have hj2 : j < xs.length := by omega
      have hxp : x = .ref ps[j] := by
        rw [List.getElem?_map, List.getElem?_eq_getElem hj] at hxj
        exact (Option.some.inj hxj).symm
      subst hxp
      have hx2 : xs[j]? = some xs[j] := List.getElem?_eq_getElem hj2
      have ap := Lw.Paired.get (F := Act H) j hps (List.getElem?_eq_getElem hj) hx2
      have s02 := s0.trans s2
      have ap2 := s02 _ _ ap
      have eT : xs.take (j + 1) = xs.take j ++ [xs[j]] := by
        rw [List.take_add_one, hx2]
        rfl
      generalize xs[j] = xx at hx2 ap ap2 eT
      refine ⟨ps[j], _, rfl, SqT.of ap2, rfl, _, _, rfl, _, _, rfl, rfl, rfl, ?_⟩
      refine ⟨_, rfl, _, rfl, b, _, 0, .str z, rfl, rfl, SqT.of (s02 _ _ eb), atI0, rfl, _, rfl, ?_⟩
      by_cases c : xx.1 = z
      · rw [decide_eq_true (congrArg V.str c)]
        refine iteT ⟨_, rfl, _, e2, ?_, ?_, ?_⟩
        · rw [List.length_map, List.length_map]
          exact Nat.lt_of_le_of_lt (Nat.le_trans (List.length_filter_le _ _) (Nat.le_trans (List.length_take_le _ _) (show j ≤ 1000 by omega))) (by decide)
        · intro b' o eb'
          rw [upd_ne (ne_of_none eb' n1)]
          exact s2 _ _ eb'
        · rw [upd_same, eT, List.filter_append, List.filter_cons_of_pos (by simpa using c), List.map_append, List.map_append]
          rfl
      · rw [decide_eq_false (fun w => c (V.str.inj w))]
        refine iteF ⟨s2, ?_⟩
        rw [e2, eT, List.filter_append, List.filter_cons_of_neg (by simpa using c), List.filter_nil, List.append_nil]
    · rintro H2 ⟨s2, e2⟩
      rw [List.length_map, lps, List.take_length] at e2
      have s02 := s0.trans s2
      have eL : actL xs (.tuple (.str z :: rest)) = (match xs.filter (fun a => decide (a.1 = z)) with | [] => false | a :: _ => decide (a.2 = rest.length) && rest.all wholeD) := rfl
      refine ⟨_, rfl, (by show 0 ≤ sizeLine; decide), fun e5 n5 => ⟨D1, e5, _, rfl, rfl, same_new n5 _ _ e2, upd_same, _, rfl, ?_⟩⟩
      have s5 := same_new (o := .lst []) n5
      have s05 := s02.trans s5
      have e25 := s5 _ _ e2
      generalize upd H2 e5 (.lst []) = H5 at s5 s05 e25
      cases hf : xs.filter (fun a => decide (a.1 = z)) with
      | nil =>
        refine iteT (iteT ?_)
        have q0 := q _ s05
        rw [eL, hf] at q0
        exact q0
      | cons a tl =>
        rw [hf] at e25 eL
        refine iteF ?_
        refine ⟨_, rfl, b, _, rfl, .inr (SqT.of (s05 _ _ eb)), _, rfl, D1, _, 0, natV a.2, rfl, rfl, SqL.of e25, atI0, _, _, rfl, rfl, rfl, _, rfl, ?_⟩
        by_cases c : a.2 = rest.length
        · rw [decide_eq_true (show V.int (((V.str z :: yr).length : Nat) : Int) = V.int (1 + (a.2 : Int)) from congrArg V.int (by rw [List.length_cons, lr, c]; omega))]
          refine iteF ?_
          refine ⟨_, rfl, _, rfl, b, _, rfl, s05 _ _ eb, fun p1 H6 s6 e6 o6 => ?_⟩
          have ec : cutV (V.str z :: yr) (some 1) none = yr := cut_drop (V.str z :: yr) 1
          rw [ec] at e6
          have s06 := s05.trans s6
          refine ⟨p1, rfl, ⟨yr, SqT.of e6⟩, fun D2 n2 => ?_⟩
          refine Lw.lc_tup (xs := yr) (fun j H7 => Same H6 H7 ∧ H7 D2 = some (.lst (((rest.take j).map wholeD).map V.bl))) ⟨same_new n2, upd_same⟩ ?_ ?_ ?_
          · rintro j H7 _ ⟨s7, _⟩
            exact SqT.of (s7 _ _ e6)
          · rintro j x H7 hxj ⟨s7, e7⟩
            obtain ⟨dz, hdz, hD⟩ := DA.get j dr hxj
            have hj := (List.getElem?_eq_some_iff.mp hxj).1
            have hD7 := hD.same (s06.trans s7)
            refine ⟨rfl, ?_⟩
            dsimp only [tYes]
            refine iteT ?_
            have nxt : ∀ bb, bb = wholeD dz → ∃ acc, H7 D2 = some (.lst acc) ∧ acc.length < sizeLine ∧ Same H6 (upd H7 D2 (.lst (acc ++ [V.bl bb]))) ∧ upd H7 D2 (.lst (acc ++ [V.bl bb])) D2 = some (.lst (((rest.take (j + 1)).map wholeD).map V.bl)) := by
              intro bb hbb
              subst hbb
              refine ⟨_, e7, ?_, ?_, ?_⟩
              · rw [List.length_map, List.length_map]
                exact Nat.lt_of_le_of_lt (Nat.le_trans (List.length_take_le _ _) (show j ≤ 200000 by simp only [List.length_cons] at hlen; omega)) (by decide)
              · intro b' o eb'
                rw [upd_ne (ne_of_none eb' n2)]
                exact s7 _ _ eb'
              · rw [upd_same, List.take_add_one, hdz, List.map_append, List.map_append]
                rfl
            refine ⟨x, rfl, x, _, _, _, _, rfl, .ty _, hD7.ty, kit_int dz, _, rfl, ?_⟩
            cases dz with
            | int i => exact iteT ⟨x, rfl, x, _, _, _, _, rfl, .ty _, hD7.ty, kit_bool _, _, rfl, nxt _ rfl⟩
            | bool bb => exact iteT ⟨x, rfl, x, _, _, _, _, rfl, .ty _, hD7.ty, kit_bool _, _, rfl, nxt _ rfl⟩
            | none => exact iteF (nxt _ rfl)
            | str _ => exact iteF (nxt _ rfl)
            | list _ => exact iteF (nxt _ rfl)
            | tuple _ => exact iteF (nxt _ rfl)
            | dict _ => exact iteF (nxt _ rfl)
          · rintro H7 ⟨s7, e7⟩
            rw [lr, List.take_length] at e7
            refine ⟨D2, rest.map wholeD, rfl, SqL.of e7, ?_⟩
            have q0 := q H7 (s06.trans s7)
            have e : actL xs (.tuple (.str z :: rest)) = ((rest.map wholeD).all id) := by
              rw [eL, List.all_map]
              show (decide (a.2 = rest.length) && rest.all wholeD) = _
              rw [decide_eq_true c, Bool.true_and]
              rfl
            rw [e] at q0
            exact q0
        · rw [decide_eq_false (show ¬ V.int (((V.str z :: yr).length : Nat) : Int) = V.int (1 + (a.2 : Int)) from fun w => by injection w with w; rw [List.length_cons, lr] at w; omega)]
          refine iteT ?_
          have q0 := q _ s05
          have e : actL xs (.tuple (.str z :: rest)) = false := by
            rw [eL]
            show (decide (a.2 = rest.length) && rest.all wholeD) = false
            rw [decide_eq_false c, Bool.false_and]
          rw [e] at q0
          exact q0
end

end Z

namespace Z
open PySem PySem.Spec PyProof.Rows L2 Lw

section
variable {P : Program} {w : World} {K : PySem.W.Frag} {mg : Str → Option Value} {base : Heap}
def sp_isrow : Sp := fun vs H Q _ => ∃ (ac gt : Addr) (v : V) (d : PyData) (f : Bool) (xs : List (Str × Nat)) (gs : List (List (Option Nat))), vs = [.ref ac, .ref gt, v] ∧ Acts H ac xs ∧ (xs.map (·.1)).Nodup ∧ xs.length ≤ 100 ∧ Gt H gt gs ∧ GOk xs.length gs ∧ D f H v d ∧ d.weight ≤ 200000 ∧ ∀ H', Same H H' → Q (.bl (histD gs xs d)) H'
theorem ok_isrow (T : Txt K mg) {k : Nat} : FnOk P w K mg base CX0 (k + 2) T.f__law_is_row T.fd__law_is_row ["_law_acts", "_law_gate_here", "_law_item"] sp_isrow := by
  have G__law_is_act := ok_act (P := P) (w := w) (base := base) T (k := k)
  refine T.F__law_is_row.ok (k := k + 1) sc__law_is_row (fun vs H Q E h => ?_) (fun cdv A outer s H vs Q E hr h => ?_)
  · obtain ⟨ac, gt, v, d, f, xs, gs, rfl, _⟩ := h
    rfl
  obtain ⟨ac, gt, v, d, f, xs, gs, rfl, hac, nd, hx, hgt, hgo, hd, hw, q⟩ := h
  refine ⟨_, (pss_cons (ps_if (PW.pt (pw_or (pt_not (pt_val (pe_callB call_isi (by rfl) T.m_isinstance (by decide +kernel) (pa_cons (pv 2) (pa_cons (pe_bltn (v := .ty "tuple") (by rfl) T.m_tuple (by decide +kernel) rfl) pa_nil))))) (pw_or1 (pt_not (pt_val (pe_callB (cr_all rfl) (by rfl) T.m_all (by decide +kernel) (pa_cons (pe_lc (own := [("_law_part", 3)]) (g := gName 3) (tt := tYes) rfl sc__law_is_row.nd (pi_tup (pv 2)) (blkOk_by (N := ["_law_acts", "_law_gate_here", "_law_item", "_law_part", "_law_stead", "_law_names_here", "_law_name", "_law_count"]) (sc := defScope s__law_is_row) (by decide +kernel)) (fun _ _ _ _ _ => (pg_name (i := 3) sc__law_is_row.nd rfl (Or.inl rfl))) (fun _ _ _ _ _ => pts_nil) (fun _ _ _ _ _ => (pe_call G__law_is_act hr (by rfl) T.g__law_is_act T.k__law_is_act T.b__law_is_act .nil pass0 (pa_cons (pv 0) (pa_cons (pv 3) pa_nil))))) pa_nil))))))) (pss_one (ps_ret pe_bl)) pss_nil)
      (pss_cons (ps_par (i := 4) (j := 5) rfl sc__law_is_row.nd rfl rfl (by decide) rfl rfl (pa_cons pe_int (pa_cons (pe_lc (own := [("_law_name", 6), ("_law_count", 7)]) (g := gTup K 2 (gCons (gName 6) (gCons (gName 7) gNil))) (tt := tYes) rfl sc__law_is_row.nd (pi_tup (pv 0)) (blkOk_by (N := ["_law_acts", "_law_gate_here", "_law_item", "_law_part", "_law_stead", "_law_names_here", "_law_name", "_law_count"]) (sc := defScope s__law_is_row) (by decide +kernel)) (fun _ _ _ _ _ => (pg_tup rfl (pgs_cons (pg_name (i := 6) sc__law_is_row.nd rfl (.inl rfl)) (pgs_cons (pg_name (i := 7) sc__law_is_row.nd rfl (.inl rfl)) pgs_nil)))) (fun _ _ _ _ _ => pts_nil) (fun _ _ _ _ _ => (pv 6))) pa_nil)) (by rfl))
      (pss_cons (ps_for PassesOwn.never rfl (pi_tup (pv 2)) (pg_name (i := 3) sc__law_is_row.nd rfl (.inl rfl)) (pss_one (ps_set (i := 4) sc__law_is_row.nd rfl (.inl rfl) (pe_ifExp (pt_cmp (pc_isN (pv 4))) pe_non (pe_ix ix_tup (pe_ix ix_tup (pv 1) (pv 4) (fun _ _ => rfl)) (pe_bm PySem.F.plainAttrs_list PySem.F.slot_list_index PySem.F.type_list_index mt_index (pv 5) (pa_cons (pe_ix ix_tup (pv 3) pe_int (fun _ _ => rfl)) pa_nil)) (fun _ _ => rfl))))))
      (pss_one (ps_ret (pe_cmp (pc_notN (pv 4)))))))), ?_⟩
  refine ⟨v, rfl, v, _, _, _, _, rfl, .ty _, hd.ty, kit_tup d, _, rfl, ?_⟩
  by_cases itf : isTupD d = false
  · rw [itf]
    refine iteT (iteT ?_)
    have q0 := q H (Same.refl H)
    have e : histD gs xs d = false := by
      cases d with
      | tuple ds => cases itf
      | _ => rfl
    rw [e] at q0
    exact q0
  have it : isTupD d = true := by simpa using itf
  obtain ⟨ds, rfl⟩ : ∃ ds, d = .tuple ds := by
    cases d with
    | tuple ds => exact ⟨ds, rfl⟩
    | _ => cases it
  refine iteF ?_
  obtain ⟨b, ys, rfl, eb, da⟩ := hd.tupOf
  have hl := da.length
  have hw' : PyData.weightAll ds ≤ 200000 := by
    simp only [PyData.weight] at hw
    exact hw
  have hlen : ds.length ≤ 200000 := Nat.le_trans (len_le_wa ds) hw'
  refine ⟨_, rfl, b, rfl, ⟨_, SqT.of eb⟩, fun D1 n1 => ?_⟩
  refine Lw.lc_tup (xs := ys) (fun j H2 => Same H H2 ∧ H2 D1 = some (.lst (((ds.take j).map (actL xs)).map V.bl))) ⟨same_new n1, upd_same⟩ ?_ ?_ ?_
  · rintro j H2 _ ⟨s2, _⟩
    exact SqT.of (s2 _ _ eb)
  · rintro j x H2 hxj ⟨s2, e2⟩
    obtain ⟨dz, hdz, hD⟩ := DA.get j da hxj
    have hj := (List.getElem?_eq_some_iff.mp hxj).1
    refine ⟨rfl, ?_⟩
    dsimp only [tYes]
    refine iteT ?_
    refine ⟨_, rfl, _, rfl, ac, x, dz, f, xs, rfl, hac.tk (TK.of_same s2), hx, hD.same s2, Nat.le_trans (wt_mem (List.mem_of_getElem? hdz)) hw', fun H3 s3 => ?_⟩
    refine ⟨_, s3 _ _ e2, ?_, ?_, ?_⟩
    · rw [List.length_map, List.length_map]
      exact Nat.lt_of_le_of_lt (Nat.le_trans (List.length_take_le _ _) (show j ≤ 200000 by omega)) (by decide)
    · intro b' o eb'
      rw [upd_ne (ne_of_none eb' n1)]
      exact s3 _ _ (s2 _ _ eb')
    · rw [upd_same, List.take_add_one, hdz, List.map_append, List.map_append]
      rfl
  · rintro H2 ⟨s2, e2⟩
    rw [hl, List.take_length] at e2
    refine ⟨D1, ds.map (actL xs), rfl, SqL.of e2, _, rfl, ?_⟩
    have eall : ((ds.map (actL xs)).all id) = ds.all (actL xs) := by
      rw [List.all_map]
      rfl
    rw [eall]
    cases hall : ds.all (actL xs) with
    | false =>
      refine iteT ?_
      have q0 := q H2 s2
      have e : histD gs xs (.tuple ds) = false := by
        refine go_bad gs xs ds 0 ?_
        have h1 : ¬ ∀ x ∈ ds, actL xs x = true := fun h => by
          rw [List.all_eq_true.mpr h] at hall
          cases hall
        by_cases c : ∃ x ∈ ds, actL xs x = false
        · obtain ⟨x, hx1, hx2⟩ := c
          exact ⟨x, hx1, by rw [act_same nd]; exact hx2⟩
        · exact absurd (fun x hx' => by
            cases hh : actL xs x with
            | true => rfl
            | false => exact absurd ⟨x, hx', hh⟩ c) h1
      rw [e] at q0
      exact q0
    | true =>
      refine iteF ?_
      have hsome : ∀ x ∈ ds, (actOf xs x).isSome = true := fun x hx' => by
        rw [act_same nd]
        exact List.all_eq_true.mp hall x hx'
      obtain ⟨ps, eac, hps⟩ := hac
      have lps := hps.length
      refine ⟨_, rfl, ac, rfl, ⟨_, SqT.of (s2 _ _ eac)⟩, fun D2 n2 => ?_⟩
      refine Lw.lc_tup (xs := ps.map V.ref) (fun j H3 => Same H2 H3 ∧ H3 D2 = some (.lst (((xs.map (·.1)).take j).map V.str))) ⟨same_new n2, upd_same⟩ ?_ ?_ ?_
      · rintro j H3 _ ⟨s3, _⟩
        exact SqT.of (s3 _ _ (s2 _ _ eac))
      · rintro j x H3 hxj ⟨s3, e3⟩
        have hj := (List.getElem?_eq_some_iff.mp hxj).1
        rw [List.length_map] at hj
        have hj2 : j < xs.length := by omega
        have hxp : x = .ref ps[j] := by
          rw [List.getElem?_map, List.getElem?_eq_getElem hj] at hxj
          exact (Option.some.inj hxj).symm
        subst hxp
        have hx2 : xs[j]? = some xs[j] := List.getElem?_eq_getElem hj2
        have ap := Lw.Paired.get (F := Act H) j hps (List.getElem?_eq_getElem hj) hx2
        have ap3 := (s2.trans s3) _ _ ap
        refine ⟨ps[j], _, rfl, SqT.of ap3, rfl, _, _, rfl, _, _, rfl, rfl, rfl, ?_⟩
        dsimp only [tYes]
        refine iteT ⟨_, rfl, _, e3, ?_, ?_, ?_⟩
        · rw [List.length_map]
          exact Nat.lt_of_le_of_lt (Nat.le_trans (List.length_take_le _ _) (show j ≤ 1000 by omega)) (by decide)
        · intro b' o eb'
          rw [upd_ne (ne_of_none eb' n2)]
          exact s3 _ _ eb'
        · rw [upd_same, List.take_add_one, List.getElem?_map, hx2, List.map_append]
          rfl
      · rintro H3 ⟨s3, e3⟩
        rw [List.length_map, lps, show xs.length = (xs.map (·.1)).length by rw [List.length_map], List.take_length] at e3
        have s03 := s2.trans s3
        refine ⟨_, _, rfl, ?_⟩
        refine ⟨_, rfl, b, rfl, ⟨ys, SqT.of (s03 _ _ eb)⟩, for_tup (xs := ys) (fun i σ H' => Same H3 H' ∧ ∃ (cur : Option Nat) (y3 : Option V), σ = [some (.ref ac), some (.ref gt), some (.ref b), y3, some (spv cur), some (.ref D2), none, none] ∧ (∀ pl, cur = some pl → pl < gs.length) ∧ wkD gs xs (some 0) ds = wkD gs xs cur (ds.drop i)) ?_ ?_ ?_ ?_⟩
        · exact ⟨Same.refl H3, some 0, _, rfl, fun pl h => by cases h; have := hgo.1; omega, rfl⟩
        · rintro i σ H' _ ⟨s4, _⟩
          exact SqT.of (s4 _ _ (s03 _ _ eb))
        · rintro i x σ H4 hxi ⟨s4, cur, y3, rfl, hcur, hwk⟩
          have s04 := s03.trans s4
          obtain ⟨dx, hdx, hD⟩ := DA.get i da hxi
          obtain ⟨hid, hdx2⟩ := List.getElem?_eq_some_iff.mp hdx
          have edrop : ds.drop i = dx :: ds.drop (i + 1) := by
            rw [List.drop_eq_getElem_cons hid, hdx2]
          rw [edrop] at hwk
          refine ⟨_, rfl, _, rfl, ?_⟩
          rw [spv_non]
          cases cur with
          | none =>
            refine iteT ⟨s4, none, _, rfl, (fun pl h => by cases h), ?_⟩
            rw [hwk, wk_none, wk_none]
          | some pl =>
            refine iteF ?_
            have hpl := hcur pl rfl
            obtain ⟨n, hn⟩ := Option.isSome_iff_exists.mp (hsome dx (List.mem_of_getElem? hdx))
            have hnl := actOf_lt hn
            obtain ⟨z, rest, ez, hz, hzm⟩ := act_name nd hn
            subst ez
            obtain ⟨bx, yx, rfl, ebx, dax⟩ := hD.tupOf
            cases dax with
            | @cons y yr _ _ dy dr =>
            obtain rfl : y = .str z := by
              cases dy
              rfl
            have hgt4 := hgt.tk (TK.of_same s04)
            obtain ⟨gx, gp, row, egt, egp, erow, lrow, hrow⟩ := hgt4.at hgo hpl
            obtain ⟨o, ho⟩ : ∃ o, row[n]? = some o := ⟨_, List.getElem?_eq_getElem (by omega)⟩
            have hst := hrow n
            rw [ho, Option.join_some] at hst
            have e34 := s4 _ _ e3
            refine ⟨_, rfl, _, rfl, gt, gx, ((pl : Nat) : Int), .ref gp, rfl, rfl, SqT.of egt, atI_nat egp, ?_⟩
            refine ⟨_, rfl, .inl ⟨rfl, _, SqL.of e34⟩, _, rfl, bx, _, 0, .str z, rfl, rfl, SqT.of (s04 _ _ ebx), atI0, ?_⟩
            refine ⟨D2, _, .str z, n, .str z, rfl, rfl, SqL.of e34, rfl, ?_, ?_, ?_, ?_, ?_⟩
            · rw [List.all_map]
              exact List.all_eq_true.mpr fun _ _ => rfl
            · rw [List.getElem?_map, hz]
              rfl
            · show (z == z) = true
              simp
            · intro m z' hm hz'
              rw [List.getElem?_map] at hz'
              obtain ⟨w', hw1, hw2⟩ := Option.map_eq_some_iff.mp hz'
              have := hzm m w' hm hw1
              subst hw2
              show (w' == z) = false
              simpa using this
            refine ⟨gp, _, ((n : Nat) : Int), spv o, rfl, rfl, SqT.of erow, atI_nat (by rw [List.getElem?_map, ho]; rfl), s4, o, _, rfl, fun pl' h => ?_, ?_⟩
            · subst h
              exact stepG_lt hgo hst.symm
            · rw [hwk]
              show wkD gs xs ((actOf xs (.tuple (.str z :: rest))).bind fun n => stepG gs pl n) (ds.drop (i + 1)) = _
              rw [hn]
              show wkD gs xs (stepG gs pl n) (ds.drop (i + 1)) = _
              rw [← hst]
        · rintro σ H4 ⟨s4, cur, y3, rfl, hcur, hwk⟩
          rw [hl, List.drop_length] at hwk
          refine ⟨_, rfl, ?_⟩
          have q0 := q H4 (s03.trans s4)
          have e : histD gs xs (.tuple ds) = !decide (spv cur = V.non) := by
            show goD gs xs 0 ds = _
            rw [go_wk gs xs ds 0 hsome, hwk, spv_non]
            cases cur <;> rfl
          rw [e] at q0
          exact q0
end

end Z

namespace Z
open PySem PySem.Spec PyProof.Rows L2 Lw

section
variable {P : Program} {w : World} {K : PySem.W.Frag} {mg : Str → Option Value} {base : Heap}
def sp_right : Sp := fun vs H Q _ => ∃ (pg c ac mo gt : Addr) (ws : List Str) (xs : List (Str × Nat)) (ms : List V) (gs : List (List (Option Nat))) (v : V) (d : PyData), vs = [.ref pg, .ref gt, v] ∧ PrgP H pg c ac mo ws xs ms ∧ 1 ≤ xs.length ∧ xs.length ≤ 100 ∧ (xs.map (·.1)).Nodup ∧ Gt H gt gs ∧ GOk xs.length gs ∧ D true H v d ∧ Ok d ∧ d.weight ≤ 200000 ∧
  ∀ H', Same H H' → Q (.bl true) H'
theorem ok_right (T : Txt K mg) {k : Nat} : FnG P w K mg base (k + 4) T.f__law_right T.fd__law_right ["_law_prog_here", "_law_gate_here", "_law_some"] sp_right := by
  have G_is_history := ok_hist (P := P) (w := w) (base := base) T (k := k)
  have G__law_is_row := (ok_isrow (P := P) (w := w) (base := base) T (k := k)).mono (show k + 2 ≤ k + 3 by omega)
  refine okG (k := k + 3) T.F__law_right sc__law_right (fun vs H Q E h => ?_) (fun cdv A outer s H vs Q E hgd hr h => ?_)
  · obtain ⟨pg, c, ac, mo, gt, ws, xs, ms, gs, v, d, rfl, _⟩ := h
    rfl
  obtain ⟨pg, c, ac, mo, gt, ws, xs, ms, gs, v, d, rfl, hp, hx1, hx2, nd, hgt, hgo, hd, okd, hw, q⟩ := h
  refine ⟨_, (pss_cons (ps_par (i := 3) (j := 4) rfl sc__law_right.nd rfl rfl (by decide) rfl rfl (pa_cons (pe_callB (call_repr hgd hr) (by rfl) T.m_repr (by decide +kernel) (pa_cons (pv 2) pa_nil)) (pa_cons (pe_tup (pa_cons (pe_op op_repU (pe_tup (pa_cons pe_int pa_nil)) (pe_callB call_len_seq (by rfl) T.m_len (by decide +kernel) (pa_cons (pe_ix ix_tup (pv 0) pe_int (fun _ _ => rfl)) pa_nil))) pa_nil)) pa_nil)) (by rfl))
      (pss_cons (ps_set (i := 5) sc__law_right.nd rfl (.inl rfl) (pe_lst (pa_cons (pe_callK G_is_history hr (by rfl) T.g_is_history T.k_is_history T.kc_is_history pass0 (pa_cons (pv 0) (pa_cons (pv 2) pa_nil)) (pk_cons (pv 1) pk_nil)) (pa_cons (pe_kw0 G_is_history hr (by rfl) T.g_is_history T.k_is_history T.kb_is_history (pk_cons (pv 0) (pk_cons (pv 2) (pk_cons (pv 1) pk_nil)))) pa_nil))))
      (pss_cons (ps_set (i := 5) sc__law_right.nd rfl (.inl rfl) (pe_op op_cat (pv 5) (pe_lst (pa_cons (pe_call G_is_history hr (by rfl) T.g_is_history T.k_is_history T.bd_is_history (show Vals [V.non] [Value.none] from .cons (show L2.RelV V.non Value.none from rfl) .nil) pass0 (pa_cons (pv 0) (pa_cons (pv 2) pa_nil))) (pa_cons (pe_callK G_is_history hr (by rfl) T.g_is_history T.k_is_history T.kc_is_history pass0 (pa_cons (pv 0) (pa_cons (pv 2) pa_nil)) (pk_cons pe_non pk_nil)) pa_nil)))))
      (pss_cons (ps_set (i := 6) sc__law_right.nd rfl (.inl rfl) (pe_op op_cat (pe_op op_rep (pe_lst (pa_cons (pe_call G__law_is_row hr (by rfl) T.g__law_is_row T.k__law_is_row T.b__law_is_row .nil pass0 (pa_cons (pe_ix ix_tup (pv 0) pe_int (fun _ _ => rfl)) (pa_cons (pv 1) (pa_cons (pv 2) pa_nil)))) pa_nil)) pe_int) (pe_op op_rep (pe_lst (pa_cons (pe_call G__law_is_row hr (by rfl) T.g__law_is_row T.k__law_is_row T.b__law_is_row .nil pass0 (pa_cons (pe_ix ix_tup (pv 0) pe_int (fun _ _ => rfl)) (pa_cons (pv 4) (pa_cons (pv 2) pa_nil)))) pa_nil)) pe_int)))
      (pss_one (ps_ret (pe_and (pe_cmpR op_eq (pe_callB (call_repr hgd hr) (by rfl) T.m_repr (by decide +kernel) (pa_cons (pv 5) pa_nil)) (pe_callB (call_repr hgd hr) (by rfl) T.m_repr (by decide +kernel) (pa_cons (pv 6) pa_nil)) (nomark _)) (pe_one (pe_cmpR op_eq (pe_callB (call_repr hgd hr) (by rfl) T.m_repr (by decide +kernel) (pa_cons (pv 2) pa_nil)) (pv 3) (nomark _)))))))))), ?_⟩
  obtain ⟨ps, eac, hps⟩ := id hp.as
  have lps := hps.length
  have lpm : (ps.map V.ref).length = xs.length := by rw [List.length_map]; exact lps
  -- kept, plain
  refine ⟨v, rfl, v, d, true, rfl, hd, fun _ => rfl, okd, (by show 1 ≤ sizeLine; decide), fun p1 n1 => ?_⟩
  have s1 := same_new (o := .tup [.int 0]) n1
  refine ⟨_, rfl, pg, _, 1, _, rfl, rfl, SqT.of (s1 _ _ hp.e), rfl, ac, _, rfl, .inr (SqT.of (s1 _ _ eac)), p1, _, _, rfl, rfl, made n1, (by simp), by omega, by omega, (by show 1 ≤ 1000; decide), fun p2 H2 s2 e2 _ => ?_⟩
  refine ⟨(by show 1 ≤ sizeLine; decide), fun p3 n3 => ⟨_, _, rfl, ?_⟩⟩
  have s3 := same_new (o := .tup [.ref p2]) n3
  have s03 := s1.trans (s2.trans s3)
  have eF : (List.replicate (((ps.map V.ref).length : Int)).toNat [V.int 0]).flatten = (List.replicate xs.length (some 0)).map spv := by
    rw [show (((ps.map V.ref).length : Int)).toNat = xs.length by omega, rep_one, List.map_replicate]
    rfl
  rw [eF] at e2
  have hgp : Gt (upd H2 p3 (.tup [.ref p2])) p3 (freeG xs.length) := ⟨[p2], made n3, .cons (s3 _ _ e2) .nil⟩
  generalize upd H2 p3 (.tup [.ref p2]) = H3 at s03 hgp
  clear s3
  have F0 : ∀ {H' : Hp}, Same H H' → H' pg = some (.tup [.ref c, .ref ac, .ref mo]) ∧ Acts H' ac xs ∧ Gt H' gt gs ∧ D true H' v d := fun s' => ⟨s' _ _ hp.e, hp.as.tk (TK.of_same s'), hgt.tk (TK.of_same s'), hd.same s'⟩
  -- answers
  obtain ⟨a1, a2, a3, a4⟩ := F0 s03
  refine ⟨_, rfl, _, rfl, _, rfl, pg, c, ac, mo, v, .ref gt, d, true, xs, gs, rfl, a1, a2, hx1, hx2, .inr ⟨gt, rfl, a3⟩, hgo, a4, hw, fun H4 s4 => ?_⟩
  have s04 := s03.trans s4
  obtain ⟨b1, b2, b3, b4⟩ := F0 s04
  refine ⟨_, rfl, _, rfl, _, rfl, pg, c, ac, mo, v, .ref gt, d, true, xs, gs, rfl, b1, b2, hx1, hx2, .inr ⟨gt, rfl, b3⟩, hgo, b4, hw, fun H5 s5 => ?_⟩
  have s05 := s04.trans s5
  refine ⟨(by show 2 ≤ sizeLine; decide), fun l1 nl1 => ?_⟩
  have s6 := same_new (o := .lst [.bl (histD gs xs d), .bl (histD gs xs d)]) nl1
  have s06 := s05.trans s6
  obtain ⟨c1, c2, c3, c4⟩ := F0 s06
  refine ⟨_, rfl, _, rfl, _, rfl, pg, c, ac, mo, v, .non, d, true, xs, freeG xs.length, rfl, c1, c2, hx1, hx2, .inl ⟨rfl, rfl⟩, freeG_ok _, c4, hw, fun H7 s7 => ?_⟩
  have s07 := s06.trans s7
  obtain ⟨d1, d2, d3, d4⟩ := F0 s07
  refine ⟨_, rfl, _, rfl, pg, c, ac, mo, v, .non, d, true, xs, freeG xs.length, rfl, d1, d2, hx1, hx2, .inl ⟨rfl, rfl⟩, freeG_ok _, d4, hw, fun H8 s8 => ?_⟩
  have s08 := s07.trans s8
  refine ⟨(by show 2 ≤ sizeLine; decide), fun l2 nl2 => ?_⟩
  have s9 := same_new (o := .lst [.bl (histD (freeG xs.length) xs d), .bl (histD (freeG xs.length) xs d)]) nl2
  have el1 := (s7.trans (s8.trans s9)) _ _ (made nl1)
  refine ⟨l1, l2, _, _, rfl, rfl, el1, made nl2, (by show 2 + 2 ≤ sizeLine; decide), fun l3 nl3 => ?_⟩
  have s10 := same_new (o := .lst ([.bl (histD gs xs d), .bl (histD gs xs d)] ++ [.bl (histD (freeG xs.length) xs d), .bl (histD (freeG xs.length) xs d)])) nl3
  have s0a := s08.trans (s9.trans s10)
  have el3 := made (o := .lst ([.bl (histD gs xs d), .bl (histD gs xs d)] ++ [.bl (histD (freeG xs.length) xs d), .bl (histD (freeG xs.length) xs d)])) nl3
  have hgp3 := hgp.tk (TK.of_same ((s4.trans s5).trans (s6.trans (s7.trans (s8.trans (s9.trans s10))))))
  generalize upd (upd H8 l2 (.lst [.bl (histD (freeG xs.length) xs d), .bl (histD (freeG xs.length) xs d)])) l3 (.lst ([.bl (histD gs xs d), .bl (histD gs xs d)] ++ [.bl (histD (freeG xs.length) xs d), .bl (histD (freeG xs.length) xs d)])) = HA at s0a el3 hgp3
  obtain ⟨f1, f2, f3, f4⟩ := F0 s0a
  refine ⟨_, rfl, pg, _, 1, _, rfl, rfl, SqT.of f1, rfl, _, rfl, _, rfl, ac, gt, v, d, true, xs, gs, rfl, f2, nd, hx2, f3, hgo, f4, hw, fun HB sB => ?_⟩
  refine ⟨(by show 1 ≤ sizeLine; decide), fun l4 n4 => ⟨l4, 2, _, rfl, rfl, made n4, by decide, by decide, (by show 1 * 2 ≤ sizeLine; decide), fun l5 n5 => ?_⟩⟩
  have t4 := same_new (o := .lst [.bl (histD gs xs d)]) n4
  have t5 := same_new (o := .lst (List.replicate (2 : Int).toNat [V.bl (histD gs xs d)]).flatten) n5
  have sC := sB.trans (t4.trans t5)
  have s0c := s0a.trans sC
  obtain ⟨g1, g2, g3, g4⟩ := F0 s0c
  refine ⟨_, rfl, pg, _, 1, _, rfl, rfl, SqT.of g1, rfl, _, rfl, _, rfl, ac, p3, v, d, true, xs, freeG xs.length, rfl, g2, nd, hx2, hgp3.tk (TK.of_same sC), freeG_ok _, g4, hw, fun HD sD => ?_⟩
  refine ⟨(by show 1 ≤ sizeLine; decide), fun l6 n6 => ⟨l6, 2, _, rfl, rfl, made n6, by decide, by decide, (by show 1 * 2 ≤ sizeLine; decide), fun l7 n7 => ?_⟩⟩
  have t6 := same_new (o := .lst [.bl (histD (freeG xs.length) xs d)]) n6
  have t7 := same_new (o := .lst (List.replicate (2 : Int).toNat [V.bl (histD (freeG xs.length) xs d)]).flatten) n7
  have el5 := (sD.trans (t6.trans t7)) _ _ (made (o := .lst (List.replicate (2 : Int).toNat [V.bl (histD gs xs d)]).flatten) n5)
  refine ⟨l5, l7, _, _, rfl, rfl, el5, made n7, (by show 2 + 2 ≤ sizeLine; decide), fun l8 n8 => ?_⟩
  have t8 := same_new (o := .lst ((List.replicate (2 : Int).toNat [V.bl (histD gs xs d)]).flatten ++ (List.replicate (2 : Int).toNat [V.bl (histD (freeG xs.length) xs d)]).flatten)) n8
  have sE := sC.trans (sD.trans (t6.trans (t7.trans t8)))
  have s0e := s0a.trans sE
  have el3e := sE _ _ el3
  have el8 := made (o := .lst ((List.replicate (2 : Int).toNat [V.bl (histD gs xs d)]).flatten ++ (List.replicate (2 : Int).toNat [V.bl (histD (freeG xs.length) xs d)]).flatten)) n8
  have ds4 : ∀ {H' : Hp} {l : Addr}, H' l = some (.lst [.bl (histD gs xs d), .bl (histD gs xs d), .bl (histD (freeG xs.length) xs d), .bl (histD (freeG xs.length) xs d)]) → D false H' (.ref l) (.list [.bool (histD gs xs d), .bool (histD gs xs d), .bool (histD (freeG xs.length) xs d), .bool (histD (freeG xs.length) xs d)]) := fun e => .lst e (fun z => by cases z) (.cons (.bl _) (.cons (.bl _) (.cons (.bl _) (.cons (.bl _) .nil))))
  have ok4 : Ok (.list [.bool (histD gs xs d), .bool (histD gs xs d), .bool (histD (freeG xs.length) xs d), .bool (histD (freeG xs.length) xs d)]) := (Bd.list (n := 1) (m := 1) (k := 8) (fun x hx => by
    simp only [List.mem_cons, List.not_mem_nil, or_false] at hx
    rcases hx with e | e | e | e <;> rw [e] <;> exact Bd.flat0 (.inr (.inl ⟨_, rfl⟩)) (by decide) (by decide)) (by exact Nat.le_refl 8)).ok (by decide) (by decide)
  refine ⟨_, rfl, .ref l3, _, false, rfl, ds4 el3e, (by intro h; simp [PyData.hasDict, PyData.hasDictAll] at h), ok4, _, rfl, .ref l8, _, false, rfl, ds4 el8, (by intro h; simp [PyData.hasDict, PyData.hasDictAll] at h), ok4, rfl, _, rfl, ?_⟩
  rw [decide_eq_true rfl]
  refine iteT ?_
  refine ⟨v, rfl, v, d, true, rfl, (F0 s0e).2.2.2, fun _ => rfl, okd, _, rfl, rfl, ?_⟩
  rw [decide_eq_true rfl]
  exact q _ s0e
end

end Z

namespace Z
open PySem PySem.Spec PyProof.Rows L2 Lw

section
variable {P : Program} {w : World} {K : PySem.W.Frag} {mg : Str → Option Value} {base : Heap}
theorem onto {Hs H H' : Hp} {hp : Addr} (s : Same Hs H) (k : Kp hp H H') (n : Hs hp = none) : Same Hs H' := fun b o e => k b o (fun z => by rw [z, n] at e; cases e) (s b o e)
theorem same_set {Hs H : Hp} {p : Addr} {o : HO} (s : Same Hs H) (n : Hs p = none) : Same Hs (upd H p o) := fun b u e => by
  have nb : b ≠ p := fun z => by
    rw [z, n] at e
    cases e
  rw [upd_ne nb]
  exact s b u e
theorem same_cons {H : Hp} {p : Addr} {o : HO} {L : List Addr} (n : H p = none) : Same (remL L H) (remL (p :: L) (upd H p o)) := fun b u e => by
  obtain ⟨nb, g⟩ := remL_some e
  have np : b ≠ p := fun z => by
    rw [z, n] at g
    cases g
  rw [remL_ne (fun z => (List.mem_cons.mp z).elim np nb), upd_ne np]
  exact g
theorem ba_ints {n : Nat} : ∀ {is : List Int}, (∀ i ∈ is, i.natAbs < 10 ^ 60) → BA n (211 * is.length) (is.map PyData.int)
  | [], _ => BA.nil
  | i :: is, h => by
    have b := BA.append (BA.one (Bd.int (n := n) (i := i) (Nat.lt_trans (h i List.mem_cons_self) (by decide +kernel)))) (ba_ints (n := n) (is := is) fun j hj => h j (List.mem_cons_of_mem _ hj))
    refine BA.mono b (Nat.le_refl _) ?_
    rw [List.length_cons]
    omega
theorem deed_gd {xs : List (Str × Nat)} (hxs : ∀ x ∈ xs, (Lt x.1 ∧ x.1.length ≤ 8) ∧ x.2 ≤ 2) {d : PyData} (h : IsDeed xs d) : Bd 1 431 d ∧ inB (10 ^ 60) d = true := by
  obtain ⟨z, is, rfl, hm, hi⟩ := h
  have hx := hxs _ hm
  refine ⟨?_, ?_⟩
  · have b := BA.append (BA.one (bd_str (n := 0) hx.1.1 hx.1.2)) (ba_ints (n := 0) hi)
    have hl : is.length ≤ 2 := hx.2
    exact b.tuple.mono (Nat.le_refl _) (by omega)
  · refine inB_tup.mpr fun x hx' => ?_
    rcases List.mem_cons.mp hx' with e | e
    · rw [e]
      simp [inB]
    · obtain ⟨i, hi1, rfl⟩ := List.mem_map.mp e
      exact inB_small (hi i hi1)
theorem deeds_da {L : List Addr} {H : Hp} (hL : LL L H) : ∀ {us : List V} {ds : List PyData}, Deeds H us ds → DA true (remL L H) us ds
  | _, _, .nil => .nil
  | _, _, .cons ⟨p, z, is, e1, e2, e3⟩ t => by
    subst e1 e2
    exact .cons (.tup (hL.out e3) (.cons (.str z) (da_ints is))) (deeds_da hL t)
theorem row_ba {xs : List (Str × Nat)} (hxs : ∀ x ∈ xs, (Lt x.1 ∧ x.1.length ≤ 8) ∧ x.2 ≤ 2) {ds : List PyData} (h : ∀ d ∈ ds, IsDeed xs d) (hl : ds.length ≤ 10) : BA 1 4320 ds ∧ ∀ d ∈ ds, inB (10 ^ 60) d = true := by
  obtain ⟨a, b, c, e⟩ := all_of (n := 1) (m := 431) fun d hd => (deed_gd hxs (h d hd)).1
  exact ⟨⟨a, b, c, by have := Nat.mul_le_mul_right 432 hl; omega⟩, fun d hd => (deed_gd hxs (h d hd)).2⟩
def sp_law (K : PySem.W.Frag) : Sp := fun vs H Q _ => ∃ (a : Addr) (ns : List Int), vs = [.ref a] ∧ SqL K H a (ns.map V.int) ∧ ns.length ≤ 63 ∧ ∀ H', Q (.bl true) H'
theorem ok_law (T : Txt K mg) {k : Nat} : FnG P w K mg base (k + 8) T.f_law T.fd_law ["_law_script"] (sp_law K) := by
  have G__law_hand := (ok_hand (P := P) (w := w) (base := base) T (k := k)).mono (show k + 1 ≤ k + 7 by omega)
  have G__law_take := (ok_take (P := P) (w := w) (base := base) T (k := k)).mono (show k + 1 ≤ k + 7 by omega)
  have G__law_prog := ok_prog (P := P) (w := w) (base := base) T (k := k)
  have G__law_gate := (ok_gate (P := P) (w := w) (base := base) T (k := k)).mono (show k + 2 ≤ k + 7 by omega)
  have G__law_row := (ok_row (P := P) (w := w) (base := base) T (k := k)).mono (show k + 3 ≤ k + 7 by omega)
  have G__law_bent := ok_bent (P := P) (w := w) (base := base) T (k := k) 3
  have G__law_right := ok_right (P := P) (w := w) (base := base) T (k := k + 3)
  refine okG (k := k + 7) T.F_law sc_law (fun vs H Q E h => ?_) (fun cdv A outer s H vs Q E hgd hr h => ?_)
  · obtain ⟨a, ns, rfl, _⟩ := h
    rfl
  obtain ⟨a, ns, rfl, hS, h63, q⟩ := h
  refine ⟨_, (pss_cons (ps_for PassesOwn.never rfl (pi_range1 (by rfl) T.m_range (pa_cons (pe_callB (call_max2 rfl) (by rfl) T.m_max (by decide +kernel) (pa_cons pe_int (pa_cons (pe_callB (call_min2 rfl) (by rfl) T.m_min (by decide +kernel) (pa_cons pe_int (pa_cons (pe_callB call_len_seq (by rfl) T.m_len (by decide +kernel) (pa_cons (pv 0) pa_nil)) pa_nil))) pa_nil))) pa_nil)) (pg_name (i := 1) sc_law.nd rfl (.inl rfl)) (pss_cons (ps_set (i := 2) sc_law.nd rfl (.inl rfl) (pe_call G__law_hand hr (by rfl) T.g__law_hand T.k__law_hand T.b__law_hand .nil pass0 (pa_cons (pv 0) (pa_cons (pv 1) pa_nil))))
      (pss_cons (ps_set (i := 3) sc_law.nd rfl (.inr rfl) (pe_call G__law_prog hr (by rfl) T.g__law_prog T.k__law_prog T.b__law_prog .nil pass0 (pa_cons (pv 2) (pa_cons pe_int (pa_cons pe_int (pa_cons pe_int pa_nil))))))
      (pss_cons (ps_set (i := 4) sc_law.nd rfl (.inr rfl) (pe_call G__law_gate hr (by rfl) T.g__law_gate T.k__law_gate T.b__law_gate .nil pass0 (pa_cons (pv 2) (pa_cons (pe_ix ix_tup (pv 3) pe_int (fun _ _ => rfl)) (pa_cons pe_int pa_nil)))))
      (pss_one (ps_for PassesOwn.never rfl (pi_range1 (by rfl) T.m_range (pa_cons pe_int pa_nil)) (pg_name (i := 5) sc_law.nd rfl (.inl rfl)) (pss_cons (ps_asg (pe_call G__law_row hr (by rfl) T.g__law_row T.k__law_row T.b__law_row .nil pass0 (pa_cons (pv 2) (pa_cons (pv 3) (pa_cons (pv 4) (pa_cons pe_int (pa_cons (pe_call G__law_take hr (by rfl) T.g__law_take T.k__law_take T.b__law_take .nil pass0 (pa_cons (pv 2) (pa_cons pe_int pa_nil))) pa_nil)))))) (pg_tup rfl (pgs_cons (pg_name (i := 6) sc_law.nd rfl (.inl rfl)) (pgs_cons (pg_name (i := 7) sc_law.nd rfl (.inl rfl)) pgs_nil))))
      (pss_cons (ps_set (i := 8) sc_law.nd rfl (.inl rfl) (pe_lst (pa_cons (pv 6) (pa_cons (pe_op op_catU (pv 6) (pv 6)) (pa_cons (pe_revT (pv 6)) (pa_cons (pe_callTy call_listN (by rfl) T.m_list (by decide +kernel) (pa_cons (pv 6) pa_nil)) (pa_cons (pe_slice sl_U (pv 6) (po_some pe_int) po_none) (pa_cons pe_non (pa_cons (pe_tup pa_nil) (pa_cons (pe_lstN pa_nil) (pa_cons (pe_tup (pa_cons (pv 6) pa_nil)) pa_nil)))))))))))
      (pss_cons (ps_for PassesOwn.never rfl (pi_range1 (by rfl) T.m_range (pa_cons pe_int pa_nil)) (pg_name (i := 9) sc_law.nd rfl (.inl rfl)) (pss_cons (ps_set (i := 10) sc_law.nd rfl (.inl rfl) (pe_call G__law_bent hr (by rfl) T.g__law_bent T.k__law_bent T.b__law_bent .nil pass0 (pa_cons (pv 2) (pa_cons (pv 6) (pa_cons pe_int pa_nil)))))
      (pss_one (ps_expr (pe_bm PySem.F.plainAttrs_list PySem.F.slot_list_append PySem.F.type_list_append mt_append (pv 8) (pa_cons (pe_ifExp (pt_cmpR op_eq (pe_call G__law_take hr (by rfl) T.g__law_take T.k__law_take T.b__law_take .nil pass0 (pa_cons (pv 2) (pa_cons pe_int pa_nil))) pe_int (nomark _)) (pe_call G__law_bent hr (by rfl) T.g__law_bent T.k__law_bent T.b__law_bent .nil pass0 (pa_cons (pv 2) (pa_cons (pv 10) (pa_cons pe_int pa_nil)))) (pv 10)) pa_nil))))))
      (pss_one (ps_if (pt_not (pt_val (pe_callB (cr_all rfl) (by rfl) T.m_all (by decide +kernel) (pa_cons (pe_lc (own := [("_law_item", 11)]) (g := gName 11) (tt := tYes) rfl sc_law.nd (pi_list (pv 8)) (blkOk_by (N := ["_law_script", "_law_nth", "_law_hand_here", "_law_prog_here", "_law_gate_here", "_law_turn", "_law_row_here", "_law_stead", "_law_some", "_law_again", "_law_bent_here", "_law_item"]) (sc := defScope s_law) (by decide +kernel)) (fun _ _ _ _ _ => (pg_name (i := 11) sc_law.nd rfl (Or.inl rfl))) (fun _ _ _ _ _ => pts_nil) (fun _ _ _ _ _ => (pe_callG G__law_right hgd hr (by rfl) T.g__law_right T.k__law_right T.b__law_right (pa_cons (pv 3) (pa_cons (pv 4) (pa_cons (pv 11) pa_nil)))))) pa_nil)))) (pss_one (ps_ret pe_bl)) pss_nil)))))))))))
      (pss_one (ps_ret pe_bl))), ?_⟩
  have hl : (ns.map V.int).length = ns.length := List.length_map _
  refine ⟨_, rfl, a, _, rfl, .inl hS, _, _, rfl, _, _, rfl, _, rfl, ?_, ?_, for_range (lo := 0) (fun i σ H' => (∃ y1 y2 y3 y4 y5 y6 y7 y8 y9 y10, σ = [some (.ref a), y1, y2, y3, y4, y5, y6, y7, y8, y9, y10, none]) ∧ Same H H') ?_ ?_ ?_⟩
  · split <;> split <;> omega
  · split <;> split <;> omega
  · exact ⟨⟨_, _, _, _, _, _, _, _, _, _, rfl⟩, Same.refl H⟩
  · rintro i σ Hs hi ⟨⟨y1, y2, y3, y4, y5, y6, y7, y8, y9, y10, rfl⟩, sS⟩
    have hi4 : i ≤ 4 := by
      split at hi <;> split at hi <;> omega
    have e0 : (0 : Int) + (i : Int) = ((i : Nat) : Int) := Int.zero_add _
    show tSeq _ _ _ _ _
    rw [e0]
    refine ⟨_, rfl, _, rfl, a, ns, i, rfl, sS.seq hS, by omega, fun hp Ha sa nhp ga => ?_⟩
    refine ⟨_, rfl, hp, 0, 2, 2, 2, rfl, ga, by decide, by decide, by decide, by decide, by decide, fun pg c ac mo ws xs ms Hb hpg hws hwz hwd hx1 hx3 hxz hxd hm1 hm2 gb kb => ?_⟩
    obtain ⟨ps, eac, hps⟩ := id hpg.as
    have lps := hps.length
    have lpm : (ps.map V.ref).length = xs.length := by rw [List.length_map]; exact lps
    refine ⟨_, rfl, _, rfl, pg, _, 1, _, rfl, rfl, SqT.of hpg.e, rfl, hp, ac, _, 4, ps.map V.ref, rfl, gb, by decide, by decide, by decide, eac, by omega, fun gt gs Hc hgt hgo hgl gc kc => ?_⟩
    rw [lpm] at hgo
    have sc := onto (onto sa kb nhp) kc nhp
    have hpgc := hpg.tk (TK.of_kp kc gb)
    have gc' : Hd Hc hp 8050 := gc.mono (by decide)
    clear gc gb ga
    refine ⟨_, rfl, by decide, by decide, for_range (lo := 0) (fun j σ H' => (∃ y5 y6 y7 y8 y9 y10, σ = [some (.ref a), some (.int (i : Int)), some (.ref hp), some (.ref pg), some (.ref gt), y5, y6, y7, y8, y9, y10, none]) ∧ Hd H' hp (8050 + 400 * j) ∧ Kp hp Hc H' ∧ Same Hs H') ?_ ?_ ?_⟩
    · exact ⟨⟨_, _, _, _, _, _, rfl⟩, gc', Kp.refl hp Hc, sc⟩
    · rintro j σ H0 hj ⟨⟨y5, y6, y7, y8, y9, y10, rfl⟩, g0, k0, s0⟩
      have hj3 : j < 3 := by omega
      have u0 := TK.of_kp k0 gc'
      have hpg0 := hpgc.tk u0
      have hgt0 := hgt.tk u0
      refine ⟨_, rfl, _, rfl, _, rfl, _, rfl, hp, _, 11, rfl, g0, by omega, by decide, by decide, fun cnt H1 hcnt g1 k1 => ?_⟩
      have u1 := TK.of_kp k1 g0
      refine ⟨hp, pg, gt, c, ac, mo, _, 0, cnt, ws, xs, ms, gs, rfl, g1, by omega, by omega, hpg0.tk u1, by omega, fun x hx => (hxz x hx).2, hgt0.tk u1, hgo, by have := hgo.1; omega, fun p t us ds en H2 ep et hds lus hid hen g2 k2 => ?_⟩
      refine ⟨p, _, rfl, SqT.of ep, rfl, _, _, rfl, _, _, rfl, rfl, ?_⟩
      have k02 := k0.trans (k1.trans k2)
      have s02 := onto (onto s0 k1 nhp) k2 nhp
      have g2' : Hd H2 hp (8050 + 400 * j + 120) := g2.mono (by omega)
      have hL2 : LL [hp] H2 := hd_LL g2'
      have tr2 := hL2.trk
      have ldd : us.length = ds.length := hds.length
      obtain ⟨ba, hib⟩ := row_ba hxz hid (by omega)
      have da2 := deeds_da hL2 hds
      have ntl : t ∉ [hp] := fun z => by
        have := hd_tup g2' et (by intro xs z; cases z)
        exact this (List.mem_singleton.mp z)
      dsimp only
      -- the things
      refine later3 (fun σ Hx => ∃ so vs, σ = [some (.ref a), some (.int (i : Int)), some (.ref hp), some (.ref pg), some (.ref gt), some (.int (0 + (j : Int))), some (.ref t), some (.int (en : Int)), some (.ref so), y9, y10, none] ∧ so ≠ hp ∧ Hs so = none ∧ Hc so = none ∧ Hx so = some (.lst vs) ∧ vs.length ≤ 9 ∧ (∀ u ∈ vs, Gd [so, hp] 4 120000 (10 ^ 60 + 2) Hx u) ∧ Gd [so, hp] 2 4320 (10 ^ 60) Hx (.ref t) ∧ Hd Hx hp (8050 + 400 * j + 120) ∧ Kp hp H2 Hx ∧ Same Hs Hx) (fun rest => ?_) ?_
      · have small : ∀ x : Nat, x ≤ 100000 → x ≤ sizeLine := fun x h => Nat.le_trans h (by decide)
        refine ⟨_, rfl, _, rfl, _, rfl, t, t, us, us, rfl, rfl, et, et, small _ (by omega), fun p1 H3 s3 e3 o3 => ?_⟩
        have z1 := Tp.cat ntl ntl da2 da2 tr2 s3 e3 (by rcases o3 with o | o | o; exact .inl o; exact .inl o; exact .inr (.inr o))
        have tr3 := tr2.same s3
        refine ⟨_, rfl, t, us, rfl, SqT.of (s3 _ _ et), fun p2 n2 => ?_⟩
        have s4 := same_new (o := .tup us.reverse) n2
        have tr4 := tr3.same s4
        have s24 := s3.trans s4
        refine ⟨_, rfl, t, us, rfl, s24 _ _ et, fun p3 n3 w3 => ?_⟩
        have s5 := same_new (o := .lst us) n3
        have tr5 := tr4.same s5
        have s25 := s24.trans s5
        refine ⟨_, rfl, _, rfl, t, us, rfl, s25 _ _ et, fun p4 H6 s6 e6 o6 => ?_⟩
        have z4 := Tp.cut ntl (da2.same (same_remL s25)) tr5 s6 e6 o6
        have tr6 := tr5.same s6
        have s26 := s25.trans s6
        refine ⟨(by show 0 ≤ sizeLine; decide), fun p5 n5 => ⟨(by show 0 ≤ sizeLine; decide), fun p6 n6 w6 => ⟨_, rfl, (by show 1 ≤ sizeLine; decide), fun p7 n7 => ⟨(by show 9 ≤ sizeLine; decide), fun so nso => ?_⟩⟩⟩⟩
        have s7 := same_new (o := .tup []) n5
        have s8 := same_new (o := .lst []) n6
        have s9 := same_new (o := .tup [.ref t]) n7
        have s29 := s26.trans (s7.trans (s8.trans s9))
        have tr9 := ((tr6.same s7).same s8).same s9
        have g9 := g2'.same s29
        have nsa : so ≠ hp := g9.new nso
        have sx := same_new (o := .lst [.ref t, .ref p1, .ref p2, .ref p3, .ref p4, .non, .ref p5, .ref p6, .ref p7]) nso
        have s2x := s29.trans sx
        have up := same_cons (L := [hp]) (o := .lst [.ref t, .ref p1, .ref p2, .ref p3, .ref p4, .non, .ref p5, .ref p6, .ref p7]) nso
        have k2x : Kp hp H2 _ := Kp.of_same s2x
        have s0x : Same Hs _ := s02.trans s2x
        have nos : Hs so = none := by
          cases e : Hs so with
          | none => rfl
          | some o =>
            have := (s02.trans s29) _ _ e
            rw [nso] at this
            cases this
        have noc : Hc so = none := k02.none g2' (Kp.none (Kp.of_same s29) g9 nso)
        have daX := (da2.same (same_remL s29)).same up
        have et9 : remL [hp] _ t = some (.tup us) := (hd_LL g9).out (s29 _ _ et)
        have gt9 : D true (remL [so, hp] (upd _ so (.lst [.ref t, .ref p1, .ref p2, .ref p3, .ref p4, .non, .ref p5, .ref p6, .ref p7]))) (.ref t) (.tuple ds) := .tup (up _ _ et9) daX
        have ibT := fun (B : Nat) (hB : 10 ^ 60 ≤ B) (d : PyData) (hd : d ∈ ds) => inB_mono hB d (hib d hd)
        have h602 : 10 ^ 60 ≤ 10 ^ 60 + 2 := Nat.le_add_right _ _
        refine rest _ _ ⟨so, _, rfl, nsa, nos, noc, made nso, Nat.le_refl 9, fun u hu => ?_, ⟨_, gt9, ba.tuple, inB_tup.mpr (ibT _ (Nat.le_refl _))⟩, g9.same sx, k2x, s0x⟩
        simp only [List.mem_cons, List.not_mem_nil, or_false] at hu
        rcases hu with e | e | e | e | e | e | e | e | e
        · rw [e]
          exact ⟨_, gt9, ba.tuple.mono (by decide) (by decide), inB_tup.mpr (ibT _ h602)⟩
        · rw [e]
          exact ⟨_, ((z1.same (s4.trans (s5.trans (s6.trans (s7.trans (s8.trans s9)))))).d).same up, (ba.append ba).tuple.mono (by decide) (by decide), inB_tup.mpr fun x hx => by rcases List.mem_append.mp hx with y | y <;> exact ibT _ h602 x y⟩
        · rw [e]
          exact ⟨.tuple ds.reverse, .tup (up _ _ (same_remL (as := [hp]) (s5.trans (s6.trans (s7.trans (s8.trans s9)))) _ _ (remL_new tr3 n2))) daX.rev, ba.rev.tuple.mono (by decide) (by decide), inB_tup.mpr fun x hx => ibT _ h602 x (List.mem_reverse.mp hx)⟩
        · rw [e]
          exact ⟨.list ds, .lst (up _ _ (same_remL (as := [hp]) (s6.trans (s7.trans (s8.trans s9))) _ _ (remL_new tr4 n3))) (fun _ => w3) daX, ba.list.mono (by decide) (by decide), inB_lst.mpr (ibT _ h602)⟩
        · rw [e]
          exact ⟨_, ((z4.same (s7.trans (s8.trans s9))).d).same up, (ba.cut _ _).tuple.mono (by decide) (by decide), inB_tup.mpr fun x hx => ibT _ h602 x (cutD_mem hx)⟩
        · rw [e]
          exact ⟨.none, .non, Bd.flat0 (.inl rfl) (by decide) (by decide), by simp [inB]⟩
        · rw [e]
          exact ⟨.tuple [], .tup (up _ _ (same_remL (as := [hp]) (s8.trans s9) _ _ (remL_new tr6 n5))) .nil, Bd.flat0 (.inr (.inr (.inr (.inr (.inl rfl))))) (by decide) (by decide), by simp [inB, inBAll]⟩
        · rw [e]
          exact ⟨.list [], .lst (up _ _ (same_remL (as := [hp]) s9 _ _ (remL_new (tr6.same s7) n6))) (fun _ => w6) .nil, Bd.flat0 (.inr (.inr (.inr (.inr (.inr (.inl rfl)))))) (by decide) (by decide), by simp [inB, inBAll]⟩
        · rw [e]
          exact ⟨.tuple [.tuple ds], .tup (up _ _ (remL_new ((tr6.same s7).same s8) n7)) (.cons gt9 .nil), ((BA.one (ba.tuple)).tuple).mono (by decide) (by decide), inB_tup.mpr fun x hx => by rw [List.mem_singleton.mp hx]; exact inB_tup.mpr (ibT _ h602)⟩
      clear da2 tr2 hL2
      rintro σ Hx ⟨so, vs, rfl, nsa, nos, noc, eso, lvs, hvs, hrow, gx, kx, sx⟩
      have kcx := k02.trans kx
      have m1 : so ∈ [so, hp] := List.mem_cons_self
      have m2 : hp ∈ [so, hp] := List.mem_cons_of_mem _ (List.mem_singleton_self _)
      have b60 : 10 ^ 60 ≤ 10 ^ 61 := by decide +kernel
      have b61 : 10 ^ 60 + 1 ≤ 10 ^ 61 := by decide +kernel
      have b62 : 10 ≤ 10 ^ 60 := by decide +kernel
      have b63 : 10 ≤ 10 ^ 60 + 1 := by decide +kernel
      generalize 10 ^ 60 = B at hvs hrow b60 b61 b62 b63
      refine later3 (fun σ Hy => ∃ vs y9 y10, σ = [some (.ref a), some (.int (i : Int)), some (.ref hp), some (.ref pg), some (.ref gt), some (.int (0 + (j : Int))), some (.ref t), some (.int (en : Int)), some (.ref so), y9, y10, none] ∧ Hy so = some (.lst vs) ∧ vs.length ≤ 21 ∧ (∀ u ∈ vs, Gd [so, hp] 4 120000 (B + 2) Hy u) ∧ Hd Hy hp (8050 + 400 * j + 324) ∧ Kp hp Hc Hy ∧ Same Hs Hy) (fun rest => ?_) ?_
      · refine ⟨_, rfl, by decide, by decide, for_range (lo := 0) (fun m σ H' => (∃ y9 y10, σ = [some (.ref a), some (.int (i : Int)), some (.ref hp), some (.ref pg), some (.ref gt), some (.int (0 + (j : Int))), some (.ref t), some (.int (en : Int)), some (.ref so), y9, y10, none]) ∧ Hd H' hp (8050 + 400 * j + 120 + 17 * m) ∧ Kp hp Hc H' ∧ Same Hs H' ∧ Gd [so, hp] 2 4320 B H' (.ref t) ∧ ∃ vs, H' so = some (.lst vs) ∧ vs.length ≤ 9 + m ∧ ∀ u ∈ vs, Gd [so, hp] 4 120000 (B + 2) H' u) ?_ ?_ ?_⟩
        · exact ⟨⟨_, _, rfl⟩, gx, kcx, sx, hrow, vs, eso, by omega, hvs⟩
        · clear eso lvs hvs hrow gx kx sx kcx
          rintro m σ H3 hm ⟨⟨y9', y10', rfl⟩, g3, k3, s3, hrow, vs, eso, lvs, hvs⟩
          have hm12 : m < 12 := by omega
          have tr3 : Trk [so, hp] H3 := (hd_LL g3).trk.cons (by rw [eso]; intro z; cases z)
          refine ⟨_, rfl, _, rfl, hp, _, [so, hp], .ref t, 2, 4320, B, rfl, g3, by omega, m2, tr3, hrow, by decide, b62, b60, fun v1 H4 gd1 g4 k4 => ?_⟩
          have eso4 := k4 _ _ nsa eso
          have fin : ∀ (y : V) (H6 : Hp), Gd [so, hp] 4 120000 (B + 2) H6 y → Hd H6 hp (8050 + 400 * j + 120 + 17 * m + 17) → Kp hp H3 H6 → rAppend (.ref so) [y] H6 (fun _ H' => (∃ y9 y10, [some (.ref a), some (.int (i : Int)), some (.ref hp), some (.ref pg), some (.ref gt), some (.int (0 + (j : Int))), some (.ref t), some (.int (en : Int)), some (.ref so), some (.int (0 + (m : Int))), some v1, none] = [some (.ref a), some (.int (i : Int)), some (.ref hp), some (.ref pg), some (.ref gt), some (.int (0 + (j : Int))), some (.ref t), some (.int (en : Int)), some (.ref so), y9, y10, none]) ∧ Hd H' hp (8050 + 400 * j + 120 + 17 * (m + 1)) ∧ Kp hp Hc H' ∧ Same Hs H' ∧ Gd [so, hp] 2 4320 B H' (.ref t) ∧ ∃ vs, H' so = some (.lst vs) ∧ vs.length ≤ 9 + (m + 1) ∧ ∀ u ∈ vs, Gd [so, hp] 4 120000 (B + 2) H' u) := by
            intro y H6 hy g6 k6
            have e6 := k6 _ _ nsa eso
            have up : ∀ {N W B' : Nat} {u : V}, Gd [so, hp] N W B' H6 u → Gd [so, hp] N W B' (upd H6 so (.lst (vs ++ [y]))) u := fun h => by
              obtain ⟨d, h1, h2, h3⟩ := h
              exact ⟨d, h1.same (remL_in m1), h2, h3⟩
            refine ⟨so, vs, y, rfl, rfl, e6, Nat.lt_of_le_of_lt (show vs.length ≤ 1000 by omega) (by decide), ⟨_, _, rfl⟩, (g6.at nsa).mono (by omega), (k3.trans k6).free noc, same_set (onto s3 k6 nhp) nos, up (hrow.kp m2 k6), vs ++ [y], upd_same, by rw [List.length_append, List.length_singleton]; omega, fun u hu => ?_⟩
            rcases List.mem_append.mp hu with z | z
            · exact up ((hvs u z).kp m2 k6)
            · rw [List.mem_singleton.mp z]
              exact up hy
          refine ⟨_, rfl, .inl ⟨rfl, _, SqL.of eso4⟩, _, rfl, hp, _, 4, rfl, g4, by omega, by decide, by decide, fun r5 H5 hr5 g5 k5 => ⟨rfl, _, rfl, ite2 (fun _ => ?_) (fun _ => ?_)⟩⟩
          · have k45 := k4.trans k5
            have tr5 : Trk [so, hp] H5 := (hd_LL g5).trk.cons (by rw [k45 _ _ nsa eso]; intro z; cases z)
            refine ⟨_, rfl, _, rfl, hp, _, [so, hp], v1, 3, 21823, B + 1, rfl, g5, by omega, m2, tr5, gd1.kp m2 k5, by decide, b63, b61, fun v2 H6 gd2 g6 k6 => ?_⟩
            exact fin v2 H6 (gd2.mono (by decide) (by decide) (Nat.le_refl _)) (g6.mono (by omega)) (k45.trans k6)
          · exact ⟨_, rfl, fin v1 H5 ((gd1.kp m2 k5).mono (by decide) (by decide) (by omega)) (g5.mono (by omega)) (k4.trans k5)⟩
        · rintro σ H3 ⟨⟨y9', y10', rfl⟩, g3, k3, s3, hrow, vs, eso, lvs, hvs⟩
          exact rest _ _ ⟨vs, _, _, rfl, eso, lvs, hvs, g3, k3, s3⟩
      clear eso lvs hvs hrow gx kx sx kcx vs
      rintro σ Hy ⟨vs, y9', y10', rfl, eso, lvs, hvs, gy, ky, sy⟩
      have uy := TK.of_kp ky gc'
      have hpgy := hpgc.tk uy
      have hgty := hgt.tk uy
      refine ⟨_, rfl, so, rfl, ⟨_, SqL.of eso⟩, fun D1 nD => ?_⟩
      have nDa : D1 ≠ hp := gy.new nD
      refine lc_list (xs := vs) (fun m H' => Same Hy H' ∧ H' D1 = some (.lst ((List.replicate m true).map V.bl))) ⟨same_new nD, upd_same⟩ ?_ ?_ ?_
      · rintro m H' _ ⟨s3, _⟩
        exact SqL.of (s3 _ _ eso)
      · rintro m u H3 hu ⟨s3, e3⟩
        have hml := (List.getElem?_eq_some_iff.mp hu).1
        obtain ⟨d, hd, bd, _⟩ := (hvs u (List.mem_of_getElem? hu)).same s3
        refine ⟨rfl, ?_⟩
        dsimp only [tYes]
        refine iteT ?_
        refine ⟨_, rfl, _, rfl, _, rfl, pg, c, ac, mo, gt, ws, xs, ms, gs, u, d, rfl, hpgy.tk (TK.of_same s3), hx1, by omega, hxd, hgty.tk (TK.of_same s3), hgo, hd.same remL_same, bd.ok (by decide) (by decide), Nat.le_trans bd.wt (by decide), fun H4 s4 => ?_⟩
        refine ⟨_, s4 _ _ e3, ?_, ?_, ?_⟩
        · rw [List.length_map, List.length_replicate]
          exact Nat.lt_of_le_of_lt (show m ≤ 1000 by omega) (by decide)
        · intro b' o eb'
          rw [upd_ne (ne_of_none eb' nD)]
          exact s4 _ _ (s3 _ _ eb')
        · rw [upd_same, List.replicate_succ', List.map_append]
          rfl
      · rintro H3 ⟨s3, e3⟩
        refine ⟨D1, List.replicate vs.length true, rfl, SqL.of e3, _, rfl, ?_⟩
        have ea : ((List.replicate vs.length true).all id) = true := by simp
        rw [ea]
        refine iteF ⟨⟨_, _, _, _, _, _, rfl⟩, (gy.same s3).mono (by omega), ky.trans (Kp.of_same s3), sy.trans s3⟩
    · rintro σ H0 ⟨⟨y5, y6, y7, y8, y9, y10, rfl⟩, g0, k0, s0⟩
      exact ⟨⟨_, _, _, _, _, _, _, _, _, _, rfl⟩, sS.trans s0⟩
  · rintro σ H' ⟨_, _⟩
    exact q H'
end

end Z

namespace Z
open PySem PySem.Spec PyProof.Rows L2 Lw
theorem kb3_rel {vs zs : List V} {us ws : List Value} (r1 : Vals vs us) (r2 : Vals zs ws) : Vals (kb3 vs zs) (kb3 us ws) := by
  cases r1 with
  | nil =>
    cases r2 with
    | nil => exact .nil
    | cons a t =>
      cases t with
      | nil => exact .nil
      | cons b t =>
        cases t with
        | nil => exact .nil
        | cons c t =>
          cases t with
          | nil => exact .cons a (.cons b (.cons c .nil))
          | cons d t => exact .nil
  | cons a t => exact .nil
theorem kbc_rel {vs zs : List V} {us ws : List Value} (r1 : Vals vs us) (r2 : Vals zs ws) : Vals (kbc vs zs) (kbc us ws) := by
  cases r1 with
  | nil => exact .nil
  | cons a t =>
    cases t with
    | nil => exact .nil
    | cons b t =>
      cases t with
      | nil =>
        cases r2 with
        | nil => exact .nil
        | cons c t =>
          cases t with
          | nil => exact .cons a (.cons b (.cons c .nil))
          | cons d t => exact .nil
      | cons d t => exact .nil
theorem bd_hist {K : PySem.W.Frag} {f kD : Addr} {oc doc pm cd ct : Value} {od an : Option Addr} {sl : Array (Option Value)} (l : K.lookup f = some ⟨oc, od, .func (PySem.W.fnOf "is_history" "is_history" (defArgs s_is_history) (defBody s_is_history) (defScope s_is_history) .none (.ref kD) doc pm an cd ct), sl⟩) (hk : PySem.W.nsIn K kD "guard" = some (some .none)) :
    Binds K (PySem.W.fnOf "is_history" "is_history" (defArgs s_is_history) (defBody s_is_history) (defScope s_is_history) .none (.ref kD) doc pm an cd ct) ["program", "thing", "guard"] [.none] := by
  intro s us X hlen
  match us, hlen with
  | [x, y], _ =>
    refine L2.BindsTo.of_looks fun M => L2.KwChain.looks (D := kD) (l := [("guard", .none)]) X (fun q hq => ?_) ?_
    · rw [List.mem_singleton.mp hq]
      exact hk
    · exact ⟨_, _, _, _, _, _, rfl, rfl, rfl⟩
  | [], h => simp at h
  | [_], h => simp at h
  | _ :: _ :: _ :: _, h => simp at h
set_option maxHeartbeats 0 in
theorem all_mk {l : PySem.W.OpenLaw} {w : World} {K : PySem.W.Frag} {h : Heap} {mg : Str → Option Value} {fa f0 f1 f2 f3 f4 f5 f6 f7 f8 f9 f10 f11 f12 f13 f14 f15 f16 f17 f18 f19 f20 kD4 : Addr} {od0 an0 od1 an1 od2 an2 od3 an3 od4 an4 od5 an5 od6 an6 od7 an7 od8 an8 od9 an9 od10 an10 od11 an11 od12 an12 od13 an13 od14 an14 od15 an15 od16 an16 od17 an17 od18 an18 od19 an19 od20 an20 : Option Addr} {sl0 sl1 sl2 sl3 sl4 sl5 sl6 sl7 sl8 sl9 sl10 sl11 sl12 sl13 sl14 sl15 sl16 sl17 sl18 sl19 sl20 : Array (Option Value)} {oc0 kV0 dc0 pm0 cd0 ct0 oc1 kV1 dc1 pm1 cd1 ct1 oc2 kV2 dc2 pm2 cd2 ct2 oc3 kV3 dc3 pm3 cd3 ct3 oc4 dc4 pm4 cd4 ct4 oc5 kV5 dc5 pm5 cd5 ct5 oc6 kV6 dc6 pm6 cd6 ct6 oc7 kV7 dc7 pm7 cd7 ct7 oc8 kV8 dc8 pm8 cd8 ct8 oc9 kV9 dc9 pm9 cd9 ct9 oc10 kV10 dc10 pm10 cd10 ct10 oc11 kV11 dc11 pm11 cd11 ct11 oc12 kV12 dc12 pm12 cd12 ct12 oc13 kV13 dc13 pm13 cd13 ct13 oc14 kV14 dc14 pm14 cd14 ct14 oc15 kV15 dc15 pm15 cd15 ct15 oc16 kV16 dc16 pm16 cd16 ct16 oc17 kV17 dc17 pm17 cd17 ct17 oc18 kV18 dc18 pm18 cd18 ct18 oc19 kV19 dc19 pm19 cd19 ct19 oc20 kV20 dc20 pm20 cd20 ct20 : Value}
    (X : K.In h) (G : h.Ns mainGlobals mg) (hfa : mg "law" = some (.ref fa))
    (a0 : PySem.W.nsIn K mainGlobals "is_whole" = some (some (.ref f0)))
    (l0 : K.lookup f0 = some ⟨oc0, od0, .func (PySem.W.fnOf "is_whole" "is_whole" (defArgs s_is_whole) (defBody s_is_whole) (defScope s_is_whole) .none kV0 dc0 pm0 an0 cd0 ct0), sl0⟩)
    (c0 : PySem.W.codeIn K cd0 "is_whole" = true) (k0 : PySem.W.keepIn K (.ref f0) = true)
    (a1 : PySem.W.nsIn K mainGlobals "free" = some (some (.ref f1)))
    (l1 : K.lookup f1 = some ⟨oc1, od1, .func (PySem.W.fnOf "free" "free" (defArgs s_free) (defBody s_free) (defScope s_free) .none kV1 dc1 pm1 an1 cd1 ct1), sl1⟩)
    (c1 : PySem.W.codeIn K cd1 "free" = true) (k1 : PySem.W.keepIn K (.ref f1) = true)
    (a2 : PySem.W.nsIn K mainGlobals "guard_or_free" = some (some (.ref f2)))
    (l2 : K.lookup f2 = some ⟨oc2, od2, .func (PySem.W.fnOf "guard_or_free" "guard_or_free" (defArgs s_guard_or_free) (defBody s_guard_or_free) (defScope s_guard_or_free) .none kV2 dc2 pm2 an2 cd2 ct2), sl2⟩)
    (c2 : PySem.W.codeIn K cd2 "guard_or_free" = true) (k2 : PySem.W.keepIn K (.ref f2) = true)
    (a3 : PySem.W.nsIn K mainGlobals "deed_number" = some (some (.ref f3)))
    (l3 : K.lookup f3 = some ⟨oc3, od3, .func (PySem.W.fnOf "deed_number" "deed_number" (defArgs s_deed_number) (defBody s_deed_number) (defScope s_deed_number) .none kV3 dc3 pm3 an3 cd3 ct3), sl3⟩)
    (c3 : PySem.W.codeIn K cd3 "deed_number" = true) (k3 : PySem.W.keepIn K (.ref f3) = true)
    (a4 : PySem.W.nsIn K mainGlobals "is_history" = some (some (.ref f4)))
    (l4 : K.lookup f4 = some ⟨oc4, od4, .func (PySem.W.fnOf "is_history" "is_history" (defArgs s_is_history) (defBody s_is_history) (defScope s_is_history) .none (.ref kD4) dc4 pm4 an4 cd4 ct4), sl4⟩)
    (c4 : PySem.W.codeIn K cd4 "is_history" = true) (k4 : PySem.W.keepIn K (.ref f4) = true)
    (dd4 : PySem.W.nsIn K kD4 "guard" = some (some .none))
    (a5 : PySem.W.nsIn K mainGlobals "_law_hand" = some (some (.ref f5)))
    (l5 : K.lookup f5 = some ⟨oc5, od5, .func (PySem.W.fnOf "_law_hand" "_law_hand" (defArgs s__law_hand) (defBody s__law_hand) (defScope s__law_hand) .none kV5 dc5 pm5 an5 cd5 ct5), sl5⟩)
    (c5 : PySem.W.codeIn K cd5 "_law_hand" = true) (k5 : PySem.W.keepIn K (.ref f5) = true)
    (a6 : PySem.W.nsIn K mainGlobals "_law_take" = some (some (.ref f6)))
    (l6 : K.lookup f6 = some ⟨oc6, od6, .func (PySem.W.fnOf "_law_take" "_law_take" (defArgs s__law_take) (defBody s__law_take) (defScope s__law_take) .none kV6 dc6 pm6 an6 cd6 ct6), sl6⟩)
    (c6 : PySem.W.codeIn K cd6 "_law_take" = true) (k6 : PySem.W.keepIn K (.ref f6) = true)
    (a7 : PySem.W.nsIn K mainGlobals "_law_of" = some (some (.ref f7)))
    (l7 : K.lookup f7 = some ⟨oc7, od7, .func (PySem.W.fnOf "_law_of" "_law_of" (defArgs s__law_of) (defBody s__law_of) (defScope s__law_of) .none kV7 dc7 pm7 an7 cd7 ct7), sl7⟩)
    (c7 : PySem.W.codeIn K cd7 "_law_of" = true) (k7 : PySem.W.keepIn K (.ref f7) = true)
    (a8 : PySem.W.nsIn K mainGlobals "_law_names" = some (some (.ref f8)))
    (l8 : K.lookup f8 = some ⟨oc8, od8, .func (PySem.W.fnOf "_law_names" "_law_names" (defArgs s__law_names) (defBody s__law_names) (defScope s__law_names) .none kV8 dc8 pm8 an8 cd8 ct8), sl8⟩)
    (c8 : PySem.W.codeIn K cd8 "_law_names" = true) (k8 : PySem.W.keepIn K (.ref f8) = true)
    (a9 : PySem.W.nsIn K mainGlobals "_law_pick" = some (some (.ref f9)))
    (l9 : K.lookup f9 = some ⟨oc9, od9, .func (PySem.W.fnOf "_law_pick" "_law_pick" (defArgs s__law_pick) (defBody s__law_pick) (defScope s__law_pick) .none kV9 dc9 pm9 an9 cd9 ct9), sl9⟩)
    (c9 : PySem.W.codeIn K cd9 "_law_pick" = true) (k9 : PySem.W.keepIn K (.ref f9) = true)
    (a10 : PySem.W.nsIn K mainGlobals "_law_prog" = some (some (.ref f10)))
    (l10 : K.lookup f10 = some ⟨oc10, od10, .func (PySem.W.fnOf "_law_prog" "_law_prog" (defArgs s__law_prog) (defBody s__law_prog) (defScope s__law_prog) .none kV10 dc10 pm10 an10 cd10 ct10), sl10⟩)
    (c10 : PySem.W.codeIn K cd10 "_law_prog" = true) (k10 : PySem.W.keepIn K (.ref f10) = true)
    (a11 : PySem.W.nsIn K mainGlobals "_law_phase" = some (some (.ref f11)))
    (l11 : K.lookup f11 = some ⟨oc11, od11, .func (PySem.W.fnOf "_law_phase" "_law_phase" (defArgs s__law_phase) (defBody s__law_phase) (defScope s__law_phase) .none kV11 dc11 pm11 an11 cd11 ct11), sl11⟩)
    (c11 : PySem.W.codeIn K cd11 "_law_phase" = true) (k11 : PySem.W.keepIn K (.ref f11) = true)
    (a12 : PySem.W.nsIn K mainGlobals "_law_gate" = some (some (.ref f12)))
    (l12 : K.lookup f12 = some ⟨oc12, od12, .func (PySem.W.fnOf "_law_gate" "_law_gate" (defArgs s__law_gate) (defBody s__law_gate) (defScope s__law_gate) .none kV12 dc12 pm12 an12 cd12 ct12), sl12⟩)
    (c12 : PySem.W.codeIn K cd12 "_law_gate" = true) (k12 : PySem.W.keepIn K (.ref f12) = true)
    (a13 : PySem.W.nsIn K mainGlobals "_law_number" = some (some (.ref f13)))
    (l13 : K.lookup f13 = some ⟨oc13, od13, .func (PySem.W.fnOf "_law_number" "_law_number" (defArgs s__law_number) (defBody s__law_number) (defScope s__law_number) .none kV13 dc13 pm13 an13 cd13 ct13), sl13⟩)
    (c13 : PySem.W.codeIn K cd13 "_law_number" = true) (k13 : PySem.W.keepIn K (.ref f13) = true)
    (a14 : PySem.W.nsIn K mainGlobals "_law_row" = some (some (.ref f14)))
    (l14 : K.lookup f14 = some ⟨oc14, od14, .func (PySem.W.fnOf "_law_row" "_law_row" (defArgs s__law_row) (defBody s__law_row) (defScope s__law_row) .none kV14 dc14 pm14 an14 cd14 ct14), sl14⟩)
    (c14 : PySem.W.codeIn K cd14 "_law_row" = true) (k14 : PySem.W.keepIn K (.ref f14) = true)
    (a15 : PySem.W.nsIn K mainGlobals "_law_odd" = some (some (.ref f15)))
    (l15 : K.lookup f15 = some ⟨oc15, od15, .func (PySem.W.fnOf "_law_odd" "_law_odd" (defArgs s__law_odd) (defBody s__law_odd) (defScope s__law_odd) .none kV15 dc15 pm15 an15 cd15 ct15), sl15⟩)
    (c15 : PySem.W.codeIn K cd15 "_law_odd" = true) (k15 : PySem.W.keepIn K (.ref f15) = true)
    (a16 : PySem.W.nsIn K mainGlobals "_law_bent" = some (some (.ref f16)))
    (l16 : K.lookup f16 = some ⟨oc16, od16, .func (PySem.W.fnOf "_law_bent" "_law_bent" (defArgs s__law_bent) (defBody s__law_bent) (defScope s__law_bent) .none kV16 dc16 pm16 an16 cd16 ct16), sl16⟩)
    (c16 : PySem.W.codeIn K cd16 "_law_bent" = true) (k16 : PySem.W.keepIn K (.ref f16) = true)
    (a17 : PySem.W.nsIn K mainGlobals "_law_is_act" = some (some (.ref f17)))
    (l17 : K.lookup f17 = some ⟨oc17, od17, .func (PySem.W.fnOf "_law_is_act" "_law_is_act" (defArgs s__law_is_act) (defBody s__law_is_act) (defScope s__law_is_act) .none kV17 dc17 pm17 an17 cd17 ct17), sl17⟩)
    (c17 : PySem.W.codeIn K cd17 "_law_is_act" = true) (k17 : PySem.W.keepIn K (.ref f17) = true)
    (a18 : PySem.W.nsIn K mainGlobals "_law_is_row" = some (some (.ref f18)))
    (l18 : K.lookup f18 = some ⟨oc18, od18, .func (PySem.W.fnOf "_law_is_row" "_law_is_row" (defArgs s__law_is_row) (defBody s__law_is_row) (defScope s__law_is_row) .none kV18 dc18 pm18 an18 cd18 ct18), sl18⟩)
    (c18 : PySem.W.codeIn K cd18 "_law_is_row" = true) (k18 : PySem.W.keepIn K (.ref f18) = true)
    (a19 : PySem.W.nsIn K mainGlobals "_law_right" = some (some (.ref f19)))
    (l19 : K.lookup f19 = some ⟨oc19, od19, .func (PySem.W.fnOf "_law_right" "_law_right" (defArgs s__law_right) (defBody s__law_right) (defScope s__law_right) .none kV19 dc19 pm19 an19 cd19 ct19), sl19⟩)
    (c19 : PySem.W.codeIn K cd19 "_law_right" = true) (k19 : PySem.W.keepIn K (.ref f19) = true)
    (a20 : PySem.W.nsIn K mainGlobals "law" = some (some (.ref f20)))
    (l20 : K.lookup f20 = some ⟨oc20, od20, .func (PySem.W.fnOf "law" "law" (defArgs s_law) (defBody s_law) (defScope s_law) .none kV20 dc20 pm20 an20 cd20 ct20), sl20⟩)
    (c20 : PySem.W.codeIn K cd20 "law" = true) (k20 : PySem.W.keepIn K (.ref f20) = true)
    (z0 : PySem.W.nsIn K mainGlobals "abs" = some none)
    (z1 : PySem.W.nsIn K mainGlobals "all" = some none)
    (z2 : PySem.W.nsIn K mainGlobals "bool" = some none)
    (z3 : PySem.W.nsIn K mainGlobals "enumerate" = some none)
    (z4 : PySem.W.nsIn K mainGlobals "int" = some none)
    (z5 : PySem.W.nsIn K mainGlobals "isinstance" = some none)
    (z6 : PySem.W.nsIn K mainGlobals "len" = some none)
    (z7 : PySem.W.nsIn K mainGlobals "list" = some none)
    (z8 : PySem.W.nsIn K mainGlobals "max" = some none)
    (z9 : PySem.W.nsIn K mainGlobals "min" = some none)
    (z10 : PySem.W.nsIn K mainGlobals "range" = some none)
    (z11 : PySem.W.nsIn K mainGlobals "repr" = some none)
    (z12 : PySem.W.nsIn K mainGlobals "str" = some none)
    (z13 : PySem.W.nsIn K mainGlobals "tuple" = some none) :
    ∃ fd : FuncData, (∀ (s : Shared) (v : Value), BindsTo s fd ⟨[v], []⟩ [("_law_script", v)]) ∧ ∀ base : Heap, K.In base → base.Ns mainGlobals mg → FnG l.prog w K mg base 8 fa fd ["_law_script"] (sp_law K) := by
  have e := hfa.symm.trans (PySem.W.mg_of X G a20)
  cases e
  have F0 := fun_mk (st := s_is_whole) l0 c0 k0
  have b0 := F0.binds (ps := ["thing"]) fun _ _ _ _ _ _ us hl => match us, hl with | [_], _ => rfl
  have F1 := fun_mk (st := s_free) l1 c1 k1
  have b1 := F1.binds (ps := ["deeds"]) fun _ _ _ _ _ _ us hl => match us, hl with | [_], _ => rfl
  have F2 := fun_mk (st := s_guard_or_free) l2 c2 k2
  have b2 := F2.binds (ps := ["program", "guard"]) fun _ _ _ _ _ _ us hl => match us, hl with | [_, _], _ => rfl
  have F3 := fun_mk (st := s_deed_number) l3 c3 k3
  have b3 := F3.binds (ps := ["program", "thing", "fits"]) fun _ _ _ _ _ _ us hl => match us, hl with | [_, _, _], _ => rfl
  have F4 := fun_mk (st := s_is_history) l4 c4 k4
  have F5 := fun_mk (st := s__law_hand) l5 c5 k5
  have b5 := F5.binds (ps := ["_law_script", "_law_nth"]) fun _ _ _ _ _ _ us hl => match us, hl with | [_, _], _ => rfl
  have F6 := fun_mk (st := s__law_take) l6 c6 k6
  have b6 := F6.binds (ps := ["_law_hand_here", "_law_upon"]) fun _ _ _ _ _ _ us hl => match us, hl with | [_, _], _ => rfl
  have F7 := fun_mk (st := s__law_of) l7 c7 k7
  have b7 := F7.binds (ps := ["_law_hand_here", "_law_some"]) fun _ _ _ _ _ _ us hl => match us, hl with | [_, _], _ => rfl
  have F8 := fun_mk (st := s__law_names) l8 c8 k8
  have b8 := F8.binds (ps := ["_law_hand_here", "_law_count"]) fun _ _ _ _ _ _ us hl => match us, hl with | [_, _], _ => rfl
  have F9 := fun_mk (st := s__law_pick) l9 c9 k9
  have b9 := F9.binds (ps := ["_law_hand_here", "_law_rooms", "_law_count", "_law_left"]) fun _ _ _ _ _ _ us hl => match us, hl with | [_, _, _, _], _ => rfl
  have F10 := fun_mk (st := s__law_prog) l10 c10 k10
  have b10 := F10.binds (ps := ["_law_hand_here", "_law_rooms", "_law_phases", "_law_most_came"]) fun _ _ _ _ _ _ us hl => match us, hl with | [_, _, _, _], _ => rfl
  have F11 := fun_mk (st := s__law_phase) l11 c11 k11
  have b11 := F11.binds (ps := ["_law_hand_here", "_law_names_here", "_law_acts", "_law_phases"]) fun _ _ _ _ _ _ us hl => match us, hl with | [_, _, _, _], _ => rfl
  have F12 := fun_mk (st := s__law_gate) l12 c12 k12
  have b12 := F12.binds (ps := ["_law_hand_here", "_law_acts", "_law_most_places"]) fun _ _ _ _ _ _ us hl => match us, hl with | [_, _, _], _ => rfl
  have F13 := fun_mk (st := s__law_number) l13 c13 k13
  have b13 := F13.binds (ps := ["_law_hand_here"]) fun _ _ _ _ _ _ us hl => match us, hl with | [_], _ => rfl
  have F14 := fun_mk (st := s__law_row) l14 c14 k14
  have b14 := F14.binds (ps := ["_law_hand_here", "_law_prog_here", "_law_gate_here", "_law_stead", "_law_count"]) fun _ _ _ _ _ _ us hl => match us, hl with | [_, _, _, _, _], _ => rfl
  have F15 := fun_mk (st := s__law_odd) l15 c15 k15
  have b15 := F15.binds (ps := ["_law_hand_here", "_law_item"]) fun _ _ _ _ _ _ us hl => match us, hl with | [_, _], _ => rfl
  have F16 := fun_mk (st := s__law_bent) l16 c16 k16
  have b16 := F16.binds (ps := ["_law_hand_here", "_law_item", "_law_room"]) fun _ _ _ _ _ _ us hl => match us, hl with | [_, _, _], _ => rfl
  have F17 := fun_mk (st := s__law_is_act) l17 c17 k17
  have b17 := F17.binds (ps := ["_law_acts", "_law_item"]) fun _ _ _ _ _ _ us hl => match us, hl with | [_, _], _ => rfl
  have F18 := fun_mk (st := s__law_is_row) l18 c18 k18
  have b18 := F18.binds (ps := ["_law_acts", "_law_gate_here", "_law_item"]) fun _ _ _ _ _ _ us hl => match us, hl with | [_, _, _], _ => rfl
  have F19 := fun_mk (st := s__law_right) l19 c19 k19
  have b19 := F19.binds (ps := ["_law_prog_here", "_law_gate_here", "_law_some"]) fun _ _ _ _ _ _ us hl => match us, hl with | [_, _, _], _ => rfl
  have F20 := fun_mk (st := s_law) l20 c20 k20
  have b20 := F20.binds (ps := ["_law_script"]) fun _ _ _ _ _ _ us hl => match us, hl with | [_], _ => rfl
  let T : Txt K mg := {
    f_is_whole := f0, fd_is_whole := _, F_is_whole := F0, g_is_whole := PySem.W.mg_of X G a0, b_is_whole := b0,
    f_free := f1, fd_free := _, F_free := F1, g_free := PySem.W.mg_of X G a1, b_free := b1,
    f_guard_or_free := f2, fd_guard_or_free := _, F_guard_or_free := F2, g_guard_or_free := PySem.W.mg_of X G a2, b_guard_or_free := b2,
    f_deed_number := f3, fd_deed_number := _, F_deed_number := F3, g_deed_number := PySem.W.mg_of X G a3, b_deed_number := b3,
    f_is_history := f4, fd_is_history := _, F_is_history := F4, g_is_history := PySem.W.mg_of X G a4, bd_is_history := bd_hist l4 dd4,
    f__law_hand := f5, fd__law_hand := _, F__law_hand := F5, g__law_hand := PySem.W.mg_of X G a5, b__law_hand := b5,
    f__law_take := f6, fd__law_take := _, F__law_take := F6, g__law_take := PySem.W.mg_of X G a6, b__law_take := b6,
    f__law_of := f7, fd__law_of := _, F__law_of := F7, g__law_of := PySem.W.mg_of X G a7, b__law_of := b7,
    f__law_names := f8, fd__law_names := _, F__law_names := F8, g__law_names := PySem.W.mg_of X G a8, b__law_names := b8,
    f__law_pick := f9, fd__law_pick := _, F__law_pick := F9, g__law_pick := PySem.W.mg_of X G a9, b__law_pick := b9,
    f__law_prog := f10, fd__law_prog := _, F__law_prog := F10, g__law_prog := PySem.W.mg_of X G a10, b__law_prog := b10,
    f__law_phase := f11, fd__law_phase := _, F__law_phase := F11, g__law_phase := PySem.W.mg_of X G a11, b__law_phase := b11,
    f__law_gate := f12, fd__law_gate := _, F__law_gate := F12, g__law_gate := PySem.W.mg_of X G a12, b__law_gate := b12,
    f__law_number := f13, fd__law_number := _, F__law_number := F13, g__law_number := PySem.W.mg_of X G a13, b__law_number := b13,
    f__law_row := f14, fd__law_row := _, F__law_row := F14, g__law_row := PySem.W.mg_of X G a14, b__law_row := b14,
    f__law_odd := f15, fd__law_odd := _, F__law_odd := F15, g__law_odd := PySem.W.mg_of X G a15, b__law_odd := b15,
    f__law_bent := f16, fd__law_bent := _, F__law_bent := F16, g__law_bent := PySem.W.mg_of X G a16, b__law_bent := b16,
    f__law_is_act := f17, fd__law_is_act := _, F__law_is_act := F17, g__law_is_act := PySem.W.mg_of X G a17, b__law_is_act := b17,
    f__law_is_row := f18, fd__law_is_row := _, F__law_is_row := F18, g__law_is_row := PySem.W.mg_of X G a18, b__law_is_row := b18,
    f__law_right := f19, fd__law_right := _, F__law_right := F19, g__law_right := PySem.W.mg_of X G a19, b__law_right := b19,
    f_law := fa, fd_law := _, F_law := F20, g_law := PySem.W.mg_of X G a20, b_law := b20,
    kc_is_history := ⟨fun s us ws _ hl => match us, ws, hl with | [_, _], [_], _ => .of_eq rfl | [], _, hl => absurd hl (by simp [kbc]) | [_], _, hl => absurd hl (by simp [kbc]) | [_, _], [], hl => absurd hl (by simp [kbc]) | [_, _], _ :: _ :: _, hl => absurd hl (by simp [kbc]) | _ :: _ :: _ :: _, _, hl => absurd hl (by simp [kbc]), fun r1 r2 => kbc_rel r1 r2⟩,
    kb_is_history := ⟨fun s us ws _ hl => match us, ws, hl with | [], [_, _, _], _ => .of_eq rfl | [], [], hl => absurd hl (by simp [kb3]) | [], [_], hl => absurd hl (by simp [kb3]) | [], [_, _], hl => absurd hl (by simp [kb3]) | [], _ :: _ :: _ :: _ :: _, hl => absurd hl (by simp [kb3]) | _ :: _, _, hl => absurd hl (by simp [kb3]), fun r1 r2 => kb3_rel r1 r2⟩,
    m_abs := PySem.W.mg_none_of X G z0,
    m_all := PySem.W.mg_none_of X G z1,
    m_bool := PySem.W.mg_none_of X G z2,
    m_enumerate := PySem.W.mg_none_of X G z3,
    m_int := PySem.W.mg_none_of X G z4,
    m_isinstance := PySem.W.mg_none_of X G z5,
    m_len := PySem.W.mg_none_of X G z6,
    m_list := PySem.W.mg_none_of X G z7,
    m_max := PySem.W.mg_none_of X G z8,
    m_min := PySem.W.mg_none_of X G z9,
    m_range := PySem.W.mg_none_of X G z10,
    m_repr := PySem.W.mg_none_of X G z11,
    m_str := PySem.W.mg_none_of X G z12,
    m_tuple := PySem.W.mg_none_of X G z13 }
  exact ⟨T.fd_law, fun s v => .of_eq rfl, fun base _ _ => ok_law (k := 0) T⟩
end Z
open PySem PySem.W PyProof.Rows
set_option maxHeartbeats 0 in
theorem PySem.Challenge.cw_stilltold_k15_histories_of_anything_holds : PySem.Challenge.rw_stilltold_k15_histories_of_anything.Holds := by
  w_on; o_law; k_head; (case hw => w_witness2)
  k_fill
  refine Lw.walkG (l := PySem.Challenge.rw_stilltold_k15_histories_of_anything) (n := 63) (k := 8) (x := "_law_script") (sp := Z.sp_law) rfl (by decide) rfl ⟨rfl, by decide, by decide⟩ (fun w h Y => PySem.W.kIn_of Y) ?F (fun K _ a ns hl _ hS => ⟨a, ns, rfl, hS, hl, fun _ => rfl⟩)
  case F =>
    intro w mg fa h KX G hmg
    refine' Z.all_mk KX G hmg ?a0 ?l0 ?c0 ?k0 ?a1 ?l1 ?c1 ?k1 ?a2 ?l2 ?c2 ?k2 ?a3 ?l3 ?c3 ?k3 ?a4 ?l4 ?c4 ?k4 ?dd4 ?a5 ?l5 ?c5 ?k5 ?a6 ?l6 ?c6 ?k6 ?a7 ?l7 ?c7 ?k7 ?a8 ?l8 ?c8 ?k8 ?a9 ?l9 ?c9 ?k9 ?a10 ?l10 ?c10 ?k10 ?a11 ?l11 ?c11 ?k11 ?a12 ?l12 ?c12 ?k12 ?a13 ?l13 ?c13 ?k13 ?a14 ?l14 ?c14 ?k14 ?a15 ?l15 ?c15 ?k15 ?a16 ?l16 ?c16 ?k16 ?a17 ?l17 ?c17 ?k17 ?a18 ?l18 ?c18 ?k18 ?a19 ?l19 ?c19 ?k19 ?a20 ?l20 ?c20 ?k20 ?z0 ?z1 ?z2 ?z3 ?z4 ?z5 ?z6 ?z7 ?z8 ?z9 ?z10 ?z11 ?z12 ?z13
    (case a0 => k_is); (case l0 => k_is); (case c0 => k_is); (case k0 => k_is); (case a1 => k_is); (case l1 => k_is); (case c1 => k_is); (case k1 => k_is); (case a2 => k_is); (case l2 => k_is); (case c2 => k_is); (case k2 => k_is); (case a3 => k_is); (case l3 => k_is); (case c3 => k_is); (case k3 => k_is); (case a4 => k_is); (case l4 => k_is); (case c4 => k_is); (case k4 => k_is); (case dd4 => k_is); (case a5 => k_is); (case l5 => k_is); (case c5 => k_is); (case k5 => k_is); (case a6 => k_is); (case l6 => k_is); (case c6 => k_is); (case k6 => k_is); (case a7 => k_is); (case l7 => k_is); (case c7 => k_is); (case k7 => k_is); (case a8 => k_is); (case l8 => k_is); (case c8 => k_is); (case k8 => k_is); (case a9 => k_is); (case l9 => k_is); (case c9 => k_is); (case k9 => k_is); (case a10 => k_is); (case l10 => k_is); (case c10 => k_is); (case k10 => k_is); (case a11 => k_is); (case l11 => k_is); (case c11 => k_is); (case k11 => k_is); (case a12 => k_is); (case l12 => k_is); (case c12 => k_is); (case k12 => k_is); (case a13 => k_is); (case l13 => k_is); (case c13 => k_is); (case k13 => k_is); (case a14 => k_is); (case l14 => k_is); (case c14 => k_is); (case k14 => k_is); (case a15 => k_is); (case l15 => k_is); (case c15 => k_is); (case k15 => k_is); (case a16 => k_is); (case l16 => k_is); (case c16 => k_is); (case k16 => k_is); (case a17 => k_is); (case l17 => k_is); (case c17 => k_is); (case k17 => k_is); (case a18 => k_is); (case l18 => k_is); (case c18 => k_is); (case k18 => k_is); (case a19 => k_is); (case l19 => k_is); (case c19 => k_is); (case k19 => k_is); (case a20 => k_is); (case l20 => k_is); (case c20 => k_is); (case k20 => k_is); (case z0 => k_is); (case z1 => k_is); (case z2 => k_is); (case z3 => k_is); (case z4 => k_is); (case z5 => k_is); (case z6 => k_is); (case z7 => k_is); (case z8 => k_is); (case z9 => k_is); (case z10 => k_is); (case z11 => k_is); (case z12 => k_is); (case z13 => k_is)
