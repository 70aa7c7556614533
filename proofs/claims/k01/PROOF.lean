import PyProof.Rows.All
import Wide.All
import OpenK.AllK
import Wide.FinOn
import HandS.ForMost
import HandS.IsInst
import HandS.Wide
import HandS.Deep
import HandS.TupAny
import HandS.Flow
import HandS.EndBits
import PyProof.ReprRoads
import PyProof.ReprLen
import HandS.Style
import PySem.Challenge.RW_stilltold_k01_notes_of_anything
set_option Elab.async false
set_option linter.all false
set_option maxRecDepth 100000
namespace Lw
open PySem PySem.Spec PyProof.Rows L2

/-! ### defs that call repr: what no repr is under way around -/
structure FnG (P : Program) (w : World) (K : PySem.W.Frag) (mg : Str → Option Value) (base : Heap) (k : Nat) (f : Addr) (fd : FuncData) (ps : List Str) (sp : Sp) : Prop where
  lenG : ∀ vs H Q E, sp vs H Q E → vs.length = ps.length
  runG : ∀ (A : Around) (outer : List Env) (s : Shared) (H : Hp) (args : Args) (us : List Value) (vs : List V) (Q : VK) (E : XK), A.guards = some [] →
    Room k A → Env0 P w K mg base A outer s H → BindsTo s fd args (ps.zip us) → Vals vs us → sp vs H Q E →
    codeAny (model P w) A (.call (.ref f) args) (CR CX0 outer P w H s Q E) s

theorem FnG.ofOk {P : Program} {w : World} {K : PySem.W.Frag} {mg : Str → Option Value} {base : Heap} {k : Nat} {f : Addr} {fd : FuncData} {ps : List Str} {sp : Sp}
    (F : FnOk P w K mg base CX0 k f fd ps sp) : FnG P w K mg base k f fd ps sp :=
  ⟨F.len, fun A outer s H args us vs Q E _ => F.run A outer s H args us vs Q E⟩

section
variable {P : Program} {w : World} {K : PySem.W.Frag} {mg : Str → Option Value} {base : Heap}
theorem okG {x qual : Str} {st : Stmt} {f : Addr} {fd : FuncData} {N ps : List Str} {k : Nat} {sp : Sp}
    (F : Fun K x qual st f fd) (S : FnScope N ps (defScope st)) (len : ∀ vs H Q E, sp vs H Q E → vs.length = ps.length)
    (body : ∀ (cdv : Value) (A : Around) (outer : List Env) (s : Shared) (H : Hp) (vs : List V) (Q : VK) (E : XK), A.guards = some [] →
      Room k (A.deeper (envOfC qual (defScope st) s.heap.objs.size f cdv)) → sp vs H Q E →
      ∃ t, PSs (cxOf CX0 P w K mg base N qual (defScope st) f cdv A outer s H E).nox (defBody st) t ∧
        t { nx := fun _ H' => Q .non H', rt := Q } (start N vs) H) :
    FnG P w K mg base (k + 1) f fd ps sp := by
  obtain ⟨oc, od, kV, doc, pm, an, cdv, ct, osl, rfl, lk, hcd⟩ := F.ex
  refine ⟨len, ?_⟩
  intro A outer s H args us vs Q E hgd room e0 bt rv hs
  have hlen := len vs H Q E hs
  have inK : K.In s.heap :=
    e0.mod.kin.keeps fun b o e => (e0.bs b o e).1
  have noLim : s.heap.NoLimit :=
    e0.mod.nolimit.keeps fun b o e => (e0.bs b o e).1
  have kinds : ∀ y ∈ ps.zip us, (defScope st).names.lookup y.1 = some .local ∨
      ((defScope st).names.lookup y.1 = some .cell ∧ ((cellsFrom (s.heap.objs.size + 1) (defScope st).names []).lookup y.1).isSome = true) := by
    rintro ⟨n, v⟩ hy
    rcases S.par n (List.of_mem_zip hy).1 with q | q
    · exact Or.inl q
    · exact Or.inr ⟨q, PySem.W.cellsFrom_some _ _ _ (Or.inl q)⟩
  refine codeAny_call_function room.depth (inK _ _ lk) rfl S.co S.gen rfl (PySem.W.codeRec_of inK hcd) (bt _ _ _ _ ?_)
  refine wpAny_newFunctionEnv_cells S.kind kinds ?_
  intro env henv s1 ic
  subst henv
  refine ⟨noLim.keeps ic.toInCall.keep, codeAny_func ?_⟩
  obtain ⟨t, pt, ht⟩ := body cdv A outer s H vs Q E hgd (room.deeper _) hs
  have I := inv_start (CX := CX0) (E := E) S room.hd e0 hlen rv ic
  refine wpAny_mono (pt.nox.run [] s1 (start N vs) H _ I ht) ?_ (fun _ _ z => z)
  intro fl s' z
  cases fl with
  | ret u =>
    obtain ⟨v, σ', H', J, r', q⟩ := z
    exact ⟨v, H', J.os, J.bare, J.base, J.hok, r', q⟩
  | next =>
    obtain ⟨σ', H', J, q⟩ := z
    exact ⟨V.non, H', J.os, J.bare, J.base, J.hok, rfl, q⟩
  | brk => exact (z.elim fun _ z => z.elim fun _ z => z.2).elim
  | cont => exact (z.elim fun _ z => z.elim fun _ z => z.2).elim
end

section
variable {X : Cx} {k : Nat} {f : Addr} {fd : FuncData} {ps : List Str} {sp : Sp} {x : Str} {p pos : Pos} {e : Expr} {es : List Expr} {t : TA}
theorem pe_callG (F : FnG X.prog X.w X.K X.mg X.base k f fd ps sp) (hgd : X.A.guards = some []) (room : Room k X.A) (hg : Gl X x) (hm : X.mg x = some (.ref f))
    (hk : PySem.W.keepIn X.K (.ref f) = true) (hb : Binds X.K fd ps []) (ha : PA X (e :: es) t)
    (hdb : (x == ("__debug__" : Str)) = false := by decide) (he : starEach (e :: es) X.env = (false, eval e X.env) :: starEach es X.env := by rfl)
    (hpl : (backTo pos (starEach es X.env)).any (·.1) = false := by rfl) : PE X (.Call (.Name x p) (e :: es) [] pos) (tCall sp [] E0 t) := by
  refine ⟨fun pins s σ H Q I h => wpAny_Call_Name_kw (ld_glob I hg hm ?_ hdb)⟩
  refine PySem.W.callWith_K (h₀ := X.base) I.ok.mod.kin hk ?_ he hpl
  refine thn (ha.run pos pins s σ H _ I h) ?_
  rintro us s1 ⟨vs, H1, I1, r, q⟩
  refine ⟨I1.kIn, ?_⟩
  have q' : sp (vs ++ []) H1 Q E0 := q
  rw [List.append_nil] at q'
  have hl : us.length = ps.length := by
    rw [← r.length]
    exact F.lenG _ _ _ _ q'
  have bt : BindsTo s1 fd ⟨us, []⟩ (ps.zip us) := by
    have := hb s1 us I1.kIn (by rw [List.append_nil]; exact hl)
    rw [List.append_nil] at this
    exact this
  refine wpAny_call (codeAny_mono (F.runG X.A X.stack s1 H1 ⟨us, []⟩ us vs Q E0 hgd room I1.env0 bt r q') ?_)
  intro r' s' hq
  cases r' with
  | error e => exact False.elim hq
  | ok fl =>
    cases fl with
    | ret u => exact I1.after hq
    | next => exact False.elim hq
    | brk => exact False.elim hq
    | cont => exact False.elim hq

/-! ### a call by keywords alone -/
theorem pe_kw0 {kws : List Keyword} {ks : List Str} {tk : TA} {g : List Value → List Value → List Value} {gV : List V → List V → List V}
    (F : FnOk X.prog X.w X.K X.mg X.base CX0 k f fd ps sp) (room : Room k X.A) (hg : Gl X x) (hm : X.mg x = some (.ref f)) (hk : PySem.W.keepIn X.K (.ref f) = true)
    (hb : KBinds X.K fd ps ks g gV) (hkw : PK X kws tk) (hall : (backToKw pos (keywordEach kws X.env)).all (·.1.isSome) = true := by rfl)
    (hks : (backToKw pos (keywordEach kws X.env)).filterMap (·.1) = ks := by rfl) (hdb : (x == ("__debug__" : Str)) = false := by decide)
    (hpl : ((backTo pos (starEach [] X.env)).any (·.1) || (backToKw pos (keywordEach kws X.env)).any (·.1.isNone)) = false := by rfl) :
    PE X (.Call (.Name x p) [] kws pos) (tCallK sp gV E0 tNil tk) := by
  refine ⟨fun pins s σ H Q I h => wpAny_Call_Name_kw (ld_glob I hg hm ?_ hdb)⟩
  refine PySem.W.callWith_KW0 (h₀ := X.base) I.ok.mod.kin hk hall ?_ hpl
  refine thn (hkw.run pos pins s σ H _ I h) ?_
  rintro ws s2 ⟨zs, H2, I2, rz, q2⟩
  refine ⟨I2.kIn, ?_⟩
  rw [hks]
  exact run_fnk (us := []) (vs := []) F room hb pass0 I2 .nil rz q2

/-! ### a list display, its place not that of sys.modules -/
def tLstN (t : TA) : TE := fun σ H Q => t σ H fun xs H1 => xs.length ≤ sizeLine ∧ ∀ p, H1 p = none → p ≠ sysModules → Q (.ref p) (upd H1 p (.lst xs))
theorem pe_lstN (h : PA X es t) : PE X (.List es pos) (tLstN t) := by
  refine ⟨fun pins s σ H Q I hq => wpAny_List_spliced (thn (h.run pos pins s σ H _ I hq) ?_)⟩
  rintro us s1 ⟨xs, H1, I1, r, z, q⟩
  refine ⟨by rw [← r.length]; exact z, ?_⟩
  have fresh : H1 s1.heap.objs.size = none := I1.hok.fresh (Nat.le_refl _)
  have big : sysModules < s1.heap.objs.size := by
    have h1 : mainGlobals < X.base.objs.size := I1.ok.mod.glob.lt
    have h2 := Nat.le_trans I1.ok.bsz I1.sz
    exact Nat.lt_of_lt_of_le (Nat.lt_trans (by decide) h1) h2
  refine ⟨.ref s1.heap.objs.size, upd H1 s1.heap.objs.size (.lst xs), I1.laid (t' := s1.toks) ?_ (Nat.le_refl _) ?_, rfl, q _ fresh (Nat.ne_of_gt big)⟩
  · intro b u e
    exact Heap.get?_push_of_some _ e
  · exact ⟨z, us, 0, r, Heap.get?_push_size _ rfl⟩
end
end Lw

namespace Lw
open PySem PySem.Spec PyProof.Rows L2

/-! ### the law's own call, no repr under way around -/
theorem enterG {P : Program} {w : World} {K : PySem.W.Frag} {mg mb : Str → Option Value} {k : Nat} {fa a : Addr} {fd : FuncData} {x : Str} {sp : Sp} {s₁ : Shared} {vs : List Value} {ns : List Int}
    (inK : K.In s₁.heap) (gl : s₁.heap.Ns mainGlobals mg) (bl : s₁.heap.Ns builtinsNs mb) (bb : ∀ x : Str, x ≠ "__name__" → mb x = bootBuiltins x) (lim : s₁.heap.NoLimit) (gens : s₁.gens = #[])
    (ha : s₁.heap.get? a = some { cls := .type "list", data := .seq vs.toArray }) (hints : IntsAre vs ns) (short : ns.length ≤ sizeLine) (room : Room k callerA)
    (F : ∀ base : Heap, K.In base → base.Ns mainGlobals mg → FnG P w K mg base k fa fd [x] sp)
    (bind : ∀ (s : Shared) (u : Value), BindsTo s fd ⟨[u], []⟩ [(x, u)])
    (hsp : ∀ H : Hp, SqL K H a (ns.map V.int) → sp [.ref a] H (fun v _ => v = .bl true) fun _ _ _ => False) :
    codeAny (model P w) callerA (.call (.ref fa) ⟨[.ref a], []⟩)
      (fun r s' => r = .ok (.ret (.bool true)) ∧ OldK s₁.heap s'.heap ∧ s'.os = s₁.os ∧ AllBare s'.gens) s₁ := by
  have rv := vals_ints hints
  have lenV := hints.length
  have main : ∀ H : Hp, (∀ b, H b = none ∨ ∃ o xs, H b = some (.frz o (.lst xs))) → SqL K H a (ns.map V.int) → HOk P w H s₁.heap →
      (∀ b, H b ≠ none → b = a) → (H a ≠ none → K.lookup a = none) →
      codeAny (model P w) callerA (.call (.ref fa) ⟨[.ref a], []⟩)
        (fun r s' => r = .ok (.ret (.bool true)) ∧ OldK s₁.heap s'.heap ∧ s'.os = s₁.os ∧ AllBare s'.gens) s₁ := by
    intro H only sq hok isA notK
    have free : ∀ {b : Addr} {o : Obj} {es : Array DictEntry} {ep : Nat},
        s₁.heap.get? b = some o → o.data = .dict es ep → H b = none := by
      intro b o es ep hb hd
      cases q : H b with
      | none => rfl
      | some u =>
        have eb : b = a := isA b (by rw [q]; exact fun z => nomatch z)
        rw [eb, ha] at hb
        cases hb
        have z : Data.seq vs.toArray _ = Data.dict es ep := hd
        cases z
    have nsT : ∀ {b : Addr} {m : Str → Option Value}, s₁.heap.Ns b m → (hidT s₁.heap H).Ns b m := by
      rintro b m ⟨o, es, ep, e, d, r⟩
      exact ⟨o, es, ep, hidT_get e (free e d), d, r⟩
    have kT : K.In (hidT s₁.heap H) := by
      intro b o e
      refine hidT_get (inK b o e) ?_
      cases q : H b with
      | none => rfl
      | some u =>
        have eb : b = a := isA b (by rw [q]; exact fun z => nomatch z)
        have nl := notK (by rw [← eb, q]; exact fun z => nomatch z)
        rw [← eb, e] at nl
        cases nl
    have md : Mod K mg (hidT s₁.heap H) := by
      obtain ⟨mc, l1, l2⟩ := lim
      exact ⟨kT, nsT gl, ⟨mb, nsT bl, bb⟩, mc, nsT l1, l2⟩
    have e0 : Env0 P w K mg (hidT s₁.heap H) callerA [] s₁ H := by
      refine ⟨rfl, md, fun b o e => of_hidT e, ?_, trivial, ?_, hok, .of_eq gens⟩
      · exact Nat.le_of_eq (hidT_size _ _)
      · intro b hb
        exact absurd (show b ∈ ([] : List Addr) from hb) (List.not_mem_nil)
    have ran := (F _ kT (nsT gl)).runG callerA [] s₁ H ⟨[.ref a], []⟩ [.ref a] [.ref a] _ _ rfl room e0 (bind s₁ (.ref a)) (.cons rfl .nil) (hsp H sq)
    refine codeAny_mono ran ?_
    intro r s' h
    cases r with
    | error e => exact False.elim h
    | ok fl =>
      cases fl with
      | next => exact False.elim h
      | brk => exact False.elim h
      | cont => exact False.elim h
      | ret u =>
        obtain ⟨v, H', os, bare, un, hok', r', q⟩ := h
        have ev : v = .bl true := q
        subst ev
        obtain rfl : u = Value.bool true := r'
        refine ⟨rfl, OldK.of_keep ?_, os, bare⟩
        intro b o e
        rcases only b with z | ⟨ob, xs, z⟩
        · exact un.keep b o e z (fun y => absurd (show b ∈ ([] : List Addr) from y) List.not_mem_nil) List.not_mem_nil
        · have z2 := un.frzs b ob _ z
          have e1 := (hok b _ z).1
          have e2 := (hok' b _ z2).1
          rw [e] at e1
          cases e1
          exact e2
  cases hk : K.lookup a with
  | some o =>
    have e := inK a o hk
    rw [ha] at e
    cases e
    refine main (fun _ => none) (fun _ => Or.inl rfl) (Or.inr ?_) ?_ (fun b z => absurd rfl z) (fun z => absurd rfl z)
    · exact ⟨_, vs.toArray, _, hk, rfl, rfl, rfl, by rw [List.size_toArray, lenV]; exact short, by simpa using rv⟩
    · intro b u z
      have z' : (none : Option HO) = some u := z
      cases z'
  | none =>
    let o₀ : Obj := { cls := .type "list", data := .seq vs.toArray }
    let H₀ : Hp := fun b => if b = a then some (.frz o₀ (.lst (ns.map V.int))) else none
    have at_a : H₀ a = some (.frz o₀ (.lst (ns.map V.int))) := if_pos rfl
    have off : ∀ b, b ≠ a → H₀ b = none := fun b hb => if_neg hb
    refine main H₀ ?_ (Or.inl (Or.inr ⟨o₀, at_a⟩)) ?_ ?_ (fun _ => hk)
    · intro b
      by_cases hb : b = a
      · rw [hb]
        exact Or.inr ⟨_, _, at_a⟩
      · exact Or.inl (off b hb)
    · intro b u z
      by_cases hb : b = a
      · rw [hb, at_a] at z
        cases z
        rw [hb]
        exact ⟨ha, by rw [List.length_map]; exact short, vs, _, rv, ha⟩
      · rw [off b hb] at z
        cases z
    · intro b z
      by_cases hb : b = a
      · exact hb
      · exact absurd (off b hb) z

theorem walkG {l : PySem.W.OpenLaw} {n k : Nat} {q : Program} {loose : List Str} {XP : (Str → Option Value) → Heap → Prop} {YP : World → Heap → Prop} {d : DefRec}
    {K : Params → PySem.W.Frag} {sp : PySem.W.Frag → Sp} {x : Str} (hn : l.most = some n) (hn2 : n ≤ sizeLine) (hdf : d.params.defaults = []) (room : Room k callerA)
    (hY : ∀ (w : World) (h : Heap), YP w h → (K w.params).In h)
    (F : ∀ (w : World) (mg : Str → Option Value) (fa : Addr) (h : Heap), (K w.params).In h → h.Ns mainGlobals mg → mg d.name = some (.ref fa) →
      ∃ fd : FuncData, (∀ (s : Shared) (u : Value), BindsTo s fd ⟨[u], []⟩ [(x, u)]) ∧
        ∀ base : Heap, (K w.params).In base → base.Ns mainGlobals mg → FnG l.prog w (K w.params) mg base k fa fd [x] (sp (K w.params)))
    (hsp : ∀ (K : PySem.W.Frag) (H : Hp) (a : Addr) (ns : List Int), ns.length ≤ n → (∀ z ∈ ns, Builtin.Int.intBits z ≤ 1048576) → SqL K H a (ns.map V.int) →
      sp K [.ref a] H (fun v _ => v = .bl true) fun _ _ _ => False) :
    PySem.W.WalkO q loose XP YP l.row.toRowW d [] (fun f vs => PySem.call f vs) := by
  refine Att.attach_callB hn hdf ?_
  intro w s₀ s₁ mg mb fa o pm cd doc a vs ns G Y ho hd hcd hmg hobj hints hlen hbits hg
  have inK := hY w _ Y
  obtain ⟨fd, hb, hF⟩ := F w mg fa _ inK G.T.g hmg
  exact enterG inK G.T.g G.T.b G.T.builtins G.T.nolimit hg hobj hints (Nat.le_trans hlen hn2) room hF hb fun H hS => hsp _ H a ns hlen hbits hS

/-! ### data in the heap -/
def keyD : Key → PyData
  | .inl i => .int i
  | .inr x => .str x
mutual
/-- v holds the data d; f: no list of it stands at the place of sys.modules -/
inductive D (f : Bool) (H : Hp) : V → PyData → Prop
  | non : D f H .non .none
  | bl (b : Bool) : D f H (.bl b) (.bool b)
  | int (i : Int) : D f H (.int i) (.int i)
  | str (x : Str) : D f H (.str x) (.str x)
  | lst {a : Addr} {xs : List V} {ds : List PyData} : H a = some (.lst xs) → (f = true → a ≠ sysModules) → DA f H xs ds → D f H (.ref a) (.list ds)
  | tup {a : Addr} {xs : List V} {ds : List PyData} : H a = some (.tup xs) → DA f H xs ds → D f H (.ref a) (.tuple ds)
  | dct {a : Addr} {kvs : List (Key × V)} {ds : List PyData} : H a = some (.dK kvs) → DA f H (kvs.map (·.2)) ds → D f H (.ref a) (.dict ((kvs.map fun p => keyD p.1).zip ds))
inductive DA (f : Bool) (H : Hp) : List V → List PyData → Prop
  | nil : DA f H [] []
  | cons {v : V} {vs : List V} {d : PyData} {ds : List PyData} : D f H v d → DA f H vs ds → DA f H (v :: vs) (d :: ds)
end
theorem DA.length {f : Bool} {H : Hp} : ∀ {vs : List V} {ds : List PyData}, DA f H vs ds → vs.length = ds.length
  | _, _, .nil => rfl
  | _, _, .cons _ t => by rw [List.length_cons, List.length_cons, t.length]
theorem DA.get {f : Bool} {H : Hp} : ∀ {vs : List V} {ds : List PyData} (i : Nat) {v : V}, DA f H vs ds → vs[i]? = some v → ∃ d, ds[i]? = some d ∧ D f H v d
  | _, _, _, _, .nil, e => by simp at e
  | _, _, 0, _, .cons h _, e => by
    simp at e
    subst e
    exact ⟨_, rfl, h⟩
  | _, _, i + 1, v, .cons _ t, e => by
    obtain ⟨d, e1, h⟩ := DA.get i (v := v) t (by simpa using e)
    exact ⟨d, by simpa using e1, h⟩
theorem DA.append {f : Bool} {H : Hp} : ∀ {vs ws : List V} {ds es : List PyData}, DA f H vs ds → DA f H ws es → DA f H (vs ++ ws) (ds ++ es)
  | _, _, _, _, .nil, h => h
  | _, _, _, _, .cons h t, g => .cons h (t.append g)
theorem DA.take {f : Bool} {H : Hp} : ∀ {vs : List V} {ds : List PyData} (n : Nat), DA f H vs ds → DA f H (vs.take n) (ds.take n)
  | _, _, 0, _ => .nil
  | _, _, _ + 1, .nil => .nil
  | _, _, n + 1, .cons h t => .cons h (t.take n)
theorem DA.drop {f : Bool} {H : Hp} : ∀ {vs : List V} {ds : List PyData} (n : Nat), DA f H vs ds → DA f H (vs.drop n) (ds.drop n)
  | _, _, 0, h => h
  | _, _, _ + 1, .nil => .nil
  | _, _, n + 1, .cons _ t => t.drop n
theorem DA.rev {f : Bool} {H : Hp} : ∀ {vs : List V} {ds : List PyData}, DA f H vs ds → DA f H vs.reverse ds.reverse
  | _, _, .nil => .nil
  | _, _, .cons h t => by
    rw [List.reverse_cons, List.reverse_cons]
    exact t.rev.append (.cons h .nil)
mutual
theorem D.same {f : Bool} {H H' : Hp} (s : Same H H') : ∀ {v : V} {d : PyData}, D f H v d → D f H' v d
  | _, _, .non => .non
  | _, _, .bl b => .bl b
  | _, _, .int i => .int i
  | _, _, .str x => .str x
  | _, _, .lst e n t => .lst (s _ _ e) n (DA.same s t)
  | _, _, .tup e t => .tup (s _ _ e) (DA.same s t)
  | _, _, .dct e t => .dct (s _ _ e) (DA.same s t)
theorem DA.same {f : Bool} {H H' : Hp} (s : Same H H') : ∀ {vs : List V} {ds : List PyData}, DA f H vs ds → DA f H' vs ds
  | _, _, .nil => .nil
  | _, _, .cons a b => .cons (D.same s a) (DA.same s b)
end
mutual
theorem D.weak {f : Bool} {H : Hp} : ∀ {v : V} {d : PyData}, D f H v d → D false H v d
  | _, _, .non => .non
  | _, _, .bl b => .bl b
  | _, _, .int i => .int i
  | _, _, .str x => .str x
  | _, _, .lst e _ t => .lst e (fun z => nomatch z) (DA.weak t)
  | _, _, .tup e t => .tup e (DA.weak t)
  | _, _, .dct e t => .dct e (DA.weak t)
theorem DA.weak {f : Bool} {H : Hp} : ∀ {vs : List V} {ds : List PyData}, DA f H vs ds → DA false H vs ds
  | _, _, .nil => .nil
  | _, _, .cons a b => .cons (D.weak a) (DA.weak b)
end

/-! ### the data are read by the machine -/
theorem readsAll_app {h : Heap} : ∀ {vs : List Value} {ds : List PyData} {as : List Addr}, ReadsAll h vs ds as → True := fun _ => trivial
theorem pairs_keys {P : Program} {w : World} {h : Heap} : ∀ {es : List DictEntry} {kvs : List (Key × Value)}, Pairs (mixKind P w) es kvs →
    ReadsAll h (es.map (·.key)) (kvs.map fun p => keyD p.1) []
  | _, _, .nil => .nil
  | _, _, .cons (kv := kv) (e := e) hk _ t => by
    have r : Reads h e.key (keyD kv.1) [] := by
      rcases keyIs_shape (show keyIs kv.1 e.key = true from hk) with ⟨i, tk, e1, e2⟩ | ⟨x, tk, e1, e2⟩
      · rw [e1, e2]; exact Reads.int i tk
      · rw [e1, e2]; exact Reads.str x tk
    exact ReadsAll.cons r (pairs_keys t)
theorem pairs_vals {P : Program} {w : World} : ∀ {es : List DictEntry} {kvs : List (Key × Value)}, Pairs (mixKind P w) es kvs → es.map (·.val) = kvs.map (·.2)
  | _, _, .nil => rfl
  | _, _, .cons _ hv t => by rw [List.map_cons, List.map_cons, hv, pairs_vals t]
theorem kv_keys : ∀ {kvs : List (Key × V)} {vs : List (Key × Value)}, KV kvs vs → kvs.map (fun p => keyD p.1) = vs.map fun p => keyD p.1
  | _, _, .nil => rfl
  | _, _, .cons h t => by rw [List.map_cons, List.map_cons, h.1, kv_keys t]
theorem kv_vals : ∀ {kvs : List (Key × V)} {vs : List (Key × Value)}, KV kvs vs → Vals (kvs.map (·.2)) (vs.map (·.2))
  | _, _, .nil => .nil
  | _, _, .cons h t => .cons h.2 (kv_vals t)
section
variable {X : Cx} {pins : List (Addr × Obj)} {σ : L2.St} {H : Hp} {s : Shared}
mutual
theorem D.reads {f : Bool} (I : Inv X pins σ H s) : ∀ {v : V} {d : PyData}, D f H v d → ∀ u, RelV v u → ∃ as, Reads s.heap u d as ∧ (f = true → sysModules ∉ as)
  | _, _, .non, u, r => by
    cases r
    exact ⟨_, Reads.none, fun _ => List.not_mem_nil⟩
  | _, _, .bl b, u, r => by
    cases r
    exact ⟨_, Reads.bool b, fun _ => List.not_mem_nil⟩
  | _, _, .int i, u, r => by
    obtain ⟨t, rfl⟩ := r
    exact ⟨_, Reads.int i t, fun _ => List.not_mem_nil⟩
  | _, _, .str x, u, r => by
    obtain ⟨t, rfl⟩ := r
    exact ⟨_, Reads.str x t, fun _ => List.not_mem_nil⟩
  | _, _, .lst (a := a) (xs := xs) e n t, u, r => by
    cases (show u = Value.ref a from r)
    obtain ⟨_, its, k, rv, ho⟩ := (show ObjOk X.prog X.w H s.heap a (.lst xs) from I.hok a _ e)
    obtain ⟨as, ra, na⟩ := DA.reads I t its rv
    refine ⟨_, Reads.list ho rfl rfl ra, fun hf z => ?_⟩
    rcases List.mem_cons.mp z with z | z
    · exact n hf z.symm
    · exact na hf z
  | _, _, .tup (a := a) (xs := xs) e t, u, r => by
    cases (show u = Value.ref a from r)
    obtain ⟨_, its, rv, o, ho, hc, k, hd⟩ := (show ObjOk X.prog X.w H s.heap a (.tup xs) from I.hok a _ e)
    obtain ⟨as, ra, na⟩ := DA.reads I t its rv
    exact ⟨_, Reads.tuple ho hc hd ra, na⟩
  | _, _, .dct (a := a) (kvs := kvs) (ds := ds) e t, u, r => by
    cases (show u = Value.ref a from r)
    obtain ⟨_, ns, vs, kv, o, es, ep, ho, ex, hd, _, pr, _⟩ := (show ObjOk X.prog X.w H s.heap a (.dK kvs) from I.hok a _ e)
    obtain ⟨as, ra, na⟩ := DA.reads I t _ (kv_vals kv)
    have hl : (kvs.map fun p => keyD p.1).length = ds.length := by
      have := t.length
      rw [List.length_map] at this
      rw [List.length_map]
      exact this
    have r1 := pairs_keys (h := s.heap) pr
    rw [← kv_keys kv] at r1
    rw [← pairs_vals pr] at ra
    refine ⟨_, Reads.dict ho ex.1 hd (as := []) (bs := as) ?_ ?_, fun hf z => ?_⟩
    · rw [List.map_fst_zip (Nat.le_of_eq hl)]
      exact r1
    · rw [List.map_snd_zip (Nat.le_of_eq hl.symm)]
      exact ra
    · rcases List.mem_cons.mp z with z | z
      · rw [← z] at ns
        exact absurd ns (by decide)
      · exact na hf (by simpa using z)
theorem DA.reads {f : Bool} (I : Inv X pins σ H s) : ∀ {vs : List V} {ds : List PyData}, DA f H vs ds → ∀ us, Vals vs us → ∃ as, ReadsAll s.heap us ds as ∧ (f = true → sysModules ∉ as)
  | _, _, .nil, us, r => by
    cases r
    exact ⟨_, ReadsAll.nil, fun _ => List.not_mem_nil⟩
  | _, _, .cons h t, us, r => by
    cases r with
    | cons r1 r2 =>
      obtain ⟨as, q1, n1⟩ := D.reads I h _ r1
      obtain ⟨bs, q2, n2⟩ := DA.reads I t _ r2
      exact ⟨_, ReadsAll.cons q1 q2, fun hf z => (List.mem_append.mp z).elim (n1 hf) (n2 hf)⟩
end
end

/-! ### repr -/
/-- what repr takes -/
structure Ok (d : PyData) : Prop where
  sh : d.showable = true
  dp : d.depth ≤ 100
  ln : d.shown.length ≤ sizeLine
def rRepr : List V → Hp → VK → Prop := fun xs H Q => ∃ (v : V) (d : PyData) (f : Bool), xs = [v] ∧ D f H v d ∧ (d.hasDict = true → f = true) ∧ Ok d ∧ Q (.str d.shown) H
theorem call_repr {X : Cx} {k : Nat} (hgd : X.A.guards = some []) (room : Room k X.A) : CallR X (.builtin "repr") rRepr := by
  intro pins s σ H xs us Q I r h
  obtain ⟨v, d, f, rfl, hd, hf, ok, q⟩ := h
  obtain ⟨u, rfl, ru⟩ := vals1 r
  cases hd with
  | non =>
    cases ru
    exact PySem.P.repr_of_none ⟨.str _, H, I.tok _, ⟨_, rfl⟩, by simpa only [PyData.shown] using q⟩
  | bl b =>
    cases ru
    exact PySem.P.repr_of_bool ⟨.str _, H, I.tok _, ⟨_, rfl⟩, by simpa only [PyData.shown] using q⟩
  | int i =>
    obtain ⟨t, rfl⟩ := ru
    have hz : i.natAbs.log2 < 1920 := by simpa only [PyData.showable, decide_eq_true_eq] using ok.sh
    exact PySem.P.repr_of_int hz ⟨.str _, H, I.tok _, ⟨_, rfl⟩, by simpa only [PyData.shown] using q⟩
  | str x =>
    obtain ⟨t, rfl⟩ := ru
    have hz : (reprText x).length ≤ sizeLine := by simpa only [PyData.shown] using ok.ln
    exact PySem.P.repr_of_str ⟨.str _, H, I.tok _, ⟨_, rfl⟩, by simpa only [PyData.shown] using q⟩ hz
  | lst e n t =>
    cases ru
    obtain ⟨as, rd, na⟩ := D.reads I (.lst e n t) _ rfl
    have hu := room.un
    have hdp := ok.dp
    exact repr_of_reads' rd ok.sh (fun z => na (hf z)) hgd (by omega) (fun _ _ e => e) (fun h' tk t2 hk => ⟨.str _, H, I.kept (t' := t2) hk, ⟨_, rfl⟩, q⟩) ok.ln
  | tup e t =>
    cases ru
    obtain ⟨as, rd, na⟩ := D.reads I (.tup e t) _ rfl
    have hu := room.un
    have hdp := ok.dp
    exact repr_of_reads' rd ok.sh (fun z => na (hf z)) hgd (by omega) (fun _ _ e => e) (fun h' tk t2 hk => ⟨.str _, H, I.kept (t' := t2) hk, ⟨_, rfl⟩, q⟩) ok.ln
  | dct e t =>
    cases ru
    obtain ⟨as, rd, na⟩ := D.reads I (.dct e t) _ rfl
    have hu := room.un
    have hdp := ok.dp
    exact repr_of_reads' rd ok.sh (fun z => na (hf z)) hgd (by omega) (fun _ _ e => e) (fun h' tk t2 hk => ⟨.str _, H, I.kept (t' := t2) hk, ⟨_, rfl⟩, q⟩) ok.ln
end Lw

namespace Lw
open PySem PySem.Spec PyProof.Rows L2

/-! ### powers of great numbers -/
def CPowW (i j : Int) : Prop := 0 ≤ j ∧ (Builtin.Int.intBits i : Int) * j ≤ 2 ^ 27
theorem op_powW {X : Cx} : OpR X (binaryOp .Pow) (rI CPowW fun i j => .int (i ^ j.toNat)) :=
  opI fun _ _ _ _ _ _ _ hc q => pow_int hc.1 hc.2 q

/-! ### a tuple turned about -/
section
variable {prog : Program} {w : World} {A : Around} {E : Value → Shared → Prop} {s : Shared}
theorem places_back (n : Nat) : Builtin.Slice.slicePlaces ((n : Int) - 1) (-1) (-1) = n := by
  unfold Builtin.Slice.slicePlaces
  rw [if_neg (by decide)]
  by_cases h : n = 0
  · subst h
    rfl
  · rw [if_pos (by omega)]
    have e : (((n : Int) - 1 - -1 - 1) / (- -1)) = (n : Int) - 1 := by
      rw [show (- -1 : Int) = 1 from rfl, Int.ediv_one]
      omega
    rw [e]
    omega
theorem pick_back (xs : Array Value) : ((List.range xs.size).filterMap fun (k : Nat) => xs[((xs.size : Int) - 1 + (k : Int) * (-1)).toNat]?) = xs.toList.reverse := by
  have e : ∀ k ∈ List.range xs.size, xs[((xs.size : Int) - 1 + (k : Int) * (-1)).toNat]? = xs.toList.reverse[k]? := by
    intro k hk
    have hk' : k < xs.size := List.mem_range.mp hk
    have e1 : ((xs.size : Int) - 1 + (k : Int) * (-1)).toNat = xs.size - 1 - k := by omega
    rw [e1, List.getElem?_reverse (by rw [Array.length_toList]; exact hk'), Array.length_toList, Array.getElem?_toList]
  have fm : ∀ (l : List Nat) (f g : Nat → Option Value), (∀ k ∈ l, f k = g k) → l.filterMap f = l.filterMap g := by
    intro l f g
    induction l with
    | nil => intro _; rfl
    | cons k l ih =>
      intro h
      rw [List.filterMap_cons, List.filterMap_cons, h k List.mem_cons_self, ih fun j hj => h j (List.mem_cons_of_mem _ hj)]
  rw [fm _ _ _ e]
  have e2 : xs.size = xs.toList.reverse.length := by rw [List.length_reverse, Array.length_toList]
  rw [e2]
  generalize xs.toList.reverse = ys
  induction ys with
  | nil => rfl
  | cons y ys ih =>
    rw [List.length_cons, List.range_succ_eq_map, List.filterMap_cons]
    show y :: _ = _
    rw [List.filterMap_map]
    exact congrArg (y :: ·) ih
theorem getItem_back {t sl : Addr} {items : Array Value} {tk : Tok} {Q : Value → Shared → Prop} (ht : IsTup s.heap t items) (hs : s.heap.IsSliceOf sl .none .none (.int (-1) tk))
    (h : Q (.ref s.heap.objs.size) { s with heap := s.heap.push { cls := .type "tuple", data := .seq items.toList.reverse.toArray } }) (hz : items.size ≤ sizeLine) :
    wpAny (model prog w) A (getItem (.ref t) (.ref sl)) Q E s := by
  have room : sizeOk (.seq items.toList.reverse.toArray) := by
    show items.toList.reverse.toArray.size ≤ sizeLine
    rw [List.size_toArray, List.length_reverse, Array.length_toList]
    exact hz
  obtain ⟨os, hos, hcs, hds⟩ := id hs
  have hTs : s.TypeIs (.ref sl) "slice" := ⟨os, hos, hcs⟩
  unfold getItem
  try with_reducible refine wpAny_holding ?_
  first
    | refine wpAny_bind (wpAny_pure ?_)
    | skip
  refine wpAny_bind (wpAny_sequenceKey ht.typeIs (by decide) ?_)
  refine wpAny_bind (wpAny_callSpecial?_slot (name := Str.ofString "__getitem__") ht.typeIs
    PyProof.Rows.slot_tuple_getitem (wpAny_call_entry PyProof.Rows.slot_tuple_getitem ht.typeIs entry_tuple_getitem ?_ (args_tuple_getitem _ _)))
  show wpAny _ _ (Builtin.Tuple.tupleItemsOf (.ref t) >>= _) _ _ s
  refine wpAny_bind (tupleItemsOf_ ht ?_)
  refine wpAny_bind (wpAny_typeOf hTs ?_)
  rw [if_pos (by decide)]
  refine wpAny_bind (m := Builtin.Slice.sliceApplied (.ref sl) (pure (items.size : Int))) ?_
  unfold Builtin.Slice.sliceApplied Builtin.Slice.sliceFields
  refine wpAny_bind (wpAny_bind (wpAny_field hos hds (x := Value.none) rfl (wpAny_bind
    (wpAny_field hos hds (x := Value.none) rfl (wpAny_bind (wpAny_field hos hds (x := .int (-1) tk) rfl (wpAny_pure ?_)))))))
  refine wpAny_bind (slicePart_int ?_)
  show wpAny _ _ (if ((-1 : Int) == 0) = true then _ else _) _ _ s
  rw [if_neg (by decide)]
  refine wpAny_bind (slicePart_none (wpAny_bind (slicePart_none (wpAny_bind (wpAny_pure ?_)))))
  show wpAny _ _ (pure ((items.size : Int) - 1, (-1 : Int), Builtin.Slice.slicePlaces ((items.size : Int) - 1) (-1) (-1))) _ _ s
  rw [places_back]
  refine wpAny_pure ?_
  show wpAny _ _ (if (((items.size : Int) - 1 == 0) && ((-1 : Int) == 1) && (items.size == items.size)) = true then _ else _) _ _ s
  rw [if_neg (by simp), pick_back]
  first
    | exact wpAny_bind (m := Builtin.Tuple.tupleExact _) (wpAny_newObj_type (wpAny_pure ⟨_, rfl, wpAny_pure h⟩) room)
    | exact wpAny_bind (m := Builtin.Tuple.tupleExact _)
        (wpAny_newObj_type (wpAny_bind (wpAny_pure (wpAny_pure ⟨_, rfl, wpAny_pure h⟩))) room)
end
section
variable {X : Cx}
def tRevT (K : PySem.W.Frag) (te : TE) : TE := fun σ H Q => te σ H fun x H1 => ∃ a xs, x = .ref a ∧ SqT K H1 a xs ∧ ∀ p, H1 p = none → Q (.ref p) (upd H1 p (.tup xs.reverse))
theorem vals_rev : ∀ {xs : List V} {us : List Value}, Vals xs us → Vals xs.reverse us.reverse
  | _, _, .nil => .nil
  | _, _, .cons h t => by
    rw [List.reverse_cons, List.reverse_cons]
    exact (vals_rev t).append (.cons h .nil)
theorem pe_revT {e : Expr} {te : TE} {k : Nat} {p1 p2 p3 pos : Pos} (he : PE X e te) :
    PE X (.Subscript e (.Slice none none (some (.UnaryOp .USub (.Constant (.int 1) k p1) p2)) p3) pos) (tRevT X.K te) := by
  refine ⟨fun pins s σ H Q I h => Subscript_ (thn (he.run pins s σ H _ I h) ?_)⟩
  rintro v s1 ⟨x, H1, I1, r1, a, xs, rfl, hx, q⟩
  cases r1
  have hst : PO X (some (.UnaryOp .USub (.Constant (.int 1) k p1) p2)) (tPart (tUn (rU fun i => .int (-i)) (tC (.int 1)))) :=
    po_some (pe_un un_neg pe_int)
  refine wpAny_Slice (thn (po_none.run pins s1 σ H1 (fun o H2 => o = none ∧ H2 = H1) I1 ⟨rfl, rfl⟩) ?_)
  rintro vl s2 ⟨l, H2, I2, pl, el, e2⟩
  subst el e2
  refine thn (po_none.run pins s2 σ H2 (fun o H3 => o = none ∧ H3 = H2) I2 ⟨rfl, rfl⟩) ?_
  rintro vu s3 ⟨u, H3, I3, pu, eu, e3⟩
  subst eu e3
  refine thn (hst.run pins s3 σ H3 (fun o H4 => o = some (-1) ∧ H4 = H3) I3 ⟨1, rfl, -1, rfl, rfl, rfl⟩) ?_
  rintro vs s4 ⟨o, H4, I4, ps, eo, e4⟩
  subst eo e4
  cases pl
  cases pu
  cases ps with
  | int i tk =>
    have I5 : Inv X pins σ H4 { s4 with heap := s4.heap.push { cls := .type "slice", data := .fields #[.none, .none, .int (-1) tk] } } :=
      I4.kept (t' := s4.toks) fun b ob q => Heap.get?_push_of_some _ q
    obtain ⟨its, r, ht, hz⟩ := I5.tuple hx
    have hlen := r.length
    show wpAny (model X.prog X.w) X.A (subscriptTail e (.Slice none none (some (.UnaryOp .USub (.Constant (.int 1) k p1) p2)) p3) (.ref a)
      (.ref s4.heap.objs.size)) (EP X pins σ Q) X.xe { s4 with heap := s4.heap.push { cls := .type "slice", data := .fields #[.none, .none, .int (-1) tk] } }
    refine tail_any (ops := [.ref a, .ref s4.heap.objs.size]) ht.typeIs PyProof.Rows.slot_tuple_getitem.lookup ?_ (by with_unfolding_all rfl)
    refine getItem_back ht (Heap.IsSliceOf.new _ _ _ _) ?_ (by rw [List.size_toArray]; omega)
    refine ⟨.ref _, _, I5.laid (t' := s4.toks) (o := .tup xs.reverse) (fun b ob q => Heap.get?_push_of_some _ q) (Nat.le_refl _) ?_, rfl, q _ (I5.hok.fresh (Nat.le_refl _))⟩
    exact ⟨by rw [List.length_reverse]; exact hz, its.reverse, vals_rev r, IsTup.new _ _⟩
/-! ### tuples cut and put together: one way out -/
theorem cut_whole {xs : List V} {lo hi : Option Int} (h : HT.sIx xs.length 0 lo = 0 ∧ HT.sIx xs.length xs.length hi = xs.length) : cutV xs lo hi = xs := by
  unfold cutV
  rw [h.1, h.2, List.drop_zero, Nat.sub_zero]
  exact List.take_length
def rSlU : V → Option Int → Option Int → Hp → VK → Prop := fun x lo hi H Q => ∃ a xs, x = .ref a ∧ H a = some (.tup xs) ∧
  ∀ p H', Same H H' → H' p = some (.tup (cutV xs lo hi)) → (p = a ∨ H p = none) → Q (.ref p) H'
theorem upd_grow {H : Hp} {p : Addr} {o : HO} (h : H p = none) : Same H (upd H p o) := fun b u q => by
  rw [upd_ne (ne_of_none q h)]
  exact q
theorem sl_U : SlR X rSlU := by
  intro pins s σ H x v vl vu lo hi sl Q I rx hs pl pu h
  obtain ⟨a, xs, rfl, hx, q⟩ := h
  refine sl_tupA pins s σ H _ v vl vu lo hi sl Q I rx hs pl pu ⟨a, xs, rfl, SqT.of hx, fun hw => ?_, fun _ p np => ?_⟩
  · exact q a H (Same.refl H) (by rw [cut_whole hw]; exact hx) (Or.inl rfl)
  · exact q p _ (upd_grow np) upd_same (Or.inr np)
def rCatU : R2 := fun x y H Q => ∃ a b xs ys, x = .ref a ∧ y = .ref b ∧ H a = some (.tup xs) ∧ H b = some (.tup ys) ∧ xs.length + ys.length ≤ sizeLine ∧
  ∀ p H', Same H H' → H' p = some (.tup (xs ++ ys)) → (p = a ∨ p = b ∨ H p = none) → Q (.ref p) H'
theorem op_catU : OpR X (binaryOp .Add) rCatU := by
  intro pins s σ H x y v u Q I rx ry h
  obtain ⟨a, b, xs, ys, rfl, rfl, ha, hb, hz, q⟩ := h
  refine op_catA pins s σ H _ _ v u Q I rx ry ⟨a, b, xs, ys, rfl, rfl, SqT.of ha, SqT.of hb, hz, fun e => ?_, fun _ e => ?_, fun _ _ p np => ?_⟩
  · exact q b H (Same.refl H) (by rw [e]; exact hb) (Or.inr (Or.inl rfl))
  · exact q a H (Same.refl H) (by rw [e, List.append_nil]; exact ha) (Or.inl rfl)
  · exact q p _ (upd_grow np) upd_same (Or.inr (Or.inr np))
def cutD (ds : List PyData) (lo hi : Option Int) : List PyData := (ds.drop (HT.sIx ds.length 0 lo)).take (HT.sIx ds.length ds.length hi - HT.sIx ds.length 0 lo)
theorem DA.cut {f : Bool} {H : Hp} {xs : List V} {ds : List PyData} (h : DA f H xs ds) (lo hi : Option Int) : DA f H (cutV xs lo hi) (cutD ds lo hi) := by
  unfold cutV cutD
  rw [h.length]
  exact (h.drop _).take _
theorem cutD_mem {ds : List PyData} {lo hi : Option Int} {x : PyData} (h : x ∈ cutD ds lo hi) : x ∈ ds := List.mem_of_mem_drop (List.mem_of_mem_take h)
theorem cutV_le (xs : List V) (lo hi : Option Int) : (cutV xs lo hi).length ≤ xs.length := cutV_length xs lo hi
end
end Lw

namespace Lw
open PySem PySem.Spec PyProof.Rows L2

/-! ### kinds of data -/
def tyD : PyData → String
  | .none => "NoneType"
  | .bool _ => "bool"
  | .int _ => "int"
  | .str _ => "str"
  | .list _ => "list"
  | .tuple _ => "tuple"
  | .dict _ => "dict"
theorem D.ty {f : Bool} {K : PySem.W.Frag} {H : Hp} {v : V} {d : PyData} (h : D f H v d) : TyX K H v (.type (tyD d)) := by
  cases h with
  | non => exact .base .non
  | bl b => exact .base (.bl b)
  | int i => exact .base (.int i)
  | str x => exact .base (.str x)
  | lst e n t => exact .base (.lst e)
  | tup e t => exact .base (.tup e)
  | dct e t => exact .base (.dK e)
def isIntD : PyData → Bool
  | .int _ => true
  | .bool _ => true
  | _ => false
def isBoolD : PyData → Bool
  | .bool _ => true
  | _ => false
def isTupD : PyData → Bool
  | .tuple _ => true
  | _ => false
def isStrD : PyData → Bool
  | .str _ => true
  | _ => false
section
variable {K : PySem.W.Frag} {H : Hp} {f : Bool} {v : V} {d : PyData} {Q : VK}
theorem kit_int (d : PyData) : PySem.W.kitOne K (.type (tyD d)) (.type "int") = some (isIntD d) := by
  cases d with
  | none => exact kit_ty (by decide +kernel : kitB "NoneType" "int" = some false)
  | bool b => exact kit_ty (by decide +kernel : kitB "bool" "int" = some true)
  | int i => exact kit_ty (by decide +kernel : kitB "int" "int" = some true)
  | str x => exact kit_ty (by decide +kernel : kitB "str" "int" = some false)
  | list xs => exact kit_ty (by decide +kernel : kitB "list" "int" = some false)
  | tuple xs => exact kit_ty (by decide +kernel : kitB "tuple" "int" = some false)
  | dict kvs => exact kit_ty (by decide +kernel : kitB "dict" "int" = some false)
theorem kit_bool (d : PyData) : PySem.W.kitOne K (.type (tyD d)) (.type "bool") = some (isBoolD d) := by
  cases d with
  | none => exact kit_ty (by decide +kernel : kitB "NoneType" "bool" = some false)
  | bool b => exact kit_ty (by decide +kernel : kitB "bool" "bool" = some true)
  | int i => exact kit_ty (by decide +kernel : kitB "int" "bool" = some false)
  | str x => exact kit_ty (by decide +kernel : kitB "str" "bool" = some false)
  | list xs => exact kit_ty (by decide +kernel : kitB "list" "bool" = some false)
  | tuple xs => exact kit_ty (by decide +kernel : kitB "tuple" "bool" = some false)
  | dict kvs => exact kit_ty (by decide +kernel : kitB "dict" "bool" = some false)
theorem kit_tup (d : PyData) : PySem.W.kitOne K (.type (tyD d)) (.type "tuple") = some (isTupD d) := by
  cases d with
  | none => exact kit_ty (by decide +kernel : kitB "NoneType" "tuple" = some false)
  | bool b => exact kit_ty (by decide +kernel : kitB "bool" "tuple" = some false)
  | int i => exact kit_ty (by decide +kernel : kitB "int" "tuple" = some false)
  | str x => exact kit_ty (by decide +kernel : kitB "str" "tuple" = some false)
  | list xs => exact kit_ty (by decide +kernel : kitB "list" "tuple" = some false)
  | tuple xs => exact kit_ty (by decide +kernel : kitB "tuple" "tuple" = some true)
  | dict kvs => exact kit_ty (by decide +kernel : kitB "dict" "tuple" = some false)
theorem kit_str (d : PyData) : PySem.W.kitOne K (.type (tyD d)) (.type "str") = some (isStrD d) := by
  cases d with
  | none => exact kit_ty (by decide +kernel : kitB "NoneType" "str" = some false)
  | bool b => exact kit_ty (by decide +kernel : kitB "bool" "str" = some false)
  | int i => exact kit_ty (by decide +kernel : kitB "int" "str" = some false)
  | str x => exact kit_ty (by decide +kernel : kitB "str" "str" = some true)
  | list xs => exact kit_ty (by decide +kernel : kitB "list" "str" = some false)
  | tuple xs => exact kit_ty (by decide +kernel : kitB "tuple" "str" = some false)
  | dict kvs => exact kit_ty (by decide +kernel : kitB "dict" "str" = some false)
end
/-- a new thing is laid -/
theorem same_new {H : Hp} {p : Addr} {o : HO} (h : H p = none) : Same H (upd H p o) := fun b u q => by
  rw [upd_ne (ne_of_none q h)]
  exact q

/-! ### draws -/
/-- the hand that draws: at most n draws were mixed -/
def Hd (H : Hp) (a : Addr) (n : Nat) : Prop := ∃ g m c : Int, H a = some (.lst [.int g, .int m, .int c]) ∧ 0 ≤ m ∧ m < 2305843009213693921 ∧ 0 ≤ c ∧ c ≤ n
/-- all but what stands at a is as it was -/
def Kp (a : Addr) (H H' : Hp) : Prop := ∀ b o, b ≠ a → H b = some o → H' b = some o
theorem Kp.refl (a : Addr) (H : Hp) : Kp a H H := fun _ _ _ h => h
theorem Kp.trans {a : Addr} {H H1 H2 : Hp} (x : Kp a H H1) (y : Kp a H1 H2) : Kp a H H2 := fun b o n h => y b o n (x b o n h)
theorem Kp.of_same {a : Addr} {H H' : Hp} (x : Same H H') : Kp a H H' := fun b o _ h => x b o h
theorem Kp.upd {a : Addr} {H H' : Hp} {o : HO} (x : Kp a H H') : Kp a H (L2.upd H' a o) := fun b u n h => by
  rw [upd_ne n]
  exact x b u n h
theorem Hd.same {H H' : Hp} {a : Addr} {n : Nat} (x : Hd H a n) (s : Same H H') : Hd H' a n := by
  obtain ⟨g, m, c, e, r⟩ := x
  exact ⟨g, m, c, s _ _ e, r⟩
theorem Hd.mono {H : Hp} {a : Addr} {n k : Nat} (x : Hd H a n) (h : n ≤ k) : Hd H a k := by
  obtain ⟨g, m, c, e, h1, h2, h3, h4⟩ := x
  exact ⟨g, m, c, e, h1, h2, h3, by omega⟩
/-- the heap without what stands at some places -/
def remL (as : List Addr) (H : Hp) : Hp := fun b => if b ∈ as then none else H b
theorem remL_ne {as : List Addr} {b : Addr} {H : Hp} (h : b ∉ as) : remL as H b = H b := if_neg h
theorem remL_some {as : List Addr} {b : Addr} {H : Hp} {o : HO} (h : remL as H b = some o) : b ∉ as ∧ H b = some o := by
  by_cases e : b ∈ as
  · rw [show remL as H b = none from if_pos e] at h
    cases h
  · rw [remL_ne e] at h
    exact ⟨e, h⟩
theorem remL_same {as : List Addr} {H : Hp} : Same (remL as H) H := fun b o h => (remL_some h).2
theorem same_remL {as : List Addr} {H H' : Hp} (k : Same H H') : Same (remL as H) (remL as H') := fun b o h => by
  obtain ⟨n, e⟩ := remL_some h
  rw [remL_ne n]
  exact k b o e
theorem Kp.remL {as : List Addr} {a : Addr} {H H' : Hp} (ha : a ∈ as) (k : Kp a H H') : Same (Lw.remL as H) (Lw.remL as H') := fun b o h => by
  obtain ⟨n, e⟩ := remL_some h
  rw [remL_ne n]
  exact k b o (fun z => n (z ▸ ha)) e
/-- these places are taken -/
def Trk (as : List Addr) (H : Hp) : Prop := ∀ b ∈ as, H b ≠ none
theorem Trk.same {as : List Addr} {H H' : Hp} (t : Trk as H) (k : Same H H') : Trk as H' := fun b hb z => by
  cases e : H b with
  | none => exact t b hb e
  | some o =>
    rw [k b o e] at z
    cases z
theorem Trk.kp {as : List Addr} {a : Addr} {n : Nat} {H H' : Hp} (t : Trk as H) (k : Kp a H H') (h : Hd H' a n) : Trk as H' := fun b hb z => by
  by_cases e0 : b = a
  · obtain ⟨g, m, c, e, _⟩ := h
    rw [e0, e] at z
    cases z
  · cases e : H b with
    | none => exact t b hb e
    | some o =>
      rw [k b o e0 e] at z
      cases z
theorem Trk.new {as : List Addr} {H : Hp} {p : Addr} (t : Trk as H) (h : H p = none) : p ∉ as := fun z => t p z h
theorem remL_new {as : List Addr} {H : Hp} {p : Addr} {o : HO} (t : Trk as H) (h : H p = none) : remL as (upd H p o) p = some o := by
  rw [remL_ne (t.new h), upd_same]

/-! ### how large data are -/
theorem int_short {i : Int} (h : i.natAbs < 10 ^ 62) : (PyData.shown (.int i)).length ≤ 64 := by
  have e := int_text_length_le10 (k := 62) (by decide) h
  show (Str.ofString (toString i)).length ≤ 64
  rw [PySem.ofString_length]
  omega
structure Bd (n m : Nat) (d : PyData) : Prop where
  lf : d.leavesShort 64 = true
  sh : d.showable = true
  dp : d.depth ≤ n
  wt : d.weight ≤ m
theorem Bd.mono {n m n' m' : Nat} {d : PyData} (h : Bd n m d) (hn : n ≤ n') (hm : m ≤ m') : Bd n' m' d := ⟨h.lf, h.sh, Nat.le_trans h.dp hn, Nat.le_trans h.wt hm⟩
theorem Bd.ok {n m : Nat} {d : PyData} (h : Bd n m d) (hn : n ≤ 100) (hm : m ≤ 250000) : Ok d := by
  refine ⟨h.sh, Nat.le_trans h.dp hn, ?_⟩
  have h1 := PyData.shown_le 64 (by decide) d h.lf
  have h2 : (64 + 2) * d.weight + 64 ≤ 16777216 := by
    have := h.wt
    omega
  exact Nat.le_trans h1 h2
theorem all_of {n m : Nat} : ∀ {ds : List PyData}, (∀ x ∈ ds, Bd n m x) → PyData.leavesShortAll 64 ds = true ∧ PyData.showableAll ds = true ∧ PyData.depthAll ds ≤ n ∧ PyData.weightAll ds ≤ ds.length * (m + 1)
  | [], _ => by
    refine ⟨rfl, rfl, ?_, ?_⟩
    · show PyData.depthAll [] ≤ n
      simp only [PyData.depthAll]
      exact Nat.zero_le _
    · simp only [PyData.weightAll]
      exact Nat.zero_le _
  | x :: ds, h => by
    have hx := h x List.mem_cons_self
    obtain ⟨a, b, c, d⟩ := all_of (ds := ds) fun y hy => h y (List.mem_cons_of_mem _ hy)
    refine ⟨?_, ?_, ?_, ?_⟩
    · simp only [PyData.leavesShortAll, hx.lf, a, Bool.and_self]
    · simp only [PyData.showableAll, hx.sh, b, Bool.and_self]
    · simp only [PyData.depthAll]
      have := hx.dp
      omega
    · simp only [PyData.weightAll, List.length_cons, Nat.succ_mul]
      have := hx.wt
      omega
theorem Bd.tuple {n m k : Nat} {ds : List PyData} (h : ∀ x ∈ ds, Bd n m x) (hk : ds.length * (m + 1) ≤ k) : Bd (n + 1) k (.tuple ds) := by
  obtain ⟨a, b, c, d⟩ := all_of h
  exact ⟨by simpa only [PyData.leavesShort] using a, by simpa only [PyData.showable] using b, by simp only [PyData.depth]; omega, by simp only [PyData.weight]; omega⟩
theorem Bd.list {n m k : Nat} {ds : List PyData} (h : ∀ x ∈ ds, Bd n m x) (hk : ds.length * (m + 1) ≤ k) : Bd (n + 1) k (.list ds) := by
  obtain ⟨a, b, c, d⟩ := all_of h
  exact ⟨by simpa only [PyData.leavesShort] using a, by simpa only [PyData.showable] using b, by simp only [PyData.depth]; omega, by simp only [PyData.weight]; omega⟩
theorem Bd.int {n : Nat} {i : Int} (h : i.natAbs < 10 ^ 62) : Bd n 210 (.int i) := by
  have hl : i.natAbs.log2 < 206 := PySem.Flt.log2_lt_of (by decide) (Nat.lt_of_lt_of_le h (by decide +kernel))
  refine ⟨?_, ?_, ?_, ?_⟩
  · simp only [PyData.leavesShort, decide_eq_true_eq]
    exact int_short h
  · simp only [PyData.showable, decide_eq_true_eq]
    omega
  · simp only [PyData.depth]
    exact Nat.zero_le _
  · simp only [PyData.weight]
    split <;> omega
theorem Bd.flat0 {n m : Nat} {d : PyData} (h : d = .none ∨ (∃ b, d = .bool b) ∨ d = .str "" ∨ d = .str "0" ∨ d = .tuple [] ∨ d = .list [] ∨ d = .dict []) (hn : 1 ≤ n) (hm : 1 ≤ m) : Bd n m d := by
  have z : Bd 1 1 d := by
    rcases h with rfl | ⟨b, rfl⟩ | rfl | rfl | rfl | rfl | rfl
    all_goals exact ⟨by decide +kernel +revert, by decide +kernel +revert, by decide +kernel +revert, by decide +kernel +revert⟩
  exact z.mono hn hm
/-! ### rows of data, by their whole weight -/
structure BA (n t : Nat) (ds : List PyData) : Prop where
  lf : PyData.leavesShortAll 64 ds = true
  sh : PyData.showableAll ds = true
  dp : PyData.depthAll ds ≤ n
  wt : PyData.weightAll ds ≤ t
theorem BA.mono {n t n' t' : Nat} {ds : List PyData} (h : BA n t ds) (hn : n ≤ n') (ht : t ≤ t') : BA n' t' ds := ⟨h.lf, h.sh, Nat.le_trans h.dp hn, Nat.le_trans h.wt ht⟩
theorem BA.nil {n t : Nat} : BA n t [] := ⟨rfl, rfl, by simp only [PyData.depthAll]; exact Nat.zero_le _, by simp only [PyData.weightAll]; exact Nat.zero_le _⟩
theorem wa_append : ∀ (ds es : List PyData), PyData.weightAll (ds ++ es) = PyData.weightAll ds + PyData.weightAll es
  | [], es => by simp only [List.nil_append, PyData.weightAll, Nat.zero_add]
  | d :: ds, es => by
    have := wa_append ds es
    simp only [List.cons_append, PyData.weightAll]
    omega
theorem da_append : ∀ (ds es : List PyData), PyData.depthAll (ds ++ es) = max (PyData.depthAll ds) (PyData.depthAll es)
  | [], es => by simp only [List.nil_append, PyData.depthAll, Nat.zero_max]
  | d :: ds, es => by
    have := da_append ds es
    simp only [List.cons_append, PyData.depthAll]
    omega
theorem la_append : ∀ (ds es : List PyData), PyData.leavesShortAll 64 (ds ++ es) = (PyData.leavesShortAll 64 ds && PyData.leavesShortAll 64 es)
  | [], es => by simp only [List.nil_append, PyData.leavesShortAll, Bool.true_and]
  | d :: ds, es => by simp only [List.cons_append, PyData.leavesShortAll, la_append ds es, Bool.and_assoc]
theorem sa_append : ∀ (ds es : List PyData), PyData.showableAll (ds ++ es) = (PyData.showableAll ds && PyData.showableAll es)
  | [], es => by simp only [List.nil_append, PyData.showableAll, Bool.true_and]
  | d :: ds, es => by simp only [List.cons_append, PyData.showableAll, sa_append ds es, Bool.and_assoc]
theorem BA.append {n t u : Nat} {ds es : List PyData} (h : BA n t ds) (g : BA n u es) : BA n (t + u) (ds ++ es) := by
  refine ⟨?_, ?_, ?_, ?_⟩
  · rw [la_append, h.lf, g.lf]
    rfl
  · rw [sa_append, h.sh, g.sh]
    rfl
  · rw [da_append]
    have := h.dp
    have := g.dp
    omega
  · rw [wa_append]
    have := h.wt
    have := g.wt
    omega
theorem BA.parts {n t : Nat} {ds es : List PyData} (h : BA n t (ds ++ es)) : BA n t ds ∧ BA n t es := by
  have h1 := h.lf
  have h2 := h.sh
  have h3 := h.dp
  have h4 := h.wt
  rw [la_append, Bool.and_eq_true] at h1
  rw [sa_append, Bool.and_eq_true] at h2
  rw [da_append] at h3
  rw [wa_append] at h4
  exact ⟨⟨h1.1, h2.1, by omega, by omega⟩, ⟨h1.2, h2.2, by omega, by omega⟩⟩
theorem BA.take {n t : Nat} {ds : List PyData} (h : BA n t ds) (k : Nat) : BA n t (ds.take k) := by
  rw [← List.take_append_drop k ds] at h
  exact h.parts.1
theorem BA.drop {n t : Nat} {ds : List PyData} (h : BA n t ds) (k : Nat) : BA n t (ds.drop k) := by
  rw [← List.take_append_drop k ds] at h
  exact h.parts.2
theorem BA.cut {n t : Nat} {ds : List PyData} (h : BA n t ds) (lo hi : Option Int) : BA n t (cutD ds lo hi) := (h.drop _).take _
theorem BA.one {n m : Nat} {d : PyData} (h : Bd n m d) : BA n (m + 1) [d] := by
  refine ⟨?_, ?_, ?_, ?_⟩
  · simp only [PyData.leavesShortAll, h.lf, Bool.and_self]
  · simp only [PyData.showableAll, h.sh, Bool.and_self]
  · simp only [PyData.depthAll]
    have := h.dp
    omega
  · simp only [PyData.weightAll]
    have := h.wt
    omega
theorem BA.rev {n t : Nat} : ∀ {ds : List PyData}, BA n t ds → BA n t ds.reverse
  | [], h => h
  | d :: ds, h => by
    have e : d :: ds = [d] ++ ds := rfl
    have p := (e ▸ h : BA n t ([d] ++ ds)).parts
    have hw := h.wt
    simp only [PyData.weightAll] at hw
    have r : BA n (PyData.weightAll ds) ds.reverse := BA.rev ⟨p.2.lf, p.2.sh, p.2.dp, Nat.le_refl _⟩
    have o : BA n (d.weight + 1) [d] := ⟨p.1.lf, p.1.sh, p.1.dp, by simp only [PyData.weightAll]; omega⟩
    rw [List.reverse_cons]
    exact (r.append o).mono (Nat.le_refl _) (by omega)
theorem BA.tuple {n t : Nat} {ds : List PyData} (h : BA n t ds) : Bd (n + 1) t (.tuple ds) :=
  ⟨by simpa only [PyData.leavesShort] using h.lf, by simpa only [PyData.showable] using h.sh, by simp only [PyData.depth]; have := h.dp; omega, by simp only [PyData.weight]; exact h.wt⟩
theorem BA.list {n t : Nat} {ds : List PyData} (h : BA n t ds) : Bd (n + 1) t (.list ds) :=
  ⟨by simpa only [PyData.leavesShort] using h.lf, by simpa only [PyData.showable] using h.sh, by simp only [PyData.depth]; have := h.dp; omega, by simp only [PyData.weight]; exact h.wt⟩
/-- v is a tuple of the data ds, apart from some places -/
def Tp (as : List Addr) (H : Hp) (b : Addr) (ds : List PyData) : Prop := b ∉ as ∧ ∃ xs, H b = some (.tup xs) ∧ DA true (remL as H) xs ds
theorem Tp.same {as : List Addr} {H H' : Hp} {b : Addr} {ds : List PyData} (h : Tp as H b ds) (s : Same H H') : Tp as H' b ds := by
  obtain ⟨n, xs, e, t⟩ := h
  exact ⟨n, xs, s _ _ e, t.same (same_remL s)⟩
theorem Tp.kp {as : List Addr} {a : Addr} {H H' : Hp} {b : Addr} {ds : List PyData} (h : Tp as H b ds) (ha : a ∈ as) (k : Kp a H H') : Tp as H' b ds := by
  obtain ⟨n, xs, e, t⟩ := h
  exact ⟨n, xs, k _ _ (fun z => n (z ▸ ha)) e, t.same (k.remL ha)⟩
theorem Tp.d {as : List Addr} {H : Hp} {b : Addr} {ds : List PyData} (h : Tp as H b ds) : D true (remL as H) (.ref b) (.tuple ds) := by
  obtain ⟨n, xs, e, t⟩ := h
  exact .tup (by rw [remL_ne n]; exact e) t
end Lw

namespace Z
open PySem PySem.Spec PyProof.Rows L2 Lw
def topS (i : Nat) : Stmt := PySem.Challenge.pw_stilltold_k01_notes_of_anything.main.body.getD i (.Pass ⟨0, 0, 0, 0⟩)
abbrev s_is_whole : Stmt := topS 1
abbrev s_is_within : Stmt := topS 2
abbrev s_is_bit : Stmt := topS 3
abbrev s_is_row : Stmt := topS 4
abbrev s_is_note : Stmt := topS 6
abbrev s__law_hand : Stmt := topS 8
abbrev s__law_take : Stmt := topS 9
abbrev s__law_of : Stmt := topS 10
abbrev s__law_due : Stmt := topS 11
abbrev s__law_part : Stmt := topS 12
abbrev s__law_bent : Stmt := topS 13
abbrev s__law_odd : Stmt := topS 14
abbrev s__law_right : Stmt := topS 15
abbrev s_law : Stmt := topS 16
theorem sc_is_whole : FnScope ["thing"] ["thing"] (defScope s_is_whole) := ⟨rfl, rfl, rfl, by decide +kernel, rfl, by decide +kernel, by decide +kernel⟩
theorem sc_is_within : FnScope ["thing", "least", "most"] ["thing", "least", "most"] (defScope s_is_within) := ⟨rfl, rfl, rfl, by decide +kernel, rfl, by decide +kernel, by decide +kernel⟩
theorem sc_is_bit : FnScope ["thing"] ["thing"] (defScope s_is_bit) := ⟨rfl, rfl, rfl, by decide +kernel, rfl, by decide +kernel, by decide +kernel⟩
theorem sc_is_row : FnScope ["thing", "least", "most"] ["thing", "least", "most"] (defScope s_is_row) := ⟨rfl, rfl, rfl, by decide +kernel, rfl, by decide +kernel, by decide +kernel⟩
theorem sc_is_note : FnScope ["thing", "number", "at", "place"] ["thing"] (defScope s_is_note) := ⟨rfl, rfl, rfl, by decide +kernel, rfl, by decide +kernel, by decide +kernel⟩
theorem sc__law_hand : FnScope ["_law_script", "_law_nth", "_law_cell", "_law_great"] ["_law_script", "_law_nth"] (defScope s__law_hand) := ⟨rfl, rfl, rfl, by decide +kernel, rfl, by decide +kernel, by decide +kernel⟩
theorem sc__law_take : FnScope ["_law_hand_here", "_law_upon", "_law_digit", "_law_prime", "_law_drawn"] ["_law_hand_here", "_law_upon"] (defScope s__law_take) := ⟨rfl, rfl, rfl, by decide +kernel, rfl, by decide +kernel, by decide +kernel⟩
theorem sc__law_of : FnScope ["_law_hand_here", "_law_some"] ["_law_hand_here", "_law_some"] (defScope s__law_of) := ⟨rfl, rfl, rfl, by decide +kernel, rfl, by decide +kernel, by decide +kernel⟩
theorem sc__law_due : FnScope ["_law_item", "_law_part_here"] ["_law_item"] (defScope s__law_due) := ⟨rfl, rfl, rfl, by decide +kernel, rfl, by decide +kernel, by decide +kernel⟩
theorem sc__law_part : FnScope ["_law_hand_here", "_law_far", "_law_some"] ["_law_hand_here"] (defScope s__law_part) := ⟨rfl, rfl, rfl, by decide +kernel, rfl, by decide +kernel, by decide +kernel⟩
theorem sc__law_bent : FnScope ["_law_hand_here", "_law_item", "_law_spot", "_law_way"] ["_law_hand_here", "_law_item"] (defScope s__law_bent) := ⟨rfl, rfl, rfl, by decide +kernel, rfl, by decide +kernel, by decide +kernel⟩
theorem sc__law_odd : FnScope ["_law_hand_here", "_law_odd_here", "_law_turn"] ["_law_hand_here"] (defScope s__law_odd) := ⟨rfl, rfl, rfl, by decide +kernel, rfl, by decide +kernel, by decide +kernel⟩
theorem sc__law_right : FnScope ["_law_item", "_law_looked", "_law_due_here", "_law_answer"] ["_law_item"] (defScope s__law_right) := ⟨rfl, rfl, rfl, by decide +kernel, rfl, by decide +kernel, by decide +kernel⟩
theorem sc_law : FnScope ["_law_script", "_law_nth", "_law_hand_here", "_law_some", "_law_turn", "_law_number", "_law_item", "_law_bent_here"] ["_law_script"] (defScope s_law) := ⟨rfl, rfl, rfl, by decide +kernel, rfl, by decide +kernel, by decide +kernel⟩
structure Txt (K : PySem.W.Frag) (mg : Str → Option Value) where
  f_is_whole : Addr
  fd_is_whole : FuncData
  F_is_whole : Fun K "is_whole" "is_whole" s_is_whole f_is_whole fd_is_whole
  g_is_whole : mg "is_whole" = some (.ref f_is_whole)
  b_is_whole : Binds K fd_is_whole ["thing"] []
  f_is_within : Addr
  fd_is_within : FuncData
  F_is_within : Fun K "is_within" "is_within" s_is_within f_is_within fd_is_within
  g_is_within : mg "is_within" = some (.ref f_is_within)
  b_is_within : Binds K fd_is_within ["thing", "least", "most"] []
  f_is_bit : Addr
  fd_is_bit : FuncData
  F_is_bit : Fun K "is_bit" "is_bit" s_is_bit f_is_bit fd_is_bit
  g_is_bit : mg "is_bit" = some (.ref f_is_bit)
  b_is_bit : Binds K fd_is_bit ["thing"] []
  f_is_row : Addr
  fd_is_row : FuncData
  F_is_row : Fun K "is_row" "is_row" s_is_row f_is_row fd_is_row
  g_is_row : mg "is_row" = some (.ref f_is_row)
  b_is_row : Binds K fd_is_row ["thing", "least", "most"] []
  f_is_note : Addr
  fd_is_note : FuncData
  F_is_note : Fun K "is_note" "is_note" s_is_note f_is_note fd_is_note
  g_is_note : mg "is_note" = some (.ref f_is_note)
  b_is_note : Binds K fd_is_note ["thing"] []
  f__law_hand : Addr
  fd__law_hand : FuncData
  F__law_hand : Fun K "_law_hand" "_law_hand" s__law_hand f__law_hand fd__law_hand
  g__law_hand : mg "_law_hand" = some (.ref f__law_hand)
  b__law_hand : Binds K fd__law_hand ["_law_script", "_law_nth"] []
  f__law_take : Addr
  fd__law_take : FuncData
  F__law_take : Fun K "_law_take" "_law_take" s__law_take f__law_take fd__law_take
  g__law_take : mg "_law_take" = some (.ref f__law_take)
  b__law_take : Binds K fd__law_take ["_law_hand_here", "_law_upon"] []
  f__law_of : Addr
  fd__law_of : FuncData
  F__law_of : Fun K "_law_of" "_law_of" s__law_of f__law_of fd__law_of
  g__law_of : mg "_law_of" = some (.ref f__law_of)
  b__law_of : Binds K fd__law_of ["_law_hand_here", "_law_some"] []
  f__law_due : Addr
  fd__law_due : FuncData
  F__law_due : Fun K "_law_due" "_law_due" s__law_due f__law_due fd__law_due
  g__law_due : mg "_law_due" = some (.ref f__law_due)
  b__law_due : Binds K fd__law_due ["_law_item"] []
  f__law_part : Addr
  fd__law_part : FuncData
  F__law_part : Fun K "_law_part" "_law_part" s__law_part f__law_part fd__law_part
  g__law_part : mg "_law_part" = some (.ref f__law_part)
  b__law_part : Binds K fd__law_part ["_law_hand_here"] []
  f__law_bent : Addr
  fd__law_bent : FuncData
  F__law_bent : Fun K "_law_bent" "_law_bent" s__law_bent f__law_bent fd__law_bent
  g__law_bent : mg "_law_bent" = some (.ref f__law_bent)
  b__law_bent : Binds K fd__law_bent ["_law_hand_here", "_law_item"] []
  f__law_odd : Addr
  fd__law_odd : FuncData
  F__law_odd : Fun K "_law_odd" "_law_odd" s__law_odd f__law_odd fd__law_odd
  g__law_odd : mg "_law_odd" = some (.ref f__law_odd)
  b__law_odd : Binds K fd__law_odd ["_law_hand_here"] []
  f__law_right : Addr
  fd__law_right : FuncData
  F__law_right : Fun K "_law_right" "_law_right" s__law_right f__law_right fd__law_right
  g__law_right : mg "_law_right" = some (.ref f__law_right)
  b__law_right : Binds K fd__law_right ["_law_item"] []
  f_law : Addr
  fd_law : FuncData
  F_law : Fun K "law" "law" s_law f_law fd_law
  g_law : mg "law" = some (.ref f_law)
  b_law : Binds K fd_law ["_law_script"] []
  kb_is_note : KBinds K fd_is_note ["thing"] ["thing"] (fun us ws => us ++ ws) (fun us ws => us ++ ws)
  m_abs : mg "abs" = none
  m_all : mg "all" = none
  m_bool : mg "bool" = none
  m_int : mg "int" = none
  m_isinstance : mg "isinstance" = none
  m_len : mg "len" = none
  m_list : mg "list" = none
  m_min : mg "min" = none
  m_range : mg "range" = none
  m_repr : mg "repr" = none
  m_tuple : mg "tuple" = none
theorem Txt.k_is_whole {K : PySem.W.Frag} {mg : Str → Option Value} (T : Txt K mg) : PySem.W.keepIn K (.ref T.f_is_whole) = true := T.F_is_whole.kp
theorem Txt.k_is_within {K : PySem.W.Frag} {mg : Str → Option Value} (T : Txt K mg) : PySem.W.keepIn K (.ref T.f_is_within) = true := T.F_is_within.kp
theorem Txt.k_is_bit {K : PySem.W.Frag} {mg : Str → Option Value} (T : Txt K mg) : PySem.W.keepIn K (.ref T.f_is_bit) = true := T.F_is_bit.kp
theorem Txt.k_is_row {K : PySem.W.Frag} {mg : Str → Option Value} (T : Txt K mg) : PySem.W.keepIn K (.ref T.f_is_row) = true := T.F_is_row.kp
theorem Txt.k_is_note {K : PySem.W.Frag} {mg : Str → Option Value} (T : Txt K mg) : PySem.W.keepIn K (.ref T.f_is_note) = true := T.F_is_note.kp
theorem Txt.k__law_hand {K : PySem.W.Frag} {mg : Str → Option Value} (T : Txt K mg) : PySem.W.keepIn K (.ref T.f__law_hand) = true := T.F__law_hand.kp
theorem Txt.k__law_take {K : PySem.W.Frag} {mg : Str → Option Value} (T : Txt K mg) : PySem.W.keepIn K (.ref T.f__law_take) = true := T.F__law_take.kp
theorem Txt.k__law_of {K : PySem.W.Frag} {mg : Str → Option Value} (T : Txt K mg) : PySem.W.keepIn K (.ref T.f__law_of) = true := T.F__law_of.kp
theorem Txt.k__law_due {K : PySem.W.Frag} {mg : Str → Option Value} (T : Txt K mg) : PySem.W.keepIn K (.ref T.f__law_due) = true := T.F__law_due.kp
theorem Txt.k__law_part {K : PySem.W.Frag} {mg : Str → Option Value} (T : Txt K mg) : PySem.W.keepIn K (.ref T.f__law_part) = true := T.F__law_part.kp
theorem Txt.k__law_bent {K : PySem.W.Frag} {mg : Str → Option Value} (T : Txt K mg) : PySem.W.keepIn K (.ref T.f__law_bent) = true := T.F__law_bent.kp
theorem Txt.k__law_odd {K : PySem.W.Frag} {mg : Str → Option Value} (T : Txt K mg) : PySem.W.keepIn K (.ref T.f__law_odd) = true := T.F__law_odd.kp
theorem Txt.k__law_right {K : PySem.W.Frag} {mg : Str → Option Value} (T : Txt K mg) : PySem.W.keepIn K (.ref T.f__law_right) = true := T.F__law_right.kp
theorem Txt.k_law {K : PySem.W.Frag} {mg : Str → Option Value} (T : Txt K mg) : PySem.W.keepIn K (.ref T.f_law) = true := T.F_law.kp
end Z

namespace Z
open PySem PySem.Spec PyProof.Rows L2 Lw

/-! ### draws: the hand, a draw, one of some -/
section
variable {P : Program} {w : World} {K : PySem.W.Frag} {mg : Str → Option Value} {base : Heap}
theorem bit_small (b : Bool) : -(2 ^ 64) < (if b = true then (1 : Int) else 0) ∧ (if b = true then (1 : Int) else 0) < 2 ^ 64 := by cases b <;> exact ⟨by decide, by decide⟩
def sp_hand (K : PySem.W.Frag) : Sp := fun vs H Q _ => ∃ (a : Addr) (ns : List Int) (k : Nat), vs = [.ref a, .int k] ∧ SqL K H a (ns.map V.int) ∧ k ≤ 1000 ∧
  ∀ p H', Same H H' → H p = none → Hd H' p 0 → Q (.ref p) H'
theorem ok_hand (T : Txt K mg) {k : Nat} : FnOk P w K mg base CX0 (k + 1) T.f__law_hand T.fd__law_hand ["_law_script", "_law_nth"] (sp_hand K) := by
  refine T.F__law_hand.ok sc__law_hand (fun vs H Q E h => ?_) (fun cdv A outer s H vs Q E hr h => ?_)
  · obtain ⟨a, ns, k, rfl, _⟩ := h
    rfl
  obtain ⟨a, ns, k, rfl, hS, hk, q⟩ := h
  refine ⟨_, (pss_cons (ps_set (i := 2) sc__law_hand.nd rfl (.inl rfl) (pe_ifExp (pt_cmpR op_lt (pv 1) (pe_callB call_len_seq (by rfl) T.m_len (by decide +kernel) (pa_cons (pv 0) pa_nil)) (nomark _)) (pe_ix ix_list (pv 0) (pv 1) (fun _ _ => rfl)) (pe_op op_add (pe_op op_mul pe_int (pv 1)) pe_int)))
      (pss_cons (ps_set (i := 3) sc__law_hand.nd rfl (.inl rfl) (pe_op op_mul (pe_op op_mod (pe_callB call_abs (by rfl) T.m_abs (by decide +kernel) (pa_cons (pv 2) pa_nil)) (pe_op op_powW (pe_op op_pow pe_int pe_int) pe_int)) (pe_callTy call_int1 (by rfl) T.m_int (by decide +kernel) (pa_cons (pe_cmpR op_ge (pe_callB call_abs (by rfl) T.m_abs (by decide +kernel) (pa_cons (pv 2) pa_nil)) (pe_op op_pow pe_int pe_int) (nomark _)) pa_nil))))
      (pss_one (ps_ret (pe_lst (pa_cons (pv 3) (pa_cons (pe_op op_mod (pe_op op_mul (pe_op op_add (pe_op op_add (pe_op op_mod (pv 2) pe_int) (pe_op op_mul (pe_op op_mul pe_int (pv 1)) (pv 1))) pe_int) pe_int) pe_int) (pa_cons pe_int pa_nil)))))))), ?_⟩
  have p1 : CPow 10 60 := ⟨by decide, by decide, by decide⟩
  have p2 : CPowW ((10 : Int) ^ (60 : Int).toNat) 15 := ⟨by decide, by decide +kernel⟩
  have p3 : CPow 10 18 := ⟨by decide, by decide, by decide⟩
  have p4 : (0 : Int) < ((10 : Int) ^ (60 : Int).toNat) ^ (15 : Int).toNat := by decide +kernel
  have fin : ∀ (x y : Int), ∀ p, H p = none → Q (.ref p) (upd H p (.lst [.int x, .int (y % 2305843009213693921), .int 0])) := by
    intro x y p np
    refine q p _ (same_new np) np ⟨_, _, _, upd_same, ?_, ?_, Int.le_refl 0, Int.le_refl 0⟩
    · exact Int.emod_nonneg _ (by decide)
    · exact Int.emod_lt_of_pos _ (by decide)
  refine ⟨.int k, rfl, .ref a, rfl, a, _, rfl, .inl hS, _, _, rfl, rfl, _, rfl, ite2 (fun c => ?_) (fun c => ?_)⟩
  · have c' : (k : Int) < (((ns.map V.int).length : Nat) : Int) := of_decide_eq_true c
    rw [List.length_map] at c'
    have hk' : k < ns.length := by omega
    have at_k : atI (ns.map V.int) (k : Int) = some (.int ns[k]) := atI_nat (by rw [List.getElem?_map, List.getElem?_eq_getElem hk']; rfl)
    refine ⟨_, rfl, _, rfl, a, _, _, _, rfl, rfl, hS, at_k, ?_⟩
    refine ⟨_, rfl, _, rfl, _, _, rfl, rfl, p1, _, _, rfl, rfl, p2, _, _, rfl, rfl, p4, _, rfl, _, rfl, _, _, rfl, rfl, p3, _, _, rfl, rfl, .inr ⟨_, rfl, _, _, rfl, rfl, .inr ?_, ?_⟩⟩
    · exact bit_small _
    refine ⟨_, rfl, _, rfl, _, _, rfl, rfl, (by show (0 : Int) < 2305843009213693951; decide), _, rfl, _, _, rfl, rfl, .inl ⟨by decide, by decide⟩, _, rfl, _, _, rfl, rfl, .inr ⟨by omega, by omega⟩, _, _, rfl, rfl, _, _, rfl, rfl,
      _, _, rfl, rfl, .inr ⟨by decide, by decide⟩, _, _, rfl, rfl, (by show (0 : Int) < 2305843009213693921; decide), (by show 3 ≤ sizeLine; decide), ?_⟩
    exact fin _ _
  · refine ⟨_, rfl, _, _, rfl, rfl, .inl ⟨by decide, by decide⟩, _, _, rfl, rfl, ?_⟩
    refine ⟨_, rfl, _, rfl, _, _, rfl, rfl, p1, _, _, rfl, rfl, p2, _, _, rfl, rfl, p4, _, rfl, _, rfl, _, _, rfl, rfl, p3, _, _, rfl, rfl, .inr ⟨_, rfl, _, _, rfl, rfl, .inr ?_, ?_⟩⟩
    · exact bit_small _
    refine ⟨_, rfl, _, rfl, _, _, rfl, rfl, (by show (0 : Int) < 2305843009213693951; decide), _, rfl, _, _, rfl, rfl, .inl ⟨by decide, by decide⟩, _, rfl, _, _, rfl, rfl, .inr ⟨by omega, by omega⟩, _, _, rfl, rfl, _, _, rfl, rfl,
      _, _, rfl, rfl, .inr ⟨by decide, by decide⟩, _, _, rfl, rfl, (by show (0 : Int) < 2305843009213693921; decide), (by show 3 ≤ sizeLine; decide), ?_⟩
    exact fin _ _

/-- a draw below u -/
def sp_take : Sp := fun vs H Q _ => ∃ (a : Addr) (n u : Nat), vs = [.ref a, .int u] ∧ Hd H a n ∧ n ≤ 1000000 ∧ 0 < u ∧ u ≤ 1000000 ∧
  ∀ (r : Nat) H', r < u → Hd H' a (n + 1) → Kp a H H' → Q (.int r) H'
def primes : List V := [.int 2147483629, .int 2147483587, .int 2147483579, .int 2147483563, .int 2147483549, .int 2147483543, .int 2147483497]
theorem prime_at (c : Int) : ∃ q : Int, atI primes (c % 7) = some (.int q) ∧ 0 < q ∧ q < 4294967296 := by
  have h0 : 0 ≤ c % 7 := Int.emod_nonneg _ (by decide)
  have h1 : c % 7 < 7 := Int.emod_lt_of_pos _ (by decide)
  have h : c % 7 = 0 ∨ c % 7 = 1 ∨ c % 7 = 2 ∨ c % 7 = 3 ∨ c % 7 = 4 ∨ c % 7 = 5 ∨ c % 7 = 6 := by omega
  rcases h with e | e | e | e | e | e | e <;> rw [e] <;> exact ⟨_, rfl, by decide, by decide⟩
theorem ok_take (T : Txt K mg) {k : Nat} : FnOk P w K mg base CX0 (k + 1) T.f__law_take T.fd__law_take ["_law_hand_here", "_law_upon"] sp_take := by
  refine T.F__law_take.ok sc__law_take (fun vs H Q E h => ?_) (fun cdv A outer s H vs Q E hr h => ?_)
  · obtain ⟨a, n, u, rfl, _⟩ := h
    rfl
  obtain ⟨a, n, u, rfl, ⟨g, m, c, ha, m0, m1, c0, c1⟩, hn, u0, u1, q⟩ := h
  refine ⟨_, (pss_cons (ps_if (pt_cmpR op_gt (pe_ix ix_list (pv 0) pe_int (fun _ _ => rfl)) pe_int (nomark _)) (pss_cons (ps_set (i := 2) sc__law_take.nd rfl (.inl rfl) (pe_op op_mod (pe_ix ix_list (pv 0) pe_int (fun _ _ => rfl)) (pv 1)))
      (pss_cons (ps_asg (pe_op op_fdiv (pe_ix ix_list (pv 0) pe_int (fun _ _ => rfl)) (pv 1)) (pg_sub (pv 0) pe_int set_list))
      (pss_one (ps_ret (pv 2))))) pss_nil)
      (pss_cons (ps_asg (pe_op op_add (pe_ix ix_list (pv 0) pe_int (fun _ _ => rfl)) pe_int) (pg_sub (pv 0) pe_int set_list))
      (pss_cons (ps_set (i := 3) sc__law_take.nd rfl (.inl rfl) (pe_ix ix_list (pe_lst (pa_cons pe_int (pa_cons pe_int (pa_cons pe_int (pa_cons pe_int (pa_cons pe_int (pa_cons pe_int (pa_cons pe_int pa_nil)))))))) (pe_op op_mod (pe_ix ix_list (pv 0) pe_int (fun _ _ => rfl)) pe_int) (fun _ _ => rfl)))
      (pss_cons (ps_set (i := 4) sc__law_take.nd rfl (.inl rfl) (pe_op op_mod (pe_op op_pow (pe_op op_add (pe_ix ix_list (pv 0) pe_int (fun _ _ => rfl)) (pe_op op_mul pe_int (pe_ix ix_list (pv 0) pe_int (fun _ _ => rfl)))) pe_int) (pv 3)))
      (pss_one (ps_ret (pe_op op_mod (pe_op op_fdiv (pe_op op_mod (pe_op op_mul (pv 4) (pe_op op_add (pe_op op_mod (pv 4) pe_int) (pe_ix ix_list (pv 0) pe_int (fun _ _ => rfl)))) (pv 3)) pe_int) (pv 1)))))))), ?_⟩
  have u0' : (0 : Int) < (u : Int) := by omega
  refine ⟨_, rfl, a, _, 0, _, rfl, rfl, SqL.of ha, rfl, _, _, rfl, rfl, _, rfl, ite2 (fun cc => ?_) (fun cc => ?_)⟩
  · refine ⟨_, rfl, a, _, 0, _, rfl, rfl, SqL.of ha, rfl, _, rfl, _, _, rfl, rfl, u0', ?_⟩
    refine ⟨_, rfl, a, _, 0, _, rfl, rfl, SqL.of ha, rfl, _, rfl, _, _, rfl, rfl, ⟨u0', by omega⟩, _, rfl, a, _, 0, 0, rfl, rfl, ha, rfl, _, rfl, ?_⟩
    have r0 : 0 ≤ g % (u : Int) := Int.emod_nonneg _ (by omega)
    have r1 : g % (u : Int) < (u : Int) := Int.emod_lt_of_pos _ u0'
    have e : g % (u : Int) = (((g % (u : Int)).toNat : Nat) : Int) := by omega
    show Q (.int (g % (u : Int))) _
    rw [e]
    exact q _ _ (by omega) ⟨_, _, _, upd_same, m0, m1, c0, by omega⟩ (Kp.upd (Kp.refl a H))
  · refine ⟨_, rfl, a, _, 2, _, rfl, rfl, SqL.of ha, rfl, _, _, rfl, rfl, _, rfl, a, _, 2, 2, rfl, rfl, ha, rfl, ?_⟩
    have h1 : (upd H a (.lst ([V.int g, .int m, .int c].set 2 (.int (c + 1))))) a = some (.lst [.int g, .int m, .int (c + 1)]) := upd_same
    generalize hH : upd H a (.lst ([V.int g, .int m, .int c].set 2 (.int (c + 1)))) = H1 at h1 ⊢
    have k1 : Kp a H H1 := by
      rw [← hH]
      exact Kp.upd (Kp.refl a H)
    refine ⟨(by show 7 ≤ sizeLine; decide), fun p np => ?_⟩
    have s2 : Same H1 (upd H1 p (.lst primes)) := same_new np
    have h2 := s2 _ _ h1
    obtain ⟨pr, pe, pr0, pr1⟩ := prime_at (c + 1)
    refine ⟨_, rfl, a, _, 2, _, rfl, rfl, SqL.of h2, rfl, _, _, rfl, rfl, (by show (0 : Int) < 7; decide), p, primes, _, _, rfl, rfl, SqL.of upd_same, pe, ?_⟩
    refine ⟨_, rfl, a, _, 1, _, rfl, rfl, SqL.of h2, rfl, _, rfl, a, _, 2, _, rfl, rfl, SqL.of h2, rfl, _, _, rfl, rfl, .inl ⟨by decide, by decide⟩, _, _, rfl, rfl, _, _, rfl, rfl, ⟨by decide, by decide, ?_⟩, _, rfl, _, _, rfl, rfl, pr0, ?_⟩
    · have : (m + 7919 * (c + 1)).natAbs < 18446744073709551616 := by omega
      exact this
    generalize hd : (m + 7919 * (c + 1)) ^ (3 : Int).toNat % pr = dr
    have d0 : 0 ≤ dr := by
      rw [← hd]
      exact Int.emod_nonneg _ (by omega)
    have d1 : dr < pr := by
      rw [← hd]
      exact Int.emod_lt_of_pos _ pr0
    refine ⟨_, rfl, _, rfl, _, _, rfl, rfl, (by show (0 : Int) < 1009; decide), _, rfl, a, _, 2, _, rfl, rfl, SqL.of h2, rfl, _, _, rfl, rfl, _, _, rfl, rfl, .inl ⟨by omega, by omega⟩, _, rfl, _, _, rfl, rfl, pr0, _, _, rfl, rfl, ⟨by decide, by decide⟩, _, rfl, _, _, rfl, rfl, u0', ?_⟩
    have key : ∀ z : Int, Q (.int (z % (u : Int))) (upd H1 p (.lst primes)) := by
      intro z
      have r0 : 0 ≤ z % (u : Int) := Int.emod_nonneg _ (by omega)
      have r1 : z % (u : Int) < (u : Int) := Int.emod_lt_of_pos _ u0'
      have e : z % (u : Int) = (((z % (u : Int)).toNat : Nat) : Int) := by omega
      rw [e]
      exact q _ _ (by omega) ⟨_, _, _, h2, m0, m1, by omega, by omega⟩ (k1.trans (Kp.of_same s2))
    exact key _

/-- one of some -/
def sp_of : Sp := fun vs H Q _ => ∃ (a b : Addr) (n : Nat) (xs : List V), vs = [.ref a, .ref b] ∧ Hd H a n ∧ n ≤ 1000000 ∧ H b = some (.lst xs) ∧ b ≠ a ∧ 0 < xs.length ∧ xs.length ≤ 1000 ∧
  ∀ (v : V) H', v ∈ xs → Hd H' a (n + 1) → Kp a H H' → Q v H'
theorem ok_of (T : Txt K mg) {k : Nat} : FnOk P w K mg base CX0 (k + 2) T.f__law_of T.fd__law_of ["_law_hand_here", "_law_some"] sp_of := by
  have G__law_take := ok_take (P := P) (w := w) (base := base) T (k := k)
  refine T.F__law_of.ok sc__law_of (fun vs H Q E h => ?_) (fun cdv A outer s H vs Q E hr h => ?_)
  · obtain ⟨a, b, n, xs, rfl, _⟩ := h
    rfl
  obtain ⟨a, b, n, xs, rfl, ha, hn, hb, nb, x0, x1, q⟩ := h
  refine ⟨_, (pss_one (ps_ret (pe_ix ix_list (pv 1) (pe_call G__law_take hr (by rfl) T.g__law_take T.k__law_take T.b__law_take .nil pass0 (pa_cons (pv 0) (pa_cons (pe_callB call_len_seq (by rfl) T.m_len (by decide +kernel) (pa_cons (pv 1) pa_nil)) pa_nil))) (fun _ _ => rfl)))), ?_⟩
  refine ⟨_, rfl, _, rfl, _, rfl, b, xs, rfl, .inl (SqL.of hb), a, n, xs.length, rfl, ha, hn, x0, by omega, fun r H' hr' hd kp => ?_⟩
  have hb' : H' b = some (.lst xs) := kp b _ nb hb
  refine ⟨b, xs, (r : Int), xs[r], rfl, rfl, SqL.of hb', atI_nat (List.getElem?_eq_getElem hr'), ?_⟩
  exact q _ _ (List.getElem_mem hr') hd kp
end

end Z

namespace Z
open PySem PySem.Spec PyProof.Rows L2 Lw

/-! ### whole numbers, rows, notes -/
def wholeD : PyData → Bool
  | .int _ => true
  | _ => false
def withinD (x y : Int) : PyData → Bool
  | .int i => decide (x ≤ i) && decide (i ≤ y)
  | _ => false
def rowD (x y : Int) : PyData → Bool
  | .tuple ds => decide (x ≤ (ds.length : Int)) && decide ((ds.length : Int) ≤ y)
  | _ => false
section
variable {P : Program} {w : World} {K : PySem.W.Frag} {mg : Str → Option Value} {base : Heap}
def sp_is_whole : Sp := fun vs H Q _ => ∃ (v : V) (d : PyData) (f : Bool), vs = [v] ∧ D f H v d ∧ Q (.bl (wholeD d)) H
theorem ok_is_whole (T : Txt K mg) {k : Nat} : FnOk P w K mg base CX0 (k + 1) T.f_is_whole T.fd_is_whole ["thing"] sp_is_whole := by
  refine T.F_is_whole.ok sc_is_whole (fun vs H Q E h => ?_) (fun cdv A outer s H vs Q E hr h => ?_)
  · obtain ⟨v, d, f, rfl, _⟩ := h
    rfl
  obtain ⟨v, d, f, rfl, hd, q⟩ := h
  refine ⟨_, (pss_one (ps_ret (pe_and (pe_callB call_isi (by rfl) T.m_isinstance (by decide +kernel) (pa_cons (pv 0) (pa_cons (pe_bltn (v := .ty "int") (by rfl) T.m_int (by decide +kernel) rfl) pa_nil))) (pe_one (pe_not (pe_callB call_isi (by rfl) T.m_isinstance (by decide +kernel) (pa_cons (pv 0) (pa_cons (pe_bltn (v := .ty "bool") (by rfl) T.m_bool (by decide +kernel) rfl) pa_nil)))))))), ?_⟩
  refine ⟨v, rfl, v, _, _, _, _, rfl, .ty _, hd.ty, kit_int d, _, rfl, ?_⟩
  cases d with
  | int i => exact iteT ⟨v, rfl, v, _, _, _, _, rfl, .ty _, hd.ty, kit_bool _, _, rfl, q⟩
  | bool b => exact iteT ⟨v, rfl, v, _, _, _, _, rfl, .ty _, hd.ty, kit_bool _, _, rfl, q⟩
  | none => exact iteF q
  | str x => exact iteF q
  | list xs => exact iteF q
  | tuple xs => exact iteF q
  | dict kvs => exact iteF q
def sp_is_within : Sp := fun vs H Q _ => ∃ (v : V) (d : PyData) (f : Bool) (x y : Int), vs = [v, .int x, .int y] ∧ D f H v d ∧ Q (.bl (withinD x y d)) H
theorem ok_is_within (T : Txt K mg) {k : Nat} : FnOk P w K mg base CX0 (k + 2) T.f_is_within T.fd_is_within ["thing", "least", "most"] sp_is_within := by
  have G_is_whole := ok_is_whole (P := P) (w := w) (base := base) T (k := k)
  refine T.F_is_within.ok sc_is_within (fun vs H Q E h => ?_) (fun cdv A outer s H vs Q E hr h => ?_)
  · obtain ⟨v, d, f, x, y, rfl, _⟩ := h
    rfl
  obtain ⟨v, d, f, x, y, rfl, hd, q⟩ := h
  refine ⟨_, (pss_one (ps_ret (pe_and (pe_call G_is_whole hr (by rfl) T.g_is_whole T.k_is_whole T.b_is_whole .nil pass0 (pa_cons (pv 0) pa_nil)) (pe_one (pe_chain op_le op_le (pv 1) (pv 0) (pv 2)))))), ?_⟩
  refine ⟨v, rfl, v, d, f, rfl, hd, _, rfl, ?_⟩
  cases hd with
  | int i =>
    refine iteT ⟨_, rfl, _, rfl, _, _, rfl, rfl, _, rfl, ite2 (fun c => ?_) (fun c => ?_)⟩
    · refine ⟨_, rfl, _, _, rfl, rfl, ?_⟩
      have e : withinD x y (.int i) = decide (i ≤ y) := by
        show (decide (x ≤ i) && decide (i ≤ y)) = _
        rw [show decide (x ≤ i) = true from c, Bool.true_and]
      rw [e] at q
      exact q
    · have e : withinD x y (.int i) = false := by
        show (decide (x ≤ i) && decide (i ≤ y)) = _
        rw [show decide (x ≤ i) = false from Bool.eq_false_iff.mpr c, Bool.false_and]
      rw [e] at q
      exact q
  | non => exact iteF q
  | bl b => exact iteF q
  | str x => exact iteF q
  | lst e n t => exact iteF q
  | tup e t => exact iteF q
  | dct e t => exact iteF q
def sp_is_bit : Sp := fun vs H Q _ => ∃ (v : V) (d : PyData) (f : Bool), vs = [v] ∧ D f H v d ∧ Q (.bl (withinD 0 1 d)) H
theorem ok_is_bit (T : Txt K mg) {k : Nat} : FnOk P w K mg base CX0 (k + 3) T.f_is_bit T.fd_is_bit ["thing"] sp_is_bit := by
  have G_is_within := ok_is_within (P := P) (w := w) (base := base) T (k := k)
  refine T.F_is_bit.ok sc_is_bit (fun vs H Q E h => ?_) (fun cdv A outer s H vs Q E hr h => ?_)
  · obtain ⟨v, d, f, rfl, _⟩ := h
    rfl
  obtain ⟨v, d, f, rfl, hd, q⟩ := h
  refine ⟨_, (pss_one (ps_ret (pe_call G_is_within hr (by rfl) T.g_is_within T.k_is_within T.b_is_within .nil pass0 (pa_cons (pv 0) (pa_cons pe_int (pa_cons pe_int pa_nil)))))), ?_⟩
  exact ⟨v, rfl, v, d, f, 0, 1, rfl, hd, q⟩
def sp_is_row : Sp := fun vs H Q _ => ∃ (v : V) (d : PyData) (f : Bool) (x y : Int), vs = [v, .int x, .int y] ∧ D f H v d ∧ Q (.bl (rowD x y d)) H
theorem ok_is_row (T : Txt K mg) {k : Nat} : FnOk P w K mg base CX0 (k + 1) T.f_is_row T.fd_is_row ["thing", "least", "most"] sp_is_row := by
  refine T.F_is_row.ok sc_is_row (fun vs H Q E h => ?_) (fun cdv A outer s H vs Q E hr h => ?_)
  · obtain ⟨v, d, f, x, y, rfl, _⟩ := h
    rfl
  obtain ⟨v, d, f, x, y, rfl, hd, q⟩ := h
  refine ⟨_, (pss_one (ps_ret (pe_and (pe_callB call_isi (by rfl) T.m_isinstance (by decide +kernel) (pa_cons (pv 0) (pa_cons (pe_bltn (v := .ty "tuple") (by rfl) T.m_tuple (by decide +kernel) rfl) pa_nil))) (pe_one (pe_chain op_le op_le (pv 1) (pe_callB call_len_seq (by rfl) T.m_len (by decide +kernel) (pa_cons (pv 0) pa_nil)) (pv 2)))))), ?_⟩
  refine ⟨v, rfl, v, _, _, _, _, rfl, .ty _, hd.ty, kit_tup d, _, rfl, ?_⟩
  cases hd with
  | @tup a xs ds e t =>
    have hl := t.length
    refine iteT ⟨_, rfl, _, rfl, a, xs, rfl, .inr (SqT.of e), _, _, rfl, rfl, _, rfl, ite2 (fun c => ?_) (fun c => ?_)⟩
    · refine ⟨_, rfl, _, _, rfl, rfl, ?_⟩
      have e : rowD x y (.tuple ds) = decide ((xs.length : Int) ≤ y) := by
        show (decide (x ≤ (ds.length : Int)) && decide ((ds.length : Int) ≤ y)) = _
        rw [← hl, show decide (x ≤ (xs.length : Int)) = true from c, Bool.true_and]
      rw [e] at q
      exact q
    · have e : rowD x y (.tuple ds) = false := by
        show (decide (x ≤ (ds.length : Int)) && decide ((ds.length : Int) ≤ y)) = _
        rw [← hl, show decide (x ≤ (xs.length : Int)) = false from Bool.eq_false_iff.mpr c, Bool.false_and]
      rw [e] at q
      exact q
  | non => exact iteF q
  | bl b => exact iteF q
  | int b => exact iteF q
  | str x => exact iteF q
  | lst e n t => exact iteF q
  | dct e t => exact iteF q
end

def atLeast0 : PyData → Bool
  | .int i => decide (0 ≤ i)
  | _ => false
def noteD : PyData → Bool
  | .tuple [x, y, z] => wholeD x && wholeD y && atLeast0 y && withinD 0 1 z
  | _ => false
section
variable {P : Program} {w : World} {K : PySem.W.Frag} {mg : Str → Option Value} {base : Heap}
def sp_is_note : Sp := fun vs H Q _ => ∃ (v : V) (d : PyData) (f : Bool), vs = [v] ∧ D f H v d ∧ Q (.bl (noteD d)) H
theorem row3 {d : PyData} (h : rowD 3 3 d = true) : ∃ x y z, d = .tuple [x, y, z] := by
  cases d with
  | tuple ds =>
    have h' : (decide ((3 : Int) ≤ (ds.length : Int)) && decide ((ds.length : Int) ≤ 3)) = true := h
    rw [Bool.and_eq_true, decide_eq_true_eq, decide_eq_true_eq] at h'
    match ds, h' with
    | [x, y, z], _ => exact ⟨x, y, z, rfl⟩
    | [], h' => exact absurd h'.1 (by decide)
    | [_], h' => exact absurd h'.1 (by simp)
    | [_, _], h' => exact absurd h'.1 (by simp)
    | _ :: _ :: _ :: _ :: r, h' =>
      exfalso
      have := h'.2
      simp only [List.length_cons] at this
      omega
  | _ => cases h
theorem row3_not {d : PyData} (h : rowD 3 3 d = false) : noteD d = false := by
  cases d with
  | tuple ds =>
    match ds with
    | [x, y, z] => exact absurd (show rowD 3 3 (.tuple [x, y, z]) = true from rfl) (by rw [h]; decide)
    | [] => rfl
    | [_] => rfl
    | [_, _] => rfl
    | _ :: _ :: _ :: _ :: _ => rfl
  | _ => rfl
theorem ok_is_note (T : Txt K mg) {k : Nat} : FnOk P w K mg base CX0 (k + 4) T.f_is_note T.fd_is_note ["thing"] sp_is_note := by
  have G_is_whole := ok_is_whole (P := P) (w := w) (base := base) T (k := k + 2)
  have G_is_bit := ok_is_bit (P := P) (w := w) (base := base) T (k := k)
  have G_is_row := ok_is_row (P := P) (w := w) (base := base) T (k := k + 2)
  refine T.F_is_note.ok sc_is_note (fun vs H Q E h => ?_) (fun cdv A outer s H vs Q E hr h => ?_)
  · obtain ⟨v, d, f, rfl, _⟩ := h
    rfl
  obtain ⟨v, d, f, rfl, hd, q⟩ := h
  refine ⟨_, (pss_cons (ps_if (pt_not (pt_val (pe_call G_is_row hr (by rfl) T.g_is_row T.k_is_row T.b_is_row .nil pass0 (pa_cons (pv 0) (pa_cons pe_int (pa_cons pe_int pa_nil)))))) (pss_one (ps_ret pe_bl)) pss_nil)
      (pss_cons (ps_asg (pv 0) (pg_tup rfl (pgs_cons (pg_name (i := 1) sc_is_note.nd rfl (.inl rfl)) (pgs_cons (pg_name (i := 2) sc_is_note.nd rfl (.inl rfl)) (pgs_cons (pg_name (i := 3) sc_is_note.nd rfl (.inl rfl)) pgs_nil)))))
      (pss_one (ps_ret (pe_and (pe_call G_is_whole hr (by rfl) T.g_is_whole T.k_is_whole T.b_is_whole .nil pass0 (pa_cons (pv 1) pa_nil)) (pe_and (pe_call G_is_whole hr (by rfl) T.g_is_whole T.k_is_whole T.b_is_whole .nil pass0 (pa_cons (pv 2) pa_nil)) (pe_and (pe_cmpR op_ge (pv 2) pe_int (nomark _)) (pe_one (pe_call G_is_bit hr (by rfl) T.g_is_bit T.k_is_bit T.b_is_bit .nil pass0 (pa_cons (pv 3) pa_nil)))))))))), ?_⟩
  refine ⟨v, rfl, v, d, f, 3, 3, rfl, hd, _, rfl, ?_⟩
  cases hrow : rowD 3 3 d with
  | false =>
    rw [row3_not hrow] at q
    exact iteT q
  | true =>
    refine iteF ?_
    obtain ⟨x, y, z, rfl⟩ := row3 hrow
    cases hd with
    | @tup a xs ds e t =>
      cases t with
      | cons hx t =>
        cases t with
        | cons hy t =>
          cases t with
          | cons hz t =>
            cases t
            rename_i vx vy vz
            have q' : Q (.bl (wholeD x && wholeD y && atLeast0 y && withinD 0 1 z)) H := q
            refine ⟨_, rfl, a, _, rfl, SqT.of e, rfl, vx, _, rfl, vy, _, rfl, vz, _, rfl, rfl, ?_⟩
            refine ⟨_, rfl, vx, x, f, rfl, hx, _, rfl, ?_⟩
            cases h1 : wholeD x with
            | false =>
              rw [h1] at q'
              exact iteF q'
            | true =>
              rw [h1, Bool.true_and] at q'
              refine iteT ⟨_, rfl, vy, y, f, rfl, hy, _, rfl, ?_⟩
              cases h2 : wholeD y with
              | false =>
                rw [h2] at q'
                exact iteF q'
              | true =>
                rw [h2, Bool.true_and] at q'
                refine iteT ?_
                cases hy with
                | int j =>
                  refine ⟨_, rfl, _, _, rfl, rfl, _, rfl, ?_⟩
                  have q2 : Q (.bl (decide (0 ≤ j) && withinD 0 1 z)) H := q'
                  refine ite2 (fun c => ?_) (fun c => ?_)
                  · rw [show decide (0 ≤ j) = true from c, Bool.true_and] at q2
                    exact ⟨_, rfl, vz, z, f, rfl, hz, q2⟩
                  · rw [show decide (0 ≤ j) = false from Bool.eq_false_iff.mpr c, Bool.false_and] at q2
                    exact q2
                | non => cases h2
                | bl b => cases h2
                | str x => cases h2
                | lst e n t => cases h2
                | tup e t => cases h2
                | dct e t => cases h2
end

end Z

namespace Z
open PySem PySem.Spec PyProof.Rows L2 Lw

/-! ### the law's own look -/
section
variable {P : Program} {w : World} {K : PySem.W.Frag} {mg : Str → Option Value} {base : Heap}
theorem in01 (l : Int) : inV (.int l) [.int 0, .int 1] = withinD 0 1 (.int l) := by
  show ((0 : Int) == l || ((1 : Int) == l || false)) = (decide ((0 : Int) ≤ l) && decide (l ≤ 1))
  by_cases h0 : l = 0
  · subst h0
    rfl
  · by_cases h1 : l = 1
    · subst h1
      rfl
    · have e0 : ((0 : Int) == l) = false := beq_eq_false_iff_ne.mpr (fun z => h0 z.symm)
      have e1 : ((1 : Int) == l) = false := beq_eq_false_iff_ne.mpr (fun z => h1 z.symm)
      rw [e0, e1]
      by_cases h2 : 0 ≤ l
      · rw [decide_eq_true h2, decide_eq_false (show ¬ l ≤ 1 by omega)]
        rfl
      · rw [decide_eq_false h2]
        rfl
theorem not_whole_note {ds : List PyData} {i : Nat} {x : PyData} (h : ds[i]? = some x) (hx : wholeD x = false) : noteD (.tuple ds) = false := by
  match ds, i, h with
  | [a, b, c], 0, h =>
    have e : a = x := Option.some.inj h
    subst e
    show (wholeD a && wholeD b && atLeast0 b && withinD 0 1 c) = false
    rw [hx]
    rfl
  | [a, b, c], 1, h =>
    have e : b = x := Option.some.inj h
    subst e
    show (wholeD a && wholeD b && atLeast0 b && withinD 0 1 c) = false
    rw [hx, Bool.and_false]
    rfl
  | [a, b, c], 2, h =>
    have e : c = x := Option.some.inj h
    subst e
    have z : withinD 0 1 c = false := by
      cases c with
      | int i => exact absurd (show true = false from hx) (by decide)
      | _ => rfl
    show (wholeD a && wholeD b && atLeast0 b && withinD 0 1 c) = false
    rw [z, Bool.and_false]
  | [a, b, c], n + 3, h => simp at h
  | [], _, _ => rfl
  | [_], _, _ => rfl
  | [_, _], _, _ => rfl
  | _ :: _ :: _ :: _ :: _, _, _ => rfl
theorem whole_int {x : PyData} (h : wholeD x = true) : ∃ i, x = .int i := by
  cases x with
  | int i => exact ⟨i, rfl⟩
  | _ => cases h
theorem not3 {ds : List PyData} (h : ds.length ≠ 3) : noteD (.tuple ds) = false := by
  match ds, h with
  | [a, b, c], h => exact absurd rfl h
  | [], _ => rfl
  | [_], _ => rfl
  | [_, _], _ => rfl
  | _ :: _ :: _ :: _ :: _, _ => rfl
def sp_due : Sp := fun vs H Q _ => ∃ (v : V) (d : PyData) (f : Bool), vs = [v] ∧ D f H v d ∧ ∀ H', Same H H' → Q (.bl (noteD d)) H'
theorem ok_due (T : Txt K mg) {k : Nat} : FnOk P w K mg base CX0 (k + 1) T.f__law_due T.fd__law_due ["_law_item"] sp_due := by
  refine T.F__law_due.ok sc__law_due (fun vs H Q E h => ?_) (fun cdv A outer s H vs Q E hr h => ?_)
  · obtain ⟨v, d, f, rfl, _⟩ := h
    rfl
  obtain ⟨v, d, f, rfl, hd, q⟩ := h
  refine ⟨_, (pss_cons (ps_if (PW.pt (pw_or (pt_not (pt_val (pe_callB call_isi (by rfl) T.m_isinstance (by decide +kernel) (pa_cons (pv 0) (pa_cons (pe_bltn (v := .ty "tuple") (by rfl) T.m_tuple (by decide +kernel) rfl) pa_nil))))) (pw_or1 (pt_cmpR op_ne (pe_callB call_len_seq (by rfl) T.m_len (by decide +kernel) (pa_cons (pv 0) pa_nil)) pe_int (nomark _))))) (pss_one (ps_ret pe_bl)) pss_nil)
      (pss_cons (ps_for PassesOwn.never rfl (pi_tup (pv 0)) (pg_name (i := 1) sc__law_due.nd rfl (.inl rfl)) (pss_one (ps_if (PW.pt (pw_or (pt_not (pt_val (pe_callB call_isi (by rfl) T.m_isinstance (by decide +kernel) (pa_cons (pv 1) (pa_cons (pe_bltn (v := .ty "int") (by rfl) T.m_int (by decide +kernel) rfl) pa_nil))))) (pw_or1 (pt_val (pe_callB call_isi (by rfl) T.m_isinstance (by decide +kernel) (pa_cons (pv 1) (pa_cons (pe_bltn (v := .ty "bool") (by rfl) T.m_bool (by decide +kernel) rfl) pa_nil))))))) (pss_one (ps_ret pe_bl)) pss_nil)))
      (pss_one (ps_ret (pe_and (pe_cmpR op_ge (pe_ix ix_tup (pv 0) pe_int (fun _ _ => rfl)) pe_int (nomark _)) (pe_one (pe_cmpR op_in_seq (pe_ix ix_tup (pv 0) pe_int (fun _ _ => rfl)) (pe_tup (pa_cons pe_int (pa_cons pe_int pa_nil))) (by rfl)))))))), ?_⟩
  refine ⟨v, rfl, v, _, _, _, _, rfl, .ty _, hd.ty, kit_tup d, _, rfl, ?_⟩
  have q0 := q H (Same.refl H)
  cases hd with
  | non => exact iteT (iteT q0)
  | bl b => exact iteT (iteT q0)
  | int b => exact iteT (iteT q0)
  | str x => exact iteT (iteT q0)
  | lst e n t => exact iteT (iteT q0)
  | dct e t => exact iteT (iteT q0)
  | @tup a xs ds e t =>
    have hl := t.length
    refine iteF ⟨_, rfl, a, xs, rfl, .inr (SqT.of e), rfl, _, rfl, ?_⟩
    by_cases h3 : xs.length = 3
    · have c : V.int (xs.length : Int) = V.int 3 := by rw [h3]; rfl
      rw [decide_eq_true c]
      refine iteF ?_
      refine ⟨_, rfl, a, rfl, ⟨xs, SqT.of e⟩, for_tup (xs := xs) (fun i σ H' => H' = H ∧ (∃ y, σ = [some (.ref a), y]) ∧ ∀ j x, j < i → ds[j]? = some x → wholeD x = true) ⟨rfl, ⟨none, rfl⟩, fun j x hj => absurd hj (Nat.not_lt_zero j)⟩ ?_ ?_ ?_⟩
      · rintro i σ H' _ ⟨rfl, _, _⟩
        exact SqT.of e
      · rintro i x σ H' hx ⟨rfl, ⟨y, rfl⟩, hp⟩
        obtain ⟨dx, hdx, hD⟩ := DA.get i t hx
        refine ⟨x, rfl, x, _, _, _, _, rfl, .ty _, hD.ty, kit_int dx, _, rfl, ?_⟩
        have stop : wholeD dx = false → Q (.bl false) H' := fun z => by
          rw [not_whole_note hdx z] at q0
          exact q0
        cases dx with
        | int i' =>
          refine iteF ⟨x, rfl, x, _, _, _, _, rfl, .ty _, hD.ty, kit_bool _, _, rfl, iteF ⟨rfl, ⟨_, rfl⟩, ?_⟩⟩
          intro j z hj hz
          by_cases e : j = i
          · subst e
            rw [hdx] at hz
            cases hz
            rfl
          · exact hp j z (by omega) hz
        | bool b => exact iteF ⟨x, rfl, x, _, _, _, _, rfl, .ty _, hD.ty, kit_bool _, _, rfl, iteT (stop rfl)⟩
        | none => exact iteT (iteT (stop rfl))
        | str x => exact iteT (iteT (stop rfl))
        | list xs => exact iteT (iteT (stop rfl))
        | tuple xs => exact iteT (iteT (stop rfl))
        | dict kvs => exact iteT (iteT (stop rfl))
      · rintro σ H' ⟨rfl, ⟨y, rfl⟩, hp⟩
        rw [h3] at hl hp
        match ds, hl, t, q, hp with
        | [x, y, z], _, t, q, hp =>
          obtain ⟨i, rfl⟩ := whole_int (hp 0 x (by decide) rfl)
          obtain ⟨j, rfl⟩ := whole_int (hp 1 y (by decide) rfl)
          obtain ⟨l, rfl⟩ := whole_int (hp 2 z (by decide) rfl)
          cases t with
          | cons hx t =>
            cases t with
            | cons hy t =>
              cases t with
              | cons hz t =>
                cases t
                cases hx
                cases hy
                cases hz
                have e' : noteD (.tuple [.int i, .int j, .int l]) = (decide (0 ≤ j) && withinD 0 1 (.int l)) := rfl
                rw [e'] at q
                refine ⟨_, rfl, a, _, 1, _, rfl, rfl, SqT.of e, rfl, _, _, rfl, rfl, _, rfl, ite2 (fun c => ?_) (fun c => ?_)⟩
                · refine ⟨_, rfl, a, _, 2, _, rfl, rfl, SqT.of e, rfl, (by show 2 ≤ sizeLine; decide), fun p np => ⟨p, _, rfl, .inr (SqT.of upd_same), rfl, rfl, ?_⟩⟩
                  rw [show decide (0 ≤ j) = true from c, Bool.true_and, ← in01] at q
                  exact q _ (same_new np)
                · rw [show decide (0 ≤ j) = false from Bool.eq_false_iff.mpr c, Bool.false_and] at q
                  exact q _ (Same.refl _)
    · have c : ¬ V.int (xs.length : Int) = V.int 3 := fun z => by
        have := V.int.inj z
        omega
      rw [decide_eq_false c]
      refine iteT ?_
      rw [not3 (by omega)] at q0
      exact q0
end

section
variable {P : Program} {w : World} {K : PySem.W.Frag} {mg : Str → Option Value} {base : Heap}
theorem ok_bool (b : Bool) : Ok (.bool b) := by
  refine ⟨rfl, ?_, ?_⟩
  · simp only [PyData.depth]
    exact Nat.zero_le _
  · cases b <;> decide +kernel
def sp_right : Sp := fun vs H Q _ => ∃ (v : V) (d : PyData) (f : Bool), vs = [v] ∧ D f H v d ∧ (d.hasDict = true → f = true) ∧ Ok d ∧ ∀ H', Same H H' → Q (.bl true) H'
theorem ok_right (T : Txt K mg) {k : Nat} : FnG P w K mg base (k + 5) T.f__law_right T.fd__law_right ["_law_item"] sp_right := by
  have G__law_due := ok_due (P := P) (w := w) (base := base) T (k := k + 3)
  have G_is_note := ok_is_note (P := P) (w := w) (base := base) T (k := k)
  refine okG T.F__law_right sc__law_right (fun vs H Q E h => ?_) (fun cdv A outer s H vs Q E hgd hr h => ?_)
  · obtain ⟨v, d, f, rfl, _⟩ := h
    rfl
  obtain ⟨v, d, f, rfl, hd, hf, ok, q⟩ := h
  refine ⟨_, (pss_cons (ps_par (i := 1) (j := 2) rfl sc__law_right.nd rfl rfl (by decide) rfl rfl (pa_cons (pe_callB (call_repr hgd hr) (by rfl) T.m_repr (by decide +kernel) (pa_cons (pv 0) pa_nil)) (pa_cons (pe_call G__law_due hr (by rfl) T.g__law_due T.k__law_due T.b__law_due .nil pass0 (pa_cons (pv 0) pa_nil)) pa_nil)) (by rfl))
      (pss_cons (ps_for PassesOwn.never rfl (pi_tup (pe_tup (pa_cons (pe_call G_is_note hr (by rfl) T.g_is_note T.k_is_note T.b_is_note .nil pass0 (pa_cons (pv 0) pa_nil)) (pa_cons (pe_kw0 G_is_note hr (by rfl) T.g_is_note T.k_is_note T.kb_is_note (pk_cons (pv 0) pk_nil)) pa_nil)))) (pg_name (i := 3) sc__law_right.nd rfl (.inl rfl)) (pss_one (ps_if (pt_cmpR op_ne (pe_callB (call_repr hgd hr) (by rfl) T.m_repr (by decide +kernel) (pa_cons (pv 3) pa_nil)) (pe_callB (call_repr hgd hr) (by rfl) T.m_repr (by decide +kernel) (pa_cons (pv 2) pa_nil)) (nomark _)) (pss_one (ps_ret pe_bl)) pss_nil)))
      (pss_one (ps_ret (pe_cmpR op_eq (pe_callB (call_repr hgd hr) (by rfl) T.m_repr (by decide +kernel) (pa_cons (pv 0) pa_nil)) (pv 1) (nomark _)))))), ?_⟩
  refine ⟨v, rfl, v, d, f, rfl, hd, hf, ok, v, rfl, v, d, f, rfl, hd, fun H1 s1 => ⟨_, _, rfl, ?_⟩⟩
  have hd1 := hd.same s1
  refine ⟨v, rfl, v, d, f, rfl, hd1, v, rfl, v, d, f, rfl, hd1, (by show 2 ≤ sizeLine; decide), fun p np => ?_⟩
  have s2 : Same H1 (upd H1 p (.tup [.bl (noteD d), .bl (noteD d)])) := same_new np
  have hp : (upd H1 p (.tup [.bl (noteD d), .bl (noteD d)])) p = some (.tup [.bl (noteD d), .bl (noteD d)]) := upd_same
  refine ⟨p, rfl, ⟨_, SqT.of hp⟩, for_tup (xs := [.bl (noteD d), .bl (noteD d)]) (fun i σ H' => Same H1 H' ∧ H' p = some (.tup [.bl (noteD d), .bl (noteD d)]) ∧ ∃ y, σ = [some v, some (.str d.shown), some (.bl (noteD d)), y]) ⟨s2, hp, _, rfl⟩ ?_ ?_ ?_⟩
  · rintro i σ H' _ ⟨_, e, _⟩
    exact SqT.of e
  · rintro i x σ H' hx ⟨s3, e, y, rfl⟩
    have ex : x = .bl (noteD d) := by
      match i, hx with
      | 0, hx => exact (Option.some.inj hx).symm
      | 1, hx => exact (Option.some.inj hx).symm
      | n + 2, hx => simp at hx
    subst ex
    refine ⟨_, rfl, _, .bool (noteD d), false, rfl, .bl _, (fun z => nomatch z), ok_bool _, _, rfl, _, .bool (noteD d), false, rfl, .bl _, (fun z => nomatch z), ok_bool _, rfl, _, rfl, ?_⟩
    rw [decide_eq_true rfl]
    exact iteF ⟨s3, e, _, rfl⟩
  · rintro σ H' ⟨s3, e, y, rfl⟩
    refine ⟨v, rfl, v, d, f, rfl, hd1.same s3, hf, ok, _, rfl, rfl, ?_⟩
    rw [decide_eq_true rfl]
    exact q _ (s1.trans s3)
end

end Z

namespace Z
open PySem PySem.Spec PyProof.Rows L2 Lw

/-! ### what is drawn -/
section
variable {P : Program} {w : World} {K : PySem.W.Frag} {mg : Str → Option Value} {base : Heap}
theorem far_small {i : Int} (h : i = 1 ∨ i = 10 ^ 59 ∨ i = 7) : i.natAbs < 10 ^ 62 ∧ (-i).natAbs < 10 ^ 62 := by
  rcases h with rfl | rfl | rfl <;> exact ⟨by decide +kernel, by decide +kernel⟩
def sp_part : Sp := fun vs H Q _ => ∃ (a : Addr) (n : Nat) (as : List Addr), vs = [.ref a] ∧ Hd H a n ∧ n ≤ 900000 ∧ a ∈ as ∧ Trk as H ∧
  ∀ (v : V) (d : PyData) H', D true (remL as H') v d → Bd 1 700 d → Hd H' a (n + 2) → Kp a H H' → Q v H'
theorem ok_part (T : Txt K mg) {k : Nat} : FnOk P w K mg base CX0 (k + 3) T.f__law_part T.fd__law_part ["_law_hand_here"] sp_part := by
  have G__law_of := ok_of (P := P) (w := w) (base := base) T (k := k)
  refine T.F__law_part.ok sc__law_part (fun vs H Q E h => ?_) (fun cdv A outer s H vs Q E hr h => ?_)
  · obtain ⟨a, n, as, rfl, _⟩ := h
    rfl
  obtain ⟨a, n, as, rfl, ha, hn, hm, ht, q⟩ := h
  refine ⟨_, (pss_cons (ps_set (i := 1) sc__law_part.nd rfl (.inl rfl) (pe_call G__law_of hr (by rfl) T.g__law_of T.k__law_of T.b__law_of .nil pass0 (pa_cons (pv 0) (pa_cons (pe_lst (pa_cons pe_int (pa_cons (pe_op op_pow pe_int pe_int) (pa_cons pe_int pa_nil)))) pa_nil))))
      (pss_cons (ps_set (i := 2) sc__law_part.nd rfl (.inl rfl) (pe_lst (pa_cons pe_int (pa_cons pe_int (pa_cons pe_int (pa_cons (pe_un un_neg pe_int) (pa_cons (pe_un un_neg (pv 1)) (pa_cons (pv 1) (pa_cons pe_bl (pa_cons pe_bl (pa_cons pe_non (pa_cons pe_str (pa_cons pe_str (pa_cons (pe_tup pa_nil) (pa_cons (pe_lstN pa_nil) (pa_cons pe_dnewK (pa_cons (pe_tup (pa_cons pe_int pa_nil)) (pa_cons (pe_tup (pa_cons pe_int (pa_cons pe_int (pa_cons pe_int pa_nil)))) (pa_cons (pe_lstN (pa_cons pe_int (pa_cons pe_int (pa_cons pe_int pa_nil)))) pa_nil)))))))))))))))))))
      (pss_one (ps_ret (pe_call G__law_of hr (by rfl) T.g__law_of T.k__law_of T.b__law_of .nil pass0 (pa_cons (pv 0) (pa_cons (pv 2) pa_nil))))))), ?_⟩
  -- far
  refine ⟨_, rfl, _, _, rfl, rfl, ⟨by decide, by decide, by decide⟩, (by show 3 ≤ sizeLine; decide), fun p0 n0 => ?_⟩
  have s0 : Same H (upd H p0 (.lst [.int 1, .int ((10 : Int) ^ (59 : Int).toNat), .int 7])) := same_new n0
  have h0 : (upd H p0 (.lst [.int 1, .int ((10 : Int) ^ (59 : Int).toNat), .int 7])) p0 = some (.lst [.int 1, .int ((10 : Int) ^ (59 : Int).toNat), .int 7]) := upd_same
  have na0 : p0 ≠ a := fun z => (ht.new n0) (z ▸ hm)
  refine ⟨a, p0, n, _, rfl, ha.same s0, by omega, h0, na0, (by decide), (by decide), fun v1 H1 hv1 d1 k1 => ?_⟩
  obtain ⟨far, rfl, hfar⟩ : ∃ far : Int, v1 = .int far ∧ (far = 1 ∨ far = 10 ^ 59 ∨ far = 7) := by
    simp only [List.mem_cons, List.not_mem_nil, or_false] at hv1
    rcases hv1 with e | e | e
    · exact ⟨1, e, .inl rfl⟩
    · exact ⟨_, e, .inr (.inl rfl)⟩
    · exact ⟨7, e, .inr (.inr rfl)⟩
  obtain ⟨f1, f2⟩ := far_small hfar
  have t1 : Trk as H1 := (ht.same s0).kp k1 d1
  -- the things
  refine ⟨_, rfl, _, rfl, _, rfl, _, rfl, (by show 0 ≤ sizeLine; decide), fun p1 n1 => ?_⟩
  have e1 := same_new (o := .tup []) n1
  have t2 := t1.same e1
  refine ⟨(by show 0 ≤ sizeLine; decide), fun p2 n2 w2 => ?_⟩
  have e2 := same_new (o := .lst []) n2
  have t3 := t2.same e2
  intro p3 n3
  have e3 := same_new (o := .dK []) n3
  have t4 := t3.same e3
  refine ⟨(by show 1 ≤ sizeLine; decide), fun p4 n4 => ?_⟩
  have e4 := same_new (o := .tup [.int 0]) n4
  have t5 := t4.same e4
  refine ⟨(by show 3 ≤ sizeLine; decide), fun p5 n5 => ?_⟩
  have e5 := same_new (o := .tup [.int 0, .int 0, .int 0]) n5
  have t6 := t5.same e5
  refine ⟨(by show 3 ≤ sizeLine; decide), fun p6 n6 w6 => ?_⟩
  have e6 := same_new (o := .lst [.int 0, .int 0, .int 0]) n6
  have t7 := t6.same e6
  refine ⟨(by show 17 ≤ sizeLine; decide), fun p7 n7 => ?_⟩
  have e7 := same_new (o := .lst [.int 0, .int 1, .int 2, .int (-1), .int (-far), .int far, .bl true, .bl false, .non, .str "", .str "0", .ref p1, .ref p2, .ref p3, .ref p4, .ref p5, .ref p6]) n7
  have t8 := t7.same e7
  have sAll := e1.trans (e2.trans (e3.trans (e4.trans (e5.trans (e6.trans e7)))))
  have g1 := same_remL (as := as) (e2.trans (e3.trans (e4.trans (e5.trans (e6.trans e7))))) _ _ (remL_new t1 n1)
  have g2 := same_remL (as := as) (e3.trans (e4.trans (e5.trans (e6.trans e7)))) _ _ (remL_new t2 n2)
  have g3 := same_remL (as := as) (e4.trans (e5.trans (e6.trans e7))) _ _ (remL_new t3 n3)
  have g4 := same_remL (as := as) (e5.trans (e6.trans e7)) _ _ (remL_new t4 n4)
  have g5 := same_remL (as := as) (e6.trans e7) _ _ (remL_new t5 n5)
  have g6 := same_remL (as := as) e7 _ _ (remL_new t6 n6)
  have na7 : p7 ≠ a := fun z => (t7.new n7) (z ▸ hm)
  refine ⟨_, rfl, _, rfl, a, p7, n + 1, _, rfl, d1.same sAll, by omega, upd_same, na7, (by show 0 < 17; decide), (by show 17 ≤ 1000; decide), fun v H2 hv d2 k2 => ?_⟩
  have kk : Kp a H H2 := ((Kp.of_same s0).trans k1).trans ((Kp.of_same sAll).trans k2)
  have r2 := k2.remL hm
  have int0 : ∀ i : Int, i.natAbs < 10 ^ 62 → Q (.int i) H2 := fun i hi => q _ (.int i) H2 (.int i) (Bd.int hi |>.mono (Nat.le_refl 1) (by decide)) d2 kk
  have z3 : ∀ x ∈ [PyData.int 0, .int 0, .int 0], Bd 0 210 x := fun x hx => by
    simp only [List.mem_cons, List.not_mem_nil, or_false, or_self] at hx
    subst hx
    exact Bd.int (by decide +kernel)
  simp only [List.mem_cons, List.not_mem_nil, or_false] at hv
  rcases hv with e | e | e | e | e | e | e | e | e | e | e | e | e | e | e | e | e
  · subst e; exact int0 _ (by decide +kernel)
  · subst e; exact int0 _ (by decide +kernel)
  · subst e; exact int0 _ (by decide +kernel)
  · subst e; exact int0 _ (by decide +kernel)
  · subst e; exact int0 _ f2
  · subst e; exact int0 _ f1
  · subst e; exact q _ (.bool true) H2 (.bl _) (Bd.flat0 (.inr (.inl ⟨_, rfl⟩)) (by decide) (by decide)) d2 kk
  · subst e; exact q _ (.bool false) H2 (.bl _) (Bd.flat0 (.inr (.inl ⟨_, rfl⟩)) (by decide) (by decide)) d2 kk
  · subst e; exact q _ .none H2 .non (Bd.flat0 (.inl rfl) (by decide) (by decide)) d2 kk
  · subst e; exact q _ (.str "") H2 (.str _) (Bd.flat0 (.inr (.inr (.inl rfl))) (by decide) (by decide)) d2 kk
  · subst e; exact q _ (.str "0") H2 (.str _) (Bd.flat0 (.inr (.inr (.inr (.inl rfl)))) (by decide) (by decide)) d2 kk
  · subst e; exact q _ (.tuple []) H2 (.tup (r2 _ _ g1) .nil) (Bd.flat0 (.inr (.inr (.inr (.inr (.inl rfl))))) (by decide) (by decide)) d2 kk
  · subst e; exact q _ (.list []) H2 (.lst (r2 _ _ g2) (fun _ => w2) .nil) (Bd.flat0 (.inr (.inr (.inr (.inr (.inr (.inl rfl)))))) (by decide) (by decide)) d2 kk
  · subst e; exact q _ (.dict []) H2 (.dct (ds := []) (r2 _ _ g3) .nil) (Bd.flat0 (.inr (.inr (.inr (.inr (.inr (.inr rfl)))))) (by decide) (by decide)) d2 kk
  · subst e
    refine q _ (.tuple [.int 0]) H2 (.tup (r2 _ _ g4) (.cons (.int 0) .nil)) (Bd.tuple (n := 0) (m := 210) ?_ (by decide)) d2 kk
    intro x hx
    rw [List.mem_singleton.mp hx]
    exact Bd.int (by decide +kernel)
  · subst e; exact q _ (.tuple [.int 0, .int 0, .int 0]) H2 (.tup (r2 _ _ g5) (.cons (.int 0) (.cons (.int 0) (.cons (.int 0) .nil)))) (Bd.tuple (n := 0) (m := 210) z3 (by decide)) d2 kk
  · subst e; exact q _ (.list [.int 0, .int 0, .int 0]) H2 (.lst (r2 _ _ g6) (fun _ => w6) (.cons (.int 0) (.cons (.int 0) (.cons (.int 0) .nil)))) (Bd.list (n := 0) (m := 210) z3 (by decide)) d2 kk
end

end Z

namespace Z
open PySem PySem.Spec PyProof.Rows L2 Lw

section
variable {P : Program} {w : World} {K : PySem.W.Frag} {mg : Str → Option Value} {base : Heap}
theorem bd_wrap1 {n m : Nat} {d : PyData} (h : Bd n m d) : Bd (n + 1) (m + 3) (.tuple [d]) ∧ Bd (n + 1) (m + 3) (.list [d]) := by
  have h1 : ∀ x ∈ [d], Bd n m x := fun x hx => by
    rw [List.mem_singleton.mp hx]
    exact h
  exact ⟨Bd.tuple h1 (by simp only [List.length_singleton]; omega), Bd.list h1 (by simp only [List.length_singleton]; omega)⟩
theorem bd_wrap3 {n m : Nat} {d : PyData} (h : Bd n m d) : Bd (n + 1) (m + 3) (.tuple [d, .int 0, .int 0]) := by
  refine ⟨?_, ?_, ?_, ?_⟩
  · simp only [PyData.leavesShort, PyData.leavesShortAll, h.lf]
    decide +kernel
  · simp only [PyData.showable, PyData.showableAll, h.sh]
    decide +kernel
  · simp only [PyData.depth, PyData.depthAll]
    have := h.dp
    omega
  · have e : PyData.weight (.int 0) = 0 := by decide +kernel
    simp only [PyData.weight, PyData.weightAll] at e ⊢
    have := h.wt
    omega
theorem bd_wrapD {n m : Nat} {d : PyData} (h : Bd n m d) : Bd (n + 1) (m + 3) (.dict [(.str "0", d)]) := by
  refine ⟨?_, ?_, ?_, ?_⟩
  · have e : PyData.leavesShort 64 (.str "0") = true := by decide +kernel
    simp only [PyData.leavesShort, PyData.leavesShortKv, h.lf] at e ⊢
    rw [e]
    rfl
  · simp only [PyData.showable, PyData.showableKv, h.sh]
    rfl
  · simp only [PyData.depth, PyData.depthKv]
    have := h.dp
    omega
  · have e : PyData.weight (.str "0") = 1 := by decide +kernel
    simp only [PyData.weight, PyData.weightKv] at e ⊢
    have := h.wt
    omega
def sp_odd : Sp := fun vs H Q _ => ∃ (a : Addr) (n : Nat) (as : List Addr), vs = [.ref a] ∧ Hd H a n ∧ n ≤ 800000 ∧ a ∈ as ∧ Trk as H ∧
  ∀ (v : V) (d : PyData) H', D true (remL as H') v d → Bd 30 1000 d → Hd H' a (n + 30) → Kp a H H' → Q v H'
theorem ok_odd (T : Txt K mg) {k : Nat} : FnOk P w K mg base CX0 (k + 4) T.f__law_odd T.fd__law_odd ["_law_hand_here"] sp_odd := by
  have G__law_of := ok_of (P := P) (w := w) (base := base) T (k := k + 1)
  have G__law_take := ok_take (P := P) (w := w) (base := base) T (k := k + 2)
  have G__law_part := ok_part (P := P) (w := w) (base := base) T (k := k)
  refine T.F__law_odd.ok sc__law_odd (fun vs H Q E h => ?_) (fun cdv A outer s H vs Q E hr h => ?_)
  · obtain ⟨a, n, as, rfl, _⟩ := h
    rfl
  obtain ⟨a, n, as, rfl, ha, hn, hm, ht, q⟩ := h
  refine ⟨_, (pss_cons (ps_set (i := 1) sc__law_odd.nd rfl (.inl rfl) (pe_call G__law_part hr (by rfl) T.g__law_part T.k__law_part T.b__law_part .nil pass0 (pa_cons (pv 0) pa_nil)))
      (pss_cons (ps_for PassesOwn.never rfl (pi_range1 (by rfl) T.m_range (pa_cons (pe_call G__law_take hr (by rfl) T.g__law_take T.k__law_take T.b__law_take .nil pass0 (pa_cons (pv 0) (pa_cons pe_int pa_nil))) pa_nil)) (pg_name (i := 2) sc__law_odd.nd rfl (.inl rfl)) (pss_one (ps_set (i := 1) sc__law_odd.nd rfl (.inl rfl) (pe_call G__law_of hr (by rfl) T.g__law_of T.k__law_of T.b__law_of .nil pass0 (pa_cons (pv 0) (pa_cons (pe_lst (pa_cons (pe_tup (pa_cons (pv 1) pa_nil)) (pa_cons (pe_lstN (pa_cons (pv 1) pa_nil)) (pa_cons (pe_disp (pps_cons pe_str (pv 1) pps_nil) rfl rfl (by decide) (by decide)) (pa_cons (pe_tup (pa_cons (pv 1) (pa_cons pe_int (pa_cons pe_int pa_nil)))) pa_nil))))) pa_nil))))))
      (pss_one (ps_ret (pv 1))))), ?_⟩
  refine ⟨_, rfl, a, n, as, rfl, ha, by omega, hm, ht, fun v0 d0 H0 hd0 b0 g0 k0 => ?_⟩
  have t0 := ht.kp k0 g0
  refine ⟨_, rfl, a, n + 2, 24, rfl, g0, by omega, by decide, by decide, fun r H1 hr1 g1 k1 => ?_⟩
  refine ⟨(r : Int), rfl, by omega, by omega, for_range (lo := 0) (n := ((r : Int) - 0).toNat) (fun i σ H' => ∃ v d y, σ = [some (.ref a), some v, y] ∧ D true (remL as H') v d ∧ Bd (1 + i) (700 + 3 * i) d ∧ Hd H' a (n + 3 + i) ∧ Kp a H H' ∧ Trk as H') ?_ ?_ ?_⟩
  · exact ⟨v0, d0, none, rfl, hd0.same (k1.remL hm), b0, g1, k0.trans k1, t0.kp k1 g1⟩
  · rintro i σ H' hi ⟨v, d, y, rfl, hd, hb, hg, hk, tr⟩
    refine ⟨_, rfl, _, rfl, (by show 1 ≤ sizeLine; decide), fun p1 n1 => ?_⟩
    have e1 := same_new (o := .tup [v]) n1
    have t1 := tr.same e1
    refine ⟨_, rfl, (by show 1 ≤ sizeLine; decide), fun p2 n2 w2 => ?_⟩
    have e2 := same_new (o := .lst [v]) n2
    have t2 := t1.same e2
    intro p3 n3
    have e3 := same_new (o := .dK []) n3
    have t3 := t2.same e3
    refine ⟨_, rfl, upd_same, [(Sum.inr "0", v)], rfl, (by show 1 ≤ 15; decide), ?_⟩
    have e3' : Same (upd (upd H' p1 (.tup [v])) p2 (.lst [v])) (upd (upd (upd (upd H' p1 (.tup [v])) p2 (.lst [v])) p3 (.dK [])) p3 (.dK [(Sum.inr "0", v)])) := by
      rw [upd_upd]
      exact same_new n3
    have t3' := t2.same e3'
    have m3 : mergeK [] [((Sum.inr "0" : Key), v)] = [((Sum.inr "0" : Key), v)] := rfl
    rw [m3]
    refine ⟨_, rfl, (by show 3 ≤ sizeLine; decide), fun p4 n4 => ?_⟩
    have e4 := same_new (o := .tup [v, .int 0, .int 0]) n4
    have t4 := t3'.same e4
    refine ⟨(by show 4 ≤ sizeLine; decide), fun p5 n5 => ?_⟩
    have e5 := same_new (o := .lst [.ref p1, .ref p2, .ref p3, .ref p4]) n5
    have sAll := e1.trans (e2.trans (e3'.trans (e4.trans e5)))
    have g1 := same_remL (as := as) (e2.trans (e3'.trans (e4.trans e5))) _ _ (remL_new tr n1)
    have g2 := same_remL (as := as) (e3'.trans (e4.trans e5)) _ _ (remL_new t1 n2)
    have g3 : remL as (upd (upd (upd (upd (upd (upd H' p1 (.tup [v])) p2 (.lst [v])) p3 (.dK [])) p3 (.dK [(Sum.inr "0", v)])) p4 (.tup [v, .int 0, .int 0])) p5 (.lst [.ref p1, .ref p2, .ref p3, .ref p4])) p3 = some (.dK [(Sum.inr "0", v)]) := by
      refine same_remL (as := as) (e4.trans e5) _ _ ?_
      rw [remL_ne (t2.new n3), upd_same]
    have g4 := same_remL (as := as) e5 _ _ (remL_new t3' n4)
    have na5 : p5 ≠ a := fun z => (t4.new n5) (z ▸ hm)
    have hdA := hd.same (same_remL (as := as) sAll)
    refine ⟨a, p5, n + 3 + i, _, rfl, hg.same sAll, by omega, upd_same, na5, (by show 0 < 4; decide), (by show 4 ≤ 1000; decide), fun v' H2 hv d2 k2 => ?_⟩
    have r2 := k2.remL hm
    have kk : Kp a H H2 := hk.trans ((Kp.of_same sAll).trans k2)
    have tt := (tr.same sAll).kp k2 d2
    have hdB := hdA.same r2
    have w3 : 700 + 3 * (i + 1) = 700 + 3 * i + 3 := by omega
    have w4 : 1 + (i + 1) = 1 + i + 1 := by omega
    have w5 : n + 3 + (i + 1) = n + 3 + i + 1 := by omega
    show ∃ v d y, _
    rw [w3, w4, w5]
    simp only [List.mem_cons, List.not_mem_nil, or_false] at hv
    rcases hv with e | e | e | e
    · subst e
      exact ⟨_, .tuple [d], _, rfl, .tup (r2 _ _ g1) (.cons hdB .nil), (bd_wrap1 hb).1, d2, kk, tt⟩
    · subst e
      exact ⟨_, .list [d], _, rfl, .lst (r2 _ _ g2) (fun _ => w2) (.cons hdB .nil), (bd_wrap1 hb).2, d2, kk, tt⟩
    · subst e
      exact ⟨_, .dict [(.str "0", d)], _, rfl, .dct (kvs := [(Sum.inr "0", v)]) (ds := [d]) (r2 _ _ g3) (.cons hdB .nil), bd_wrapD hb, d2, kk, tt⟩
    · subst e
      exact ⟨_, .tuple [d, .int 0, .int 0], _, rfl, .tup (r2 _ _ g4) (.cons hdB (.cons (.int 0) (.cons (.int 0) .nil))), bd_wrap3 hb, d2, kk, tt⟩
  · rintro σ H' ⟨v, d, y, rfl, hd, hb, hg, hk, tr⟩
    exact ⟨_, rfl, q v d H' hd (hb.mono (by omega) (by omega)) (hg.mono (by omega)) hk⟩
end

end Z

namespace Z
open PySem PySem.Spec PyProof.Rows L2 Lw

section
variable {P : Program} {w : World} {K : PySem.W.Frag} {mg : Str → Option Value} {base : Heap}
def sp_bent : Sp := fun vs H Q _ => ∃ (a : Addr) (n : Nat) (as : List Addr) (b : Addr) (ds : List PyData) (nn t : Nat), vs = [.ref a, .ref b] ∧ Hd H a n ∧ n ≤ 800000 ∧ a ∈ as ∧ Trk as H ∧ Tp as H b ds ∧ BA nn t ds ∧ 1 ≤ nn ∧ ds.length ≤ 1000 ∧
  ∀ (c : Addr) (es : List PyData) H', Tp as H' c es → BA (nn + 1) (3 * t + 701) es → es.length ≤ 3 * ds.length + 1 → Hd H' a (n + 5) → Kp a H H' → Q (.ref c) H'
theorem cutD_le (ds : List PyData) (lo hi : Option Int) : (cutD ds lo hi).length ≤ ds.length := by
  unfold Lw.cutD
  rw [List.length_take, List.length_drop]
  omega
/-- a cut of a tuple -/
theorem Tp.cut {as : List Addr} {H H' : Hp} {b p : Addr} {xs : List V} {ds : List PyData} {lo hi : Option Int} (nb : b ∉ as) (da : DA true (remL as H) xs ds) (tr : Trk as H) (s : Same H H') (e : H' p = some (.tup (cutV xs lo hi))) (o : p = b ∨ H p = none) : Tp as H' p (cutD ds lo hi) := by
  refine ⟨?_, _, e, (da.cut lo hi).same (same_remL s)⟩
  rcases o with rfl | o
  · exact nb
  · exact tr.new o
/-- two tuples put together -/
theorem Tp.cat {as : List Addr} {H H' : Hp} {b c p : Addr} {xs ys : List V} {ds es : List PyData} (nb : b ∉ as) (nc : c ∉ as) (da : DA true (remL as H) xs ds) (db : DA true (remL as H) ys es) (tr : Trk as H) (s : Same H H') (e : H' p = some (.tup (xs ++ ys))) (o : p = b ∨ p = c ∨ H p = none) : Tp as H' p (ds ++ es) := by
  refine ⟨?_, _, e, (da.append db).same (same_remL s)⟩
  rcases o with rfl | rfl | o
  · exact nb
  · exact nc
  · exact tr.new o
theorem ok_bent (T : Txt K mg) {k : Nat} : FnOk P w K mg base CX0 (k + 4) T.f__law_bent T.fd__law_bent ["_law_hand_here", "_law_item"] sp_bent := by
  have G__law_of := ok_of (P := P) (w := w) (base := base) T (k := k + 1)
  have G__law_take := ok_take (P := P) (w := w) (base := base) T (k := k + 2)
  have G__law_part := ok_part (P := P) (w := w) (base := base) T (k := k)
  refine T.F__law_bent.ok sc__law_bent (fun vs H Q E h => ?_) (fun cdv A outer s H vs Q E hr h => ?_)
  · obtain ⟨a, n, as, b, ds, nn, t, rfl, _⟩ := h
    rfl
  obtain ⟨a, n, as, b, ds, nn, t, rfl, ha, hn, hm, tr, tp, ba, hnn, hds, q⟩ := h
  refine ⟨_, (pss_cons (ps_par (i := 2) (j := 3) rfl sc__law_bent.nd rfl rfl (by decide) rfl rfl (pa_cons (pe_call G__law_take hr (by rfl) T.g__law_take T.k__law_take T.b__law_take .nil pass0 (pa_cons (pv 0) (pa_cons (pe_op op_add (pe_callB call_len_seq (by rfl) T.m_len (by decide +kernel) (pa_cons (pv 1) pa_nil)) pe_int) pa_nil))) (pa_cons (pe_call G__law_take hr (by rfl) T.g__law_take T.k__law_take T.b__law_take .nil pass0 (pa_cons (pv 0) (pa_cons pe_int pa_nil))) pa_nil)) (by rfl))
      (pss_cons (ps_if (pt_cmpR op_eq (pv 3) pe_int (nomark _)) (pss_one (ps_ret (pe_op op_catU (pe_slice sl_U (pv 1) po_none (po_some (pv 2))) (pe_slice sl_U (pv 1) (po_some (pe_op op_add (pv 2) pe_int)) po_none)))) pss_nil)
      (pss_cons (ps_if (pt_cmpR op_eq (pv 3) pe_int (nomark _)) (pss_one (ps_ret (pe_op op_catU (pe_op op_catU (pe_slice sl_U (pv 1) po_none (po_some (pv 2))) (pe_slice sl_U (pv 1) (po_some (pv 2)) (po_some (pe_op op_add (pv 2) pe_int)))) (pe_slice sl_U (pv 1) (po_some (pv 2)) po_none)))) pss_nil)
      (pss_cons (ps_if (pt_cmpR op_eq (pv 3) pe_int (nomark _)) (pss_one (ps_ret (pe_op op_catU (pe_op op_catU (pe_slice sl_U (pv 1) po_none (po_some (pv 2))) (pe_tup (pa_cons (pe_call G__law_part hr (by rfl) T.g__law_part T.k__law_part T.b__law_part .nil pass0 (pa_cons (pv 0) pa_nil)) pa_nil))) (pe_slice sl_U (pv 1) (po_some (pv 2)) po_none)))) pss_nil)
      (pss_cons (ps_if (pt_cmpR op_eq (pv 3) pe_int (nomark _)) (pss_one (ps_ret (pe_call G__law_of hr (by rfl) T.g__law_of T.k__law_of T.b__law_of .nil pass0 (pa_cons (pv 0) (pa_cons (pe_lst (pa_cons (pe_revT (pv 1)) (pa_cons (pe_op op_catU (pv 1) (pv 1)) (pa_cons (pe_tup (pa_cons (pv 1) pa_nil)) (pa_cons (pe_op op_catU (pe_slice sl_U (pv 1) (po_some (pv 2)) po_none) (pe_slice sl_U (pv 1) po_none (po_some (pv 2)))) pa_nil))))) pa_nil))))) pss_nil)
      (pss_one (ps_ret (pe_op op_catU (pe_op op_catU (pe_slice sl_U (pv 1) po_none (po_some (pv 2))) (pe_tup (pa_cons (pe_call G__law_part hr (by rfl) T.g__law_part T.k__law_part T.b__law_part .nil pass0 (pa_cons (pv 0) pa_nil)) pa_nil))) (pe_slice sl_U (pv 1) (po_some (pe_op op_add (pv 2) pe_int)) po_none))))))))), ?_⟩
  obtain ⟨nb, xs, ex, da⟩ := id tp
  have hl := da.length
  refine ⟨_, rfl, _, rfl, b, xs, rfl, .inr (SqT.of ex), _, _, rfl, rfl, a, n, xs.length + 1, rfl, ha, by omega, by omega, by omega, fun r H1 hr1 g1 k1 => ?_⟩
  refine ⟨_, rfl, a, n + 1, 6, rfl, g1, by omega, by decide, by decide, fun way H2 hway g2 k2 => ⟨_, _, rfl, ?_⟩⟩
  have k3 := k1.trans k2
  have tr3 := tr.kp k3 g2
  obtain ⟨_, xs3, ex3, da3⟩ := tp.kp hm k3
  have exs : xs3 = xs := by
    have := k3 b _ (fun z => nb (z ▸ hm)) ex
    rw [ex3] at this
    cases this
    rfl
  subst exs
  clear ex da tp k1 k2 g1 tr ha
  have small : ∀ m : Nat, m ≤ 5000 → m ≤ sizeLine := fun m h => Nat.le_trans h (by decide)
  have c1 := fun (lo hi : Option Int) => cutV_le xs3 lo hi
  have c2 := fun (lo hi : Option Int) => cutD_le ds lo hi
  -- ways 0 to 3, else
  refine ⟨_, rfl, rfl, _, rfl, ite2 (fun _ => ?_) (fun _ => ?_)⟩
  · refine ⟨_, rfl, _, rfl, _, rfl, b, xs3, rfl, ex3, fun p1 H3 s3 e3 o3 => ?_⟩
    refine ⟨_, rfl, _, rfl, _, _, rfl, rfl, _, rfl, b, xs3, rfl, s3 _ _ ex3, fun p2 H4 s4 e4 o4 => ?_⟩
    have z1 := Tp.cut nb da3 tr3 s3 e3 o3
    have z2 := Tp.cut nb (da3.same (same_remL s3)) (tr3.same s3) s4 e4 o4
    refine ⟨p1, p2, _, _, rfl, rfl, s4 _ _ e3, e4, small _ (by have := c1 none (some (r : Int)); have := c1 (some ((r : Int) + 1)) none; omega), fun p3 H5 s5 e5 o5 => ?_⟩
    have z := Tp.cat z1.1 z2.1 ((da3.cut _ _).same (same_remL (s3.trans s4))) ((da3.cut _ _).same (same_remL (s3.trans s4))) ((tr3.same s3).same s4) s5 e5 o5
    have sA := s3.trans (s4.trans s5)
    refine q p3 _ H5 z ((BA.append (ba.cut _ _) (ba.cut _ _)).mono (by omega) (by omega)) ?_ ((g2.same sA).mono (by omega)) (k3.trans (Kp.of_same sA))
    rw [List.length_append]
    have := c2 none (some (r : Int))
    have := c2 (some ((r : Int) + 1)) none
    omega
  refine ⟨_, rfl, rfl, _, rfl, ite2 (fun _ => ?_) (fun _ => ?_)⟩
  · refine ⟨_, rfl, _, rfl, _, rfl, b, xs3, rfl, ex3, fun p1 H3 s3 e3 o3 => ?_⟩
    refine ⟨_, rfl, _, rfl, _, rfl, _, rfl, _, _, rfl, rfl, _, rfl, b, xs3, rfl, s3 _ _ ex3, fun p2 H4 s4 e4 o4 => ?_⟩
    have z1 := Tp.cut nb da3 tr3 s3 e3 o3
    have z2 := Tp.cut nb (da3.same (same_remL s3)) (tr3.same s3) s4 e4 o4
    have tr4 := (tr3.same s3).same s4
    have x1 := c1 none (some (r : Int))
    have x2 := c1 (some (r : Int)) (some ((r : Int) + 1))
    have x3 := c1 (some (r : Int)) none
    refine ⟨p1, p2, _, _, rfl, rfl, s4 _ _ e3, e4, small _ (by omega), fun p3 H5 s5 e5 o5 => ?_⟩
    have s35 := s3.trans (s4.trans s5)
    have z3 := Tp.cat z1.1 z2.1 ((da3.cut _ _).same (same_remL (s3.trans s4))) ((da3.cut _ _).same (same_remL (s3.trans s4))) tr4 s5 e5 o5
    refine ⟨_, rfl, _, rfl, _, rfl, b, xs3, rfl, s35 _ _ ex3, fun p4 H6 s6 e6 o6 => ?_⟩
    have z4 := Tp.cut nb (da3.same (same_remL s35)) (tr4.same s5) s6 e6 o6
    refine ⟨p3, p4, _, _, rfl, rfl, s6 _ _ e5, e6, small _ (by rw [List.length_append]; omega), fun p5 H7 s7 e7 o7 => ?_⟩
    have s36 := s35.trans s6
    have z := Tp.cat z3.1 z4.1 (((da3.cut _ _).append (da3.cut _ _)).same (same_remL s36)) ((da3.cut _ _).same (same_remL s36)) ((tr4.same s5).same s6) s7 e7 o7
    have sA := s36.trans s7
    refine q p5 _ H7 z ((BA.append (BA.append (ba.cut _ _) (ba.cut _ _)) (ba.cut _ _)).mono (by omega) (by omega)) ?_ ((g2.same sA).mono (by omega)) (k3.trans (Kp.of_same sA))
    rw [List.length_append, List.length_append]
    have := c2 none (some (r : Int))
    have := c2 (some (r : Int)) (some ((r : Int) + 1))
    have := c2 (some (r : Int)) none
    omega
  refine ⟨_, rfl, rfl, _, rfl, ite2 (fun _ => ?_) (fun _ => ?_)⟩
  · refine ⟨_, rfl, _, rfl, _, rfl, b, xs3, rfl, ex3, fun p1 H3 s3 e3 o3 => ?_⟩
    have z1 := Tp.cut nb da3 tr3 s3 e3 o3
    refine ⟨_, rfl, a, n + 2, as, rfl, g2.same s3, by omega, hm, tr3.same s3, fun v d H4 hd hb g4 k4 => ?_⟩
    have tr4 := (tr3.same s3).kp k4 g4
    have np1 : p1 ≠ a := fun z => z1.1 (z ▸ hm)
    have nba : b ≠ a := fun z => nb (z ▸ hm)
    have e4 := k4 _ _ np1 e3
    have dz1 := ((da3.cut none (some (r : Int))).same (same_remL s3)).same (k4.remL hm)
    refine ⟨(by show 1 ≤ sizeLine; decide), fun p2 n2 => ?_⟩
    have s5 := same_new (o := .tup [v]) n2
    have x1 := c1 none (some (r : Int))
    have x3 := c1 (some (r : Int)) none
    refine ⟨p1, p2, _, _, rfl, rfl, s5 _ _ e4, upd_same, small _ (by rw [List.length_singleton]; omega), fun p3 H6 s6 e6 o6 => ?_⟩
    have z3 := Tp.cat z1.1 (tr4.new n2) (dz1.same (same_remL s5)) (.cons (hd.same (same_remL s5)) .nil) (tr4.same s5) s6 e6 o6
    have s56 := s5.trans s6
    refine ⟨_, rfl, _, rfl, _, rfl, b, xs3, rfl, s56 _ _ (k4 _ _ nba (s3 _ _ ex3)), fun p4 H7 s7 e7 o7 => ?_⟩
    have da6 := ((da3.same (same_remL s3)).same (k4.remL hm)).same (same_remL s56)
    have z4 := Tp.cut nb da6 (tr4.same s56) s7 e7 o7
    refine ⟨p3, p4, _, _, rfl, rfl, s7 _ _ e6, e7, small _ (by rw [List.length_append, List.length_singleton]; omega), fun p5 H8 s8 e8 o8 => ?_⟩
    have s57 := s56.trans s7
    have z := Tp.cat z3.1 z4.1 ((dz1.same (same_remL s57)).append (.cons (hd.same (same_remL s57)) .nil)) ((da6.cut _ _).same (same_remL s7)) ((tr4.same s56).same s7) s8 e8 o8
    have sA := s57.trans s8
    refine q p5 _ H8 z ((BA.append (BA.append ((ba.cut _ _).mono (show nn ≤ nn + 1 by omega) (Nat.le_refl _)) (BA.one (hb.mono (show 1 ≤ nn + 1 by omega) (Nat.le_refl _)))) ((ba.cut _ _).mono (show nn ≤ nn + 1 by omega) (Nat.le_refl _))).mono (Nat.le_refl _) (by omega)) ?_ ((g4.same sA).mono (by omega)) (k3.trans ((Kp.of_same s3).trans (k4.trans (Kp.of_same sA))))
    rw [List.length_append, List.length_append, List.length_singleton]
    have := c2 none (some (r : Int))
    have := c2 (some (r : Int)) none
    omega
  refine ⟨_, rfl, rfl, _, rfl, ite2 (fun _ => ?_) (fun _ => ?_)⟩
  · -- turned about, twice, within one, the end ahead
    refine ⟨_, rfl, _, rfl, b, xs3, rfl, SqT.of ex3, fun p1 n1 => ?_⟩
    have s4 := same_new (o := .tup xs3.reverse) n1
    have tr4 := tr3.same s4
    refine ⟨_, rfl, _, rfl, b, b, xs3, xs3, rfl, rfl, s4 _ _ ex3, s4 _ _ ex3, small _ (by omega), fun p2 H5 s5 e5 o5 => ?_⟩
    have tr5 := tr4.same s5
    have z2 := Tp.cat nb nb (da3.same (same_remL s4)) (da3.same (same_remL s4)) tr4 s5 e5 o5
    refine ⟨_, rfl, (by show 1 ≤ sizeLine; decide), fun p3 n3 => ?_⟩
    have s6 := same_new (o := .tup [.ref b]) n3
    have tr6 := tr5.same s6
    have s46 := s4.trans (s5.trans s6)
    refine ⟨_, rfl, _, rfl, _, rfl, b, xs3, rfl, s46 _ _ ex3, fun p4 H7 s7 e7 o7 => ?_⟩
    have z4 := Tp.cut nb (da3.same (same_remL s46)) tr6 s7 e7 o7
    have tr7 := tr6.same s7
    refine ⟨_, rfl, _, rfl, _, rfl, b, xs3, rfl, s7 _ _ (s46 _ _ ex3), fun p5 H8 s8 e8 o8 => ?_⟩
    have s47 := s46.trans s7
    have z5 := Tp.cut nb (da3.same (same_remL s47)) tr7 s8 e8 o8
    have tr8 := tr7.same s8
    have s48 := s47.trans s8
    have x1 := c1 none (some (r : Int))
    have x3 := c1 (some (r : Int)) none
    refine ⟨p4, p5, _, _, rfl, rfl, s8 _ _ e7, e8, small _ (by omega), fun p6 H9 s9 e9 o9 => ?_⟩
    have z6 := Tp.cat z4.1 z5.1 ((da3.cut _ _).same (same_remL s48)) ((da3.cut _ _).same (same_remL s48)) tr8 s9 e9 o9
    have tr9 := tr8.same s9
    have s49 := s48.trans s9
    refine ⟨(by show 4 ≤ sizeLine; decide), fun p7 n7 => ?_⟩
    have s10 := same_new (o := .lst [.ref p1, .ref p2, .ref p3, .ref p6]) n7
    have sA := s49.trans s10
    have na7 : p7 ≠ a := fun z => (tr9.new n7) (z ▸ hm)
    refine ⟨a, p7, n + 2, _, rfl, g2.same sA, by omega, upd_same, na7, (by show 0 < 4; decide), (by show 4 ≤ 1000; decide), fun v Hb hv gb kb => ?_⟩
    have kk := k3.trans ((Kp.of_same sA).trans kb)
    have gb' : Hd Hb a (n + 5) := gb.mono (by omega)
    have lift : ∀ {ds' : List PyData}, BA nn t ds' → BA (nn + 1) (3 * t + 701) ds' := fun h => h.mono (by omega) (by omega)
    simp only [List.mem_cons, List.not_mem_nil, or_false] at hv
    rcases hv with e | e | e | e
    · subst e
      have z1 : Tp as (upd H2 p1 (.tup xs3.reverse)) p1 ds.reverse := ⟨tr3.new n1, _, upd_same, da3.rev.same (same_remL s4)⟩
      refine q p1 ds.reverse Hb ((z1.same (s5.trans (s6.trans (s7.trans (s8.trans (s9.trans s10)))))).kp hm kb) (lift ba.rev) ?_ gb' kk
      rw [List.length_reverse]
      omega
    · subst e
      refine q p2 _ Hb ((z2.same (s6.trans (s7.trans (s8.trans (s9.trans s10))))).kp hm kb) ((BA.append ba ba).mono (by omega) (by omega)) ?_ gb' kk
      rw [List.length_append]
      omega
    · subst e
      have z3 : Tp as (upd H5 p3 (.tup [.ref b])) p3 [.tuple ds] := by
        refine ⟨tr5.new n3, _, upd_same, .cons (.tup ?_ (da3.same (same_remL s46))) .nil⟩
        rw [remL_ne nb]
        exact s46 _ _ ex3
      refine q p3 _ Hb ((z3.same (s7.trans (s8.trans (s9.trans s10)))).kp hm kb) ((BA.one ba.tuple).mono (by omega) (by omega)) ?_ gb' kk
      rw [List.length_singleton]
      omega
    · subst e
      refine q p6 _ Hb ((z6.same s10).kp hm kb) ((BA.append (ba.cut _ _) (ba.cut _ _)).mono (by omega) (by omega)) ?_ gb' kk
      rw [List.length_append]
      have := c2 none (some (r : Int))
      have := c2 (some (r : Int)) none
      omega
  · refine ⟨_, rfl, _, rfl, _, rfl, b, xs3, rfl, ex3, fun p1 H3 s3 e3 o3 => ?_⟩
    have z1 := Tp.cut nb da3 tr3 s3 e3 o3
    refine ⟨_, rfl, a, n + 2, as, rfl, g2.same s3, by omega, hm, tr3.same s3, fun v d H4 hd hb g4 k4 => ?_⟩
    have tr4 := (tr3.same s3).kp k4 g4
    have np1 : p1 ≠ a := fun z => z1.1 (z ▸ hm)
    have nba : b ≠ a := fun z => nb (z ▸ hm)
    have e4 := k4 _ _ np1 e3
    have dz1 := ((da3.cut none (some (r : Int))).same (same_remL s3)).same (k4.remL hm)
    refine ⟨(by show 1 ≤ sizeLine; decide), fun p2 n2 => ?_⟩
    have s5 := same_new (o := .tup [v]) n2
    have x1 := c1 none (some (r : Int))
    have x3 := c1 (some ((r : Int) + 1)) none
    refine ⟨p1, p2, _, _, rfl, rfl, s5 _ _ e4, upd_same, small _ (by rw [List.length_singleton]; omega), fun p3 H6 s6 e6 o6 => ?_⟩
    have z3 := Tp.cat z1.1 (tr4.new n2) (dz1.same (same_remL s5)) (.cons (hd.same (same_remL s5)) .nil) (tr4.same s5) s6 e6 o6
    have s56 := s5.trans s6
    refine ⟨_, rfl, _, rfl, _, _, rfl, rfl, _, rfl, b, xs3, rfl, s56 _ _ (k4 _ _ nba (s3 _ _ ex3)), fun p4 H7 s7 e7 o7 => ?_⟩
    have da6 := ((da3.same (same_remL s3)).same (k4.remL hm)).same (same_remL s56)
    have z4 := Tp.cut nb da6 (tr4.same s56) s7 e7 o7
    refine ⟨p3, p4, _, _, rfl, rfl, s7 _ _ e6, e7, small _ (by rw [List.length_append, List.length_singleton]; omega), fun p5 H8 s8 e8 o8 => ?_⟩
    have s57 := s56.trans s7
    have z := Tp.cat z3.1 z4.1 ((dz1.same (same_remL s57)).append (.cons (hd.same (same_remL s57)) .nil)) ((da6.cut _ _).same (same_remL s7)) ((tr4.same s56).same s7) s8 e8 o8
    have sA := s57.trans s8
    refine q p5 _ H8 z ((BA.append (BA.append ((ba.cut _ _).mono (show nn ≤ nn + 1 by omega) (Nat.le_refl _)) (BA.one (hb.mono (show 1 ≤ nn + 1 by omega) (Nat.le_refl _)))) ((ba.cut _ _).mono (show nn ≤ nn + 1 by omega) (Nat.le_refl _))).mono (Nat.le_refl _) (by omega)) ?_ ((g4.same sA).mono (by omega)) (k3.trans ((Kp.of_same s3).trans (k4.trans (Kp.of_same sA))))
    rw [List.length_append, List.length_append, List.length_singleton]
    have := c2 none (some (r : Int))
    have := c2 (some ((r : Int) + 1)) none
    omega
end

end Z

namespace Z
open PySem PySem.Spec PyProof.Rows L2 Lw

/-! ### the law -/
section
variable {P : Program} {w : World} {K : PySem.W.Frag} {mg : Str → Option Value} {base : Heap}
def Good (as : List Addr) (H : Hp) (v : V) : Prop := ∃ (d : PyData) (f : Bool), D f (remL as H) v d ∧ (d.hasDict = true → f = true) ∧ Ok d
theorem Good.same {as : List Addr} {H H' : Hp} {v : V} (h : Good as H v) (s : Same (remL as H) (remL as H')) : Good as H' v := by
  obtain ⟨d, f, a, b, c⟩ := h
  exact ⟨d, f, a.same s, b, c⟩
theorem bd3 {x y z : Int} (hx : x.natAbs < 10 ^ 62) (hy : y.natAbs < 10 ^ 62) (hz : z.natAbs < 10 ^ 62) : BA 0 633 [.int x, .int y, .int z] := by
  have e : ([.int x, .int y, .int z] : List PyData) = [.int x] ++ ([.int y] ++ [.int z]) := rfl
  rw [e]
  exact (BA.append (BA.one (Bd.int hx)) (BA.append (BA.one (Bd.int hy)) (BA.one (Bd.int hz)))).mono (Nat.le_refl _) (by decide)
theorem good3 {as : List Addr} {H : Hp} {p : Addr} {x y z : Int} (e : remL as H p = some (.tup [.int x, .int y, .int z])) (hx : x.natAbs < 10 ^ 62) (hy : y.natAbs < 10 ^ 62) (hz : z.natAbs < 10 ^ 62) : Good as H (.ref p) :=
  ⟨.tuple [.int x, .int y, .int z], true, .tup e (.cons (.int x) (.cons (.int y) (.cons (.int z) .nil))), fun _ => rfl, ((bd3 hx hy hz).tuple).ok (by decide) (by decide)⟩
theorem good3L {as : List Addr} {H : Hp} {p : Addr} {x y z : Int} (e : remL as H p = some (.lst [.int x, .int y, .int z])) (hx : x.natAbs < 10 ^ 62) (hy : y.natAbs < 10 ^ 62) (hz : z.natAbs < 10 ^ 62) : Good as H (.ref p) :=
  ⟨.list [.int x, .int y, .int z], false, .lst e (fun q => nomatch q) (.cons (.int x) (.cons (.int y) (.cons (.int z) .nil))), (by intro h; simp [PyData.hasDict, PyData.hasDictAll] at h), ((bd3 hx hy hz).list).ok (by decide) (by decide)⟩
theorem goodB {as : List Addr} {H : Hp} {v : V} {d : PyData} {n m : Nat} (h : D true (remL as H) v d) (b : Bd n m d) (hn : n ≤ 100) (hm : m ≤ 250000) : Good as H v := ⟨d, true, h, fun _ => rfl, b.ok hn hm⟩
/-- all but what stands at some places is as it was -/
def Kq (as : List Addr) (H H' : Hp) : Prop := ∀ b o, b ∉ as → H b = some o → H' b = some o
theorem Kq.of_same {as : List Addr} {H H' : Hp} (s : Same H H') : Kq as H H' := fun b o _ e => s b o e
theorem Kq.of_kp {as : List Addr} {a : Addr} {H H' : Hp} (h : a ∈ as) (k : Kp a H H') : Kq as H H' := fun b o n e => k b o (fun z => n (z ▸ h)) e
theorem Kq.trans {as : List Addr} {H H1 H2 : Hp} (x : Kq as H H1) (y : Kq as H1 H2) : Kq as H H2 := fun b o n e => y b o n (x b o n e)
theorem Kq.at {as : List Addr} {a : Addr} {H : Hp} {o : HO} (h : a ∈ as) : Kq as H (upd H a o) := fun b u n e => by
  have nb : b ≠ a := fun z => n (by rw [z]; exact h)
  rw [upd_ne nb]
  exact e
theorem Kq.remL {as : List Addr} {H H' : Hp} (k : Kq as H H') : Same (Lw.remL as H) (Lw.remL as H') := fun b o h => by
  obtain ⟨n, e⟩ := remL_some h
  rw [remL_ne n]
  exact k b o n e
theorem Kq.onto {as : List Addr} {H0 H H' : Hp} (k : Kq as H H') (s : Same H0 H) (n : ∀ b ∈ as, H0 b = none) : Same H0 H' := fun b o e => k b o (fun z => by rw [n b z] at e; cases e) (s b o e)
theorem tp_kq {as : List Addr} {H H' : Hp} {b : Addr} {ds : List PyData} (h : Tp as H b ds) (k : Kq as H H') : Tp as H' b ds := by
  obtain ⟨n, xs, e, t⟩ := h
  exact ⟨n, xs, k _ _ n e, t.same k.remL⟩
def sp_law (K : PySem.W.Frag) : Sp := fun vs H Q _ => ∃ (a : Addr) (ns : List Int), vs = [.ref a] ∧ SqL K H a (ns.map V.int) ∧ ns.length ≤ 63 ∧ ∀ H', Q (.bl true) H'
theorem ok_law (T : Txt K mg) {k : Nat} : FnG P w K mg base (k + 6) T.f_law T.fd_law ["_law_script"] (sp_law K) := by
  have G__law_hand := ok_hand (P := P) (w := w) (base := base) T (k := k + 4)
  have G__law_of := ok_of (P := P) (w := w) (base := base) T (k := k + 3)
  have G__law_take := ok_take (P := P) (w := w) (base := base) T (k := k + 4)
  have G__law_bent := ok_bent (P := P) (w := w) (base := base) T (k := k + 1)
  have G__law_odd := ok_odd (P := P) (w := w) (base := base) T (k := k + 1)
  have G__law_right := ok_right (P := P) (w := w) (base := base) T (k := k)
  refine okG T.F_law sc_law (fun vs H Q E h => ?_) (fun cdv A outer s H vs Q E hgd hr h => ?_)
  · obtain ⟨a, ns, rfl, _⟩ := h
    rfl
  obtain ⟨a, ns, rfl, hS, h63, q⟩ := h
  refine ⟨_, (pss_cons (ps_for PassesOwn.never rfl (pi_range1 (by rfl) T.m_range (pa_cons (pe_op op_add pe_int (pe_callB (call_min2 rfl) (by rfl) T.m_min (by decide +kernel) (pa_cons pe_int (pa_cons (pe_callB call_len_seq (by rfl) T.m_len (by decide +kernel) (pa_cons (pv 0) pa_nil)) pa_nil)))) pa_nil)) (pg_name (i := 1) sc_law.nd rfl (.inl rfl)) (pss_cons (ps_set (i := 2) sc_law.nd rfl (.inl rfl) (pe_call G__law_hand hr (by rfl) T.g__law_hand T.k__law_hand T.b__law_hand .nil pass0 (pa_cons (pv 0) (pa_cons (pv 1) pa_nil))))
      (pss_cons (ps_set (i := 3) sc_law.nd rfl (.inl rfl) (pe_lst (pa_cons (pe_tup pa_nil) (pa_cons (pe_tup (pa_cons pe_int (pa_cons pe_int (pa_cons pe_int pa_nil)))) (pa_cons (pe_tup (pa_cons pe_int (pa_cons pe_int (pa_cons pe_int pa_nil)))) (pa_cons (pe_tup (pa_cons pe_int (pa_cons pe_int (pa_cons pe_int pa_nil)))) (pa_cons (pe_tup (pa_cons pe_int (pa_cons (pe_un un_neg pe_int) (pa_cons pe_int pa_nil)))) (pa_cons (pe_tup (pa_cons (pe_un un_neg pe_int) (pa_cons pe_int (pa_cons pe_int pa_nil)))) (pa_cons (pe_lst (pa_cons pe_int (pa_cons pe_int (pa_cons pe_int pa_nil)))) (pa_cons pe_non pa_nil))))))))))
      (pss_cons (ps_for PassesOwn.never rfl (pi_range1 (by rfl) T.m_range (pa_cons pe_int pa_nil)) (pg_name (i := 4) sc_law.nd rfl (.inl rfl)) (pss_cons (ps_set (i := 5) sc_law.nd rfl (.inl rfl) (pe_call G__law_of hr (by rfl) T.g__law_of T.k__law_of T.b__law_of .nil pass0 (pa_cons (pv 2) (pa_cons (pe_lst (pa_cons pe_int (pa_cons pe_int (pa_cons (pe_un un_neg pe_int) (pa_cons (pe_op op_pow pe_int pe_int) (pa_cons (pe_op op_add (pe_un un_neg (pe_op op_pow pe_int pe_int)) pe_int) pa_nil)))))) pa_nil))))
      (pss_cons (ps_set (i := 6) sc_law.nd rfl (.inl rfl) (pe_tup (pa_cons (pv 5) (pa_cons (pe_call G__law_of hr (by rfl) T.g__law_of T.k__law_of T.b__law_of .nil pass0 (pa_cons (pv 2) (pa_cons (pe_lst (pa_cons pe_int (pa_cons pe_int (pa_cons pe_int (pa_cons (pe_call G__law_take hr (by rfl) T.g__law_take T.k__law_take T.b__law_take .nil pass0 (pa_cons (pv 2) (pa_cons pe_int pa_nil))) pa_nil))))) pa_nil))) (pa_cons (pe_call G__law_take hr (by rfl) T.g__law_take T.k__law_take T.b__law_take .nil pass0 (pa_cons (pv 2) (pa_cons pe_int pa_nil))) pa_nil)))))
      (pss_cons (ps_set (i := 7) sc_law.nd rfl (.inl rfl) (pe_call G__law_bent hr (by rfl) T.g__law_bent T.k__law_bent T.b__law_bent .nil pass0 (pa_cons (pv 2) (pa_cons (pv 6) pa_nil))))
      (pss_cons (ps_expr (pe_bm PySem.F.plainAttrs_list PySem.F.slot_list_extend PySem.F.type_list_extend mt_extend (pv 3) (pa_cons (pe_lst (pa_cons (pv 6) (pa_cons (pe_callTy call_list_of (by rfl) T.m_list (by decide +kernel) (pa_cons (pv 6) pa_nil)) (pa_cons (pv 7) (pa_cons (pe_call G__law_odd hr (by rfl) T.g__law_odd T.k__law_odd T.b__law_odd .nil pass0 (pa_cons (pv 2) pa_nil)) pa_nil))))) pa_nil)))
      (pss_one (ps_expr (pe_bm PySem.F.plainAttrs_list PySem.F.slot_list_append PySem.F.type_list_append mt_append (pv 3) (pa_cons (pe_ifExp (pt_val (pe_callB call_isi (by rfl) T.m_isinstance (by decide +kernel) (pa_cons (pv 7) (pa_cons (pe_bltn (v := .ty "tuple") (by rfl) T.m_tuple (by decide +kernel) rfl) pa_nil)))) (pe_call G__law_bent hr (by rfl) T.g__law_bent T.k__law_bent T.b__law_bent .nil pass0 (pa_cons (pv 2) (pa_cons (pv 7) pa_nil))) (pe_tup (pa_cons (pv 7) pa_nil))) pa_nil)))))))))
      (pss_one (ps_if (pt_not (pt_val (pe_callB (cr_all rfl) (by rfl) T.m_all (by decide +kernel) (pa_cons (pe_lc (own := [("_law_item", 6)]) (g := gName 6) (tt := tYes) rfl sc_law.nd (pi_list (pv 3)) (blkOk_by (N := ["_law_script", "_law_nth", "_law_hand_here", "_law_some", "_law_turn", "_law_number", "_law_item", "_law_bent_here"]) (sc := defScope s_law) (by decide +kernel)) (fun _ _ _ _ _ => (pg_name (i := 6) sc_law.nd rfl (Or.inl rfl))) (fun _ _ _ _ _ => pts_nil) (fun _ _ _ _ _ => (pe_callG G__law_right hgd hr (by rfl) T.g__law_right T.k__law_right T.b__law_right (pa_cons (pv 6) pa_nil)))) pa_nil)))) (pss_one (ps_ret pe_bl)) pss_nil))))))
      (pss_one (ps_ret pe_bl))), ?_⟩
  have hl : (ns.map V.int).length = ns.length := List.length_map _
  have p59 : CPow 10 59 := ⟨by decide, by decide, by decide⟩
  refine ⟨_, rfl, a, _, rfl, .inl hS, _, _, rfl, _, _, rfl, rfl, _, rfl, ?_, ?_, for_range (lo := 0) (fun i σ H' => (∃ y1 y2 y3 y4 y5 y6 y7, σ = [some (.ref a), y1, y2, y3, y4, y5, y6, y7]) ∧ Same H H') ?_ ?_ ?_⟩
  · show -(2 ^ 62) ≤ 1 + (if (((ns.map V.int).length : Nat) : Int) < 3 then (((ns.map V.int).length : Nat) : Int) else 3)
    split <;> omega
  · show 1 + (if (((ns.map V.int).length : Nat) : Int) < 3 then (((ns.map V.int).length : Nat) : Int) else 3) < 2 ^ 62
    split <;> omega
  · exact ⟨⟨_, _, _, _, _, _, _, rfl⟩, Same.refl H⟩
  · rintro i σ Hs hi ⟨⟨y1, y2, y3, y4, y5, y6, y7, rfl⟩, sS⟩
    have hi4 : i ≤ 4 := by
      have hi' : i < (1 + (if (((ns.map V.int).length : Nat) : Int) < 3 then (((ns.map V.int).length : Nat) : Int) else 3)).toNat := by simpa using hi
      split at hi' <;> omega
    have e0 : (0 : Int) + (i : Int) = ((i : Nat) : Int) := Int.zero_add _
    show tSeq _ _ _ _ _
    rw [e0]
    refine ⟨_, rfl, _, rfl, a, ns, i, rfl, sS.seq hS, by omega, fun hp Ha sa nhp ga => ?_⟩
    have tH : Trk [hp] Ha := fun b hb z => by
      obtain ⟨g, m, c, e, _⟩ := ga
      rw [List.mem_singleton.mp hb, e] at z
      cases z
    -- what stands in the list ahead
    refine ⟨(by show 0 ≤ sizeLine; decide), fun p1 n1 => ?_⟩
    have e1 := same_new (o := .tup []) n1
    have t1 := tH.same e1
    refine ⟨(by show 3 ≤ sizeLine; decide), fun p2 n2 => ?_⟩
    have e2 := same_new (o := .tup [.int 0, .int 0, .int 0]) n2
    have t2 := t1.same e2
    refine ⟨(by show 3 ≤ sizeLine; decide), fun p3 n3 => ?_⟩
    have e3 := same_new (o := .tup [.int 0, .int 0, .int 1]) n3
    have t3 := t2.same e3
    refine ⟨(by show 3 ≤ sizeLine; decide), fun p4 n4 => ?_⟩
    have e4 := same_new (o := .tup [.int 0, .int 0, .int 2]) n4
    have t4 := t3.same e4
    refine ⟨_, rfl, (by show 3 ≤ sizeLine; decide), fun p5 n5 => ?_⟩
    have e5 := same_new (o := .tup [.int 0, .int (-1), .int 0]) n5
    have t5 := t4.same e5
    refine ⟨_, rfl, (by show 3 ≤ sizeLine; decide), fun p6 n6 => ?_⟩
    have e6 := same_new (o := .tup [.int (-1), .int 0, .int 0]) n6
    have t6 := t5.same e6
    refine ⟨(by show 3 ≤ sizeLine; decide), fun p7 n7 => ?_⟩
    have e7 := same_new (o := .lst [.int 0, .int 0, .int 0]) n7
    have t7 := t6.same e7
    refine ⟨(by show 8 ≤ sizeLine; decide), fun sl nsl => ?_⟩
    have e8 := same_new (o := .lst [.ref p1, .ref p2, .ref p3, .ref p4, .ref p5, .ref p6, .ref p7, .non]) nsl
    have t8 := t7.same e8
    have s78 := e7.trans e8
    have s68 := e6.trans s78
    have s58 := e5.trans s68
    have s48 := e4.trans s58
    have s38 := e3.trans s48
    have s28 := e2.trans s38
    have s18 := e1.trans s28
    have f1 := (e2.trans (e3.trans (e4.trans (e5.trans (e6.trans e7))))) _ _ (upd_same (H := Ha) (a := p1) (o := .tup []))
    have nslhp : sl ≠ hp := fun z => (t7.new nsl) (by rw [z]; exact List.mem_singleton_self _)
    have apart : ∀ {p : Addr} {o : HO}, p ≠ hp → (upd (upd (upd (upd (upd (upd (upd Ha p1 (.tup [])) p2 (.tup [.int 0, .int 0, .int 0])) p3 (.tup [.int 0, .int 0, .int 1])) p4 (.tup [.int 0, .int 0, .int 2])) p5 (.tup [.int 0, .int (-1), .int 0])) p6 (.tup [.int (-1), .int 0, .int 0])) p7 (.lst [.int 0, .int 0, .int 0])) p = some o →
        remL [hp, sl] (upd (upd (upd (upd (upd (upd (upd (upd Ha p1 (.tup [])) p2 (.tup [.int 0, .int 0, .int 0])) p3 (.tup [.int 0, .int 0, .int 1])) p4 (.tup [.int 0, .int 0, .int 2])) p5 (.tup [.int 0, .int (-1), .int 0])) p6 (.tup [.int (-1), .int 0, .int 0])) p7 (.lst [.int 0, .int 0, .int 0])) sl (.lst [.ref p1, .ref p2, .ref p3, .ref p4, .ref p5, .ref p6, .ref p7, .non])) p = some o := by
      intro p o n e
      rw [remL_ne, e8 _ _ e]
      intro z
      rcases List.mem_cons.mp z with z | z
      · exact n z
      · rw [List.mem_singleton.mp z, nsl] at e
        cases e
    have np : ∀ {p : Addr} {H' : Hp}, Trk [hp] H' → H' p = none → p ≠ hp := fun t e z => (t.new e) (by rw [z]; exact List.mem_singleton_self _)
    have g1 := apart (np tH n1) f1
    have g2 := apart (np t1 n2) ((e3.trans (e4.trans (e5.trans (e6.trans e7)))) _ _ upd_same)
    have g3 := apart (np t2 n3) ((e4.trans (e5.trans (e6.trans e7))) _ _ upd_same)
    have g4 := apart (np t3 n4) ((e5.trans (e6.trans e7)) _ _ upd_same)
    have g5 := apart (np t4 n5) ((e6.trans e7) _ _ upd_same)
    have g6 := apart (np t5 n6) (e7 _ _ upd_same)
    have g7 := apart (np t6 n7) upd_same
    have z0 : (0 : Int).natAbs < 10 ^ 62 := by decide +kernel
    have z1 : (1 : Int).natAbs < 10 ^ 62 := by decide +kernel
    have z2 : (2 : Int).natAbs < 10 ^ 62 := by decide +kernel
    have zm : (-1 : Int).natAbs < 10 ^ 62 := by decide +kernel
    have first : ∀ v ∈ [V.ref p1, .ref p2, .ref p3, .ref p4, .ref p5, .ref p6, .ref p7, .non], Good [hp, sl] (upd (upd (upd (upd (upd (upd (upd (upd Ha p1 (.tup [])) p2 (.tup [.int 0, .int 0, .int 0])) p3 (.tup [.int 0, .int 0, .int 1])) p4 (.tup [.int 0, .int 0, .int 2])) p5 (.tup [.int 0, .int (-1), .int 0])) p6 (.tup [.int (-1), .int 0, .int 0])) p7 (.lst [.int 0, .int 0, .int 0])) sl (.lst [.ref p1, .ref p2, .ref p3, .ref p4, .ref p5, .ref p6, .ref p7, .non])) v := by
      intro v hv
      simp only [List.mem_cons, List.not_mem_nil, or_false] at hv
      rcases hv with e | e | e | e | e | e | e | e
      · subst e; exact ⟨.tuple [], true, .tup g1 .nil, fun _ => rfl, (Bd.flat0 (n := 1) (m := 1) (.inr (.inr (.inr (.inr (.inl rfl))))) (by decide) (by decide)).ok (by decide) (by decide)⟩
      · subst e; exact good3 g2 z0 z0 z0
      · subst e; exact good3 g3 z0 z0 z1
      · subst e; exact good3 g4 z0 z0 z2
      · subst e; exact good3 g5 z0 zm z0
      · subst e; exact good3 g6 zm z0 z0
      · subst e; exact good3L g7 z0 z0 z0
      · subst e; exact ⟨.none, true, .non, fun _ => rfl, (Bd.flat0 (n := 1) (m := 1) (.inl rfl) (by decide) (by decide)).ok (by decide) (by decide)⟩
    have tA : Trk [hp, sl] (upd (upd (upd (upd (upd (upd (upd (upd Ha p1 (.tup [])) p2 (.tup [.int 0, .int 0, .int 0])) p3 (.tup [.int 0, .int 0, .int 1])) p4 (.tup [.int 0, .int 0, .int 2])) p5 (.tup [.int 0, .int (-1), .int 0])) p6 (.tup [.int (-1), .int 0, .int 0])) p7 (.lst [.int 0, .int 0, .int 0])) sl (.lst [.ref p1, .ref p2, .ref p3, .ref p4, .ref p5, .ref p6, .ref p7, .non])) := by
      intro b hb z
      rcases List.mem_cons.mp hb with e | e
      · rw [e] at z
        exact t8 hp (List.mem_singleton_self _) z
      · rw [List.mem_singleton.mp e, upd_same] at z
        cases z
    have hsl0 : (upd (upd (upd (upd (upd (upd (upd (upd Ha p1 (.tup [])) p2 (.tup [.int 0, .int 0, .int 0])) p3 (.tup [.int 0, .int 0, .int 1])) p4 (.tup [.int 0, .int 0, .int 2])) p5 (.tup [.int 0, .int (-1), .int 0])) p6 (.tup [.int (-1), .int 0, .int 0])) p7 (.lst [.int 0, .int 0, .int 0])) sl (.lst [.ref p1, .ref p2, .ref p3, .ref p4, .ref p5, .ref p6, .ref p7, .non])) sl = some (.lst [.ref p1, .ref p2, .ref p3, .ref p4, .ref p5, .ref p6, .ref p7, .non]) := upd_same
    have ga8 := ga.same s18
    have sS8 := sa.trans s18
    have nslHs : Hs sl = none := by
      have := (e1.trans (e2.trans (e3.trans (e4.trans (e5.trans (e6.trans e7)))))).free nsl
      exact sa.free this
    clear g1 g2 g3 g4 g5 g6 g7 apart np f1
    generalize (upd (upd (upd (upd (upd (upd (upd (upd Ha p1 (.tup [])) p2 (.tup [.int 0, .int 0, .int 0])) p3 (.tup [.int 0, .int 0, .int 1])) p4 (.tup [.int 0, .int 0, .int 2])) p5 (.tup [.int 0, .int (-1), .int 0])) p6 (.tup [.int (-1), .int 0, .int 0])) p7 (.lst [.int 0, .int 0, .int 0])) sl (.lst [.ref p1, .ref p2, .ref p3, .ref p4, .ref p5, .ref p6, .ref p7, .non])) = H8 at first tA hsl0 ga8 sS8 ⊢
    refine ⟨_, rfl, by decide, by decide, for_range (lo := 0) (fun j σ H' => (∃ y4 y5 y6 y7, σ = [some (.ref a), some (.int (i : Int)), some (.ref hp), some (.ref sl), y4, y5, y6, y7]) ∧ Same Hs H' ∧ Hd H' hp (100 * j) ∧ Trk [hp, sl] H' ∧
      ∃ vs, H' sl = some (.lst vs) ∧ vs.length ≤ 8 + 5 * j ∧ ∀ v ∈ vs, Good [hp, sl] H' v) ?_ ?_ ?_⟩
    · exact ⟨⟨_, _, _, _, rfl⟩, sS8, ga8, tA, _, hsl0, Nat.le_refl 8, first⟩
    · clear first tA hsl0 ga8 sS8
      rintro j σ H' hj ⟨⟨y4, y5, y6, y7, rfl⟩, sH, hg, tr, vs, hvs, hlen, hgood⟩
      have hmem : hp ∈ [hp, sl] := List.mem_cons_self
      have hmem2 : sl ∈ [hp, sl] := List.mem_cons_of_mem _ List.mem_cons_self
      have notas : ∀ {p : Addr} {H1 : Hp}, Trk [hp, sl] H1 → H1 p = none → p ≠ hp := fun t e z => (t.new e) (z ▸ hmem)
      -- the number
      refine ⟨_, rfl, _, rfl, _, _, rfl, rfl, p59, _, _, rfl, rfl, p59, _, rfl, _, _, rfl, rfl, (by show 5 ≤ sizeLine; decide), fun q1 m1 => ?_⟩
      have s1 := same_new (o := .lst [.int 0, .int 5, .int (-7), .int ((10 : Int) ^ (59 : Int).toNat), .int (-((10 : Int) ^ (59 : Int).toNat) + 1)]) m1
      refine ⟨hp, q1, 100 * j, _, rfl, hg.same s1, by omega, upd_same, notas tr m1, (by decide), (by decide), fun v1 H1 hv1 d1 k1 => ?_⟩
      obtain ⟨num, rfl, hnum⟩ : ∃ num : Int, v1 = .int num ∧ num.natAbs < 10 ^ 62 := by
        simp only [List.mem_cons, List.not_mem_nil, or_false] at hv1
        rcases hv1 with e | e | e | e | e
        · exact ⟨_, e, by decide +kernel⟩
        · exact ⟨_, e, by decide +kernel⟩
        · exact ⟨_, e, by decide +kernel⟩
        · exact ⟨_, e, by decide +kernel⟩
        · exact ⟨_, e, by decide +kernel⟩
      have q01 : Kq [hp, sl] H' H1 := (Kq.of_same s1).trans (Kq.of_kp hmem k1)
      have tr1 := (tr.same s1).kp k1 d1
      -- the item
      refine ⟨_, rfl, _, rfl, _, rfl, hp, 100 * j + 1, 300, rfl, d1, by omega, by decide, by decide, fun r2 H2 hr2 g2 k2 => ?_⟩
      have tr2 := tr1.kp k2 g2
      refine ⟨(by show 4 ≤ sizeLine; decide), fun q2 m2 => ?_⟩
      have s3 := same_new (o := .lst [.int 0, .int 1, .int 299, .int (r2 : Int)]) m2
      refine ⟨hp, q2, 100 * j + 1 + 1, _, rfl, g2.same s3, by omega, upd_same, notas tr2 m2, (by show 0 < 4; decide), (by show 4 ≤ 1000; decide), fun v3 H3 hv3 d3 k3 => ?_⟩
      obtain ⟨sec, rfl, hsec⟩ : ∃ sec : Int, v3 = .int sec ∧ sec.natAbs < 10 ^ 62 := by
        simp only [List.mem_cons, List.not_mem_nil, or_false] at hv3
        rcases hv3 with e | e | e | e
        · exact ⟨_, e, by decide +kernel⟩
        · exact ⟨_, e, by decide +kernel⟩
        · exact ⟨_, e, by decide +kernel⟩
        · exact ⟨_, e, Nat.lt_trans (show ((r2 : Nat) : Int).natAbs < 300 by omega) (by decide +kernel)⟩
      have tr3 := (tr2.same s3).kp k3 d3
      refine ⟨_, rfl, hp, 100 * j + 1 + 1 + 1, 2, rfl, d3, by omega, by decide, by decide, fun r4 H4 hr4 g4 k4 => ?_⟩
      have hr4' : ((r4 : Nat) : Int).natAbs < 10 ^ 62 := Nat.lt_trans (show ((r4 : Nat) : Int).natAbs < 2 by omega) (by decide +kernel)
      have tr4 := tr3.kp k4 g4
      refine ⟨(by show 3 ≤ sizeLine; decide), fun it nit => ?_⟩
      have s5 := same_new (o := .tup [.int num, .int sec, .int (r4 : Int)]) nit
      have tr5 := tr4.same s5
      have q15 : Kq [hp, sl] H1 (upd H4 it (.tup [.int num, .int sec, .int (r4 : Int)])) :=
        (Kq.of_kp hmem k2).trans ((Kq.of_same s3).trans ((Kq.of_kp hmem k3).trans ((Kq.of_kp hmem k4).trans (Kq.of_same s5))))
      have q05 := q01.trans q15
      have tpI : Tp [hp, sl] (upd H4 it (.tup [.int num, .int sec, .int (r4 : Int)])) it [.int num, .int sec, .int (r4 : Int)] :=
        ⟨tr4.new nit, _, upd_same, .cons (.int _) (.cons (.int _) (.cons (.int _) .nil))⟩
      have hsl5 : (upd H4 it (.tup [.int num, .int sec, .int (r4 : Int)])) sl = some (.lst vs) :=
        s5 _ _ (k4 _ _ nslhp (k3 _ _ nslhp (s3 _ _ (k2 _ _ nslhp (k1 _ _ nslhp (s1 _ _ hvs))))))
      have g5 := g4.same s5
      generalize upd H4 it (.tup [.int num, .int sec, .int (r4 : Int)]) = H5 at s5 tr5 q15 q05 tpI hsl5 g5 ⊢
      -- bent
      refine ⟨_, rfl, _, rfl, hp, 100 * j + 1 + 1 + 1 + 1, [hp, sl], it, _, 1, 633, rfl, g5, by omega, hmem, tr5, tpI, (bd3 hnum hsec hr4').mono (by decide) (Nat.le_refl _), Nat.le_refl 1, (by show 3 ≤ 1000; decide), fun c es H6 tpC baC lenC g6 k6 => ?_⟩
      have tr6 := tr5.kp k6 g6
      have q06 := q05.trans (Kq.of_kp hmem k6)
      have tpI6 := tpI.kp hmem k6
      have hsl6 := k6 _ _ nslhp hsl5
      obtain ⟨nit6, xit, eit, dit⟩ := id tpI6
      -- extend
      refine ⟨_, rfl, .inl ⟨rfl, _, SqL.of hsl6⟩, _, rfl, _, rfl, it, xit, rfl, .inr (SqT.of eit), fun li nli => ?_⟩
      have s7 := same_new (o := .lst xit) nli
      have tr7 := tr6.same s7
      refine ⟨_, rfl, _, rfl, hp, 100 * j + 1 + 1 + 1 + 1 + 5, [hp, sl], rfl, g6.same s7, by omega, hmem, tr7, fun vo dO H8 hdo hbo g8 k8 => ?_⟩
      have tr8 := tr7.kp k8 g8
      have q68 : Kq [hp, sl] H6 H8 := (Kq.of_same s7).trans (Kq.of_kp hmem k8)
      have q08 := q06.trans q68
      have eli : H8 li = some (.lst xit) := k8 _ _ (notas tr6 nli) upd_same
      have hsl8 : H8 sl = some (.lst vs) := k8 _ _ nslhp (s7 _ _ hsl6)
      have tpI8 := tp_kq tpI6 q68
      have tpC8 := tp_kq tpC q68
      refine ⟨(by show 4 ≤ sizeLine; decide), fun tl ntl => ?_⟩
      have s9 := same_new (o := .lst [.ref it, .ref li, .ref c, vo]) ntl
      have hsl9 := s9 _ _ hsl8
      refine ⟨sl, tl, vs, _, rfl, rfl, hsl9, upd_same, (by show vs.length + 4 ≤ sizeLine; exact Nat.le_trans (show vs.length + 4 ≤ 1000 by omega) (by decide)), ?_⟩
      have hslX : (upd (upd H8 tl (.lst [.ref it, .ref li, .ref c, vo])) sl (.lst (vs ++ [.ref it, .ref li, .ref c, vo]))) sl = some (.lst (vs ++ [.ref it, .ref li, .ref c, vo])) := upd_same
      have q8X : Kq [hp, sl] H8 (upd (upd H8 tl (.lst [.ref it, .ref li, .ref c, vo])) sl (.lst (vs ++ [.ref it, .ref li, .ref c, vo]))) := (Kq.of_same s9).trans (Kq.at hmem2)
      have gX : Hd (upd (upd H8 tl (.lst [.ref it, .ref li, .ref c, vo])) sl (.lst (vs ++ [.ref it, .ref li, .ref c, vo]))) hp (100 * j + 1 + 1 + 1 + 1 + 5 + 30) := by
        obtain ⟨g, m, cc, e, r⟩ := g8
        exact ⟨g, m, cc, by rw [upd_ne nslhp.symm]; exact s9 _ _ e, r⟩
      have trX : Trk [hp, sl] (upd (upd H8 tl (.lst [.ref it, .ref li, .ref c, vo])) sl (.lst (vs ++ [.ref it, .ref li, .ref c, vo]))) := fun b hb z => by
        rcases List.mem_cons.mp hb with e | e
        · obtain ⟨g, m, cc, e', _⟩ := gX
          rw [e, e'] at z
          cases z
        · rw [List.mem_singleton.mp e, upd_same] at z
          cases z
      generalize (upd (upd H8 tl (.lst [.ref it, .ref li, .ref c, vo])) sl (.lst (vs ++ [.ref it, .ref li, .ref c, vo]))) = HX at hslX q8X gX trX ⊢
      have q0X := q08.trans q8X
      have tpCX := tp_kq tpC8 q8X
      have goodX : ∀ v ∈ vs ++ [.ref it, .ref li, .ref c, vo], Good [hp, sl] HX v := by
        intro v hv
        rcases List.mem_append.mp hv with hv | hv
        · exact (hgood v hv).same q0X.remL
        · simp only [List.mem_cons, List.not_mem_nil, or_false] at hv
          rcases hv with e | e | e | e
          · subst e
            exact goodB (tp_kq tpI8 q8X).d ((bd3 hnum hsec hr4').tuple) (by decide) (by decide)
          · subst e
            refine ⟨.list [.int num, .int sec, .int (r4 : Int)], false, .lst (xs := xit) ?_ (fun q => nomatch q) ((dit.same q68.remL).same q8X.remL).weak, (by intro h; simp [PyData.hasDict, PyData.hasDictAll] at h), ((bd3 hnum hsec hr4').list).ok (by decide) (by decide)⟩
            rw [remL_ne (tr6.new nli)]
            exact q8X _ _ (tr6.new nli) eli
          · subst e
            exact goodB tpCX.d baC.tuple (by decide) (by decide)
          · subst e
            exact goodB (hdo.same q8X.remL) hbo (by decide) (by decide)
      -- append
      refine ⟨_, rfl, .inl ⟨rfl, _, SqL.of hslX⟩, _, rfl, .ref c, _, _, _, _, rfl, .ty _, (tpCX.d.same remL_same).ty, kit_tup (.tuple es), _, rfl, iteT ?_⟩
      refine ⟨_, rfl, _, rfl, hp, 100 * j + 1 + 1 + 1 + 1 + 5 + 30, [hp, sl], c, es, 2, _, rfl, gX, by omega, hmem, trX, tpCX, baC, by decide, Nat.le_trans lenC (by show 3 * 3 + 1 ≤ 1000; decide), fun c2 es2 HY tp2 ba2 len2 gY kY => ?_⟩
      have hslY := kY _ _ nslhp hslX
      refine ⟨sl, _, _, rfl, rfl, hslY, (by rw [List.length_append]; show vs.length + 4 < sizeLine; exact Nat.lt_of_le_of_lt (show vs.length + 4 ≤ 1000 by omega) (by decide)), ?_⟩
      have qXZ : Kq [hp, sl] HX (upd HY sl (.lst ((vs ++ [.ref it, .ref li, .ref c, vo]) ++ [.ref c2]))) := (Kq.of_kp hmem kY).trans (Kq.at hmem2)
      have qYZ : Kq [hp, sl] HY (upd HY sl (.lst ((vs ++ [.ref it, .ref li, .ref c, vo]) ++ [.ref c2]))) := Kq.at hmem2
      have gZ : Hd (upd HY sl (.lst ((vs ++ [.ref it, .ref li, .ref c, vo]) ++ [.ref c2]))) hp (100 * (j + 1)) := by
        obtain ⟨g, m, cc, e, r1, r2, r3, r4⟩ := gY
        exact ⟨g, m, cc, by rw [upd_ne nslhp.symm]; exact e, r1, r2, r3, by omega⟩
      refine ⟨⟨_, _, _, _, rfl⟩, (q0X.trans qXZ).onto sH ?_, gZ, ?_, _, upd_same, ?_, ?_⟩
      · intro b hb
        rcases List.mem_cons.mp hb with e | e
        · rw [e]
          exact nhp
        · rw [List.mem_singleton.mp e]
          exact nslHs
      · intro b hb z
        rcases List.mem_cons.mp hb with e | e
        · obtain ⟨g, m, cc, e', _⟩ := gZ
          rw [e, e'] at z
          cases z
        · rw [List.mem_singleton.mp e, upd_same] at z
          cases z
      · rw [List.length_append, List.length_append]
        show vs.length + 4 + 1 ≤ _
        omega
      · intro v hv
        rcases List.mem_append.mp hv with hv | hv
        · exact (goodX v hv).same qXZ.remL
        · rw [List.mem_singleton.mp hv]
          exact goodB (tp_kq tp2 qYZ).d ba2.tuple (by decide) (by decide)
    · rintro σ H' ⟨⟨y4, y5, y6, y7, rfl⟩, sH, hg, tr, vs, hvs, hlen, hgood⟩
      refine ⟨_, rfl, sl, rfl, ⟨_, SqL.of hvs⟩, fun ll nll => lc_list (xs := vs) (fun j H1 => Same H' H1 ∧ H1 ll = some (.lst (List.replicate j (V.bl true)))) ?_ ?_ ?_ ?_⟩
      · exact ⟨same_new nll, upd_same⟩
      · rintro j H1 _ ⟨s1, _⟩
        exact SqL.of (s1 _ _ hvs)
      · rintro j x H1 hx ⟨s1, e1⟩
        obtain ⟨d, f, hd, hf, ok⟩ := hgood x (List.mem_of_getElem? hx)
        refine ⟨rfl, ?_⟩
        dsimp only [tYes]
        refine iteT ?_
        refine ⟨_, rfl, x, d, f, rfl, (hd.same remL_same).same s1, hf, ok, fun H2 s2 => ⟨_, s2 _ _ e1, ?_, ?_, ?_⟩⟩
        · have hj := (List.getElem?_eq_some_iff.mp hx).1
          rw [List.length_replicate]
          exact Nat.lt_of_le_of_lt (show j ≤ 1000 by omega) (by decide)
        · intro b o e
          have nb : b ≠ ll := fun z => by
            rw [z, nll] at e
            cases e
          rw [upd_ne nb]
          exact s2 _ _ (s1 _ _ e)
        · rw [upd_same, List.replicate_succ']
      · rintro H1 ⟨s1, e1⟩
        have e2 : List.replicate vs.length (V.bl true) = (List.replicate vs.length true).map V.bl := by rw [List.map_replicate]
        rw [e2] at e1
        refine ⟨ll, List.replicate vs.length true, rfl, SqL.of e1, _, rfl, ?_⟩
        have e3 : (List.replicate vs.length true).all id = true := by
          rw [List.all_eq_true]
          intro x hx
          exact (List.mem_replicate.mp hx).2
        rw [e3]
        exact iteF ⟨⟨_, _, _, _, _, _, _, rfl⟩, sS.trans (sH.trans s1)⟩
  · rintro σ H' ⟨_, _⟩
    exact q H'
end

end Z

namespace Z
open PySem PySem.Spec PyProof.Rows L2 Lw
theorem all_mk {l : PySem.W.OpenLaw} {w : World} {K : PySem.W.Frag} {h : Heap} {mg : Str → Option Value} {fa f0 f1 f2 f3 f4 f5 f6 f7 f8 f9 f10 f11 f12 f13 : Addr} {od0 an0 od1 an1 od2 an2 od3 an3 od4 an4 od5 an5 od6 an6 od7 an7 od8 an8 od9 an9 od10 an10 od11 an11 od12 an12 od13 an13 : Option Addr} {sl0 sl1 sl2 sl3 sl4 sl5 sl6 sl7 sl8 sl9 sl10 sl11 sl12 sl13 : Array (Option Value)} {oc0 kV0 dc0 pm0 cd0 ct0 oc1 kV1 dc1 pm1 cd1 ct1 oc2 kV2 dc2 pm2 cd2 ct2 oc3 kV3 dc3 pm3 cd3 ct3 oc4 kV4 dc4 pm4 cd4 ct4 oc5 kV5 dc5 pm5 cd5 ct5 oc6 kV6 dc6 pm6 cd6 ct6 oc7 kV7 dc7 pm7 cd7 ct7 oc8 kV8 dc8 pm8 cd8 ct8 oc9 kV9 dc9 pm9 cd9 ct9 oc10 kV10 dc10 pm10 cd10 ct10 oc11 kV11 dc11 pm11 cd11 ct11 oc12 kV12 dc12 pm12 cd12 ct12 oc13 kV13 dc13 pm13 cd13 ct13 : Value}
    (X : K.In h) (G : h.Ns mainGlobals mg) (hfa : mg "law" = some (.ref fa))
    (a0 : PySem.W.nsIn K mainGlobals "is_whole" = some (some (.ref f0)))
    (l0 : K.lookup f0 = some ⟨oc0, od0, .func (PySem.W.fnOf "is_whole" "is_whole" (defArgs s_is_whole) (defBody s_is_whole) (defScope s_is_whole) .none kV0 dc0 pm0 an0 cd0 ct0), sl0⟩)
    (c0 : PySem.W.codeIn K cd0 "is_whole" = true) (k0 : PySem.W.keepIn K (.ref f0) = true)
    (a1 : PySem.W.nsIn K mainGlobals "is_within" = some (some (.ref f1)))
    (l1 : K.lookup f1 = some ⟨oc1, od1, .func (PySem.W.fnOf "is_within" "is_within" (defArgs s_is_within) (defBody s_is_within) (defScope s_is_within) .none kV1 dc1 pm1 an1 cd1 ct1), sl1⟩)
    (c1 : PySem.W.codeIn K cd1 "is_within" = true) (k1 : PySem.W.keepIn K (.ref f1) = true)
    (a2 : PySem.W.nsIn K mainGlobals "is_bit" = some (some (.ref f2)))
    (l2 : K.lookup f2 = some ⟨oc2, od2, .func (PySem.W.fnOf "is_bit" "is_bit" (defArgs s_is_bit) (defBody s_is_bit) (defScope s_is_bit) .none kV2 dc2 pm2 an2 cd2 ct2), sl2⟩)
    (c2 : PySem.W.codeIn K cd2 "is_bit" = true) (k2 : PySem.W.keepIn K (.ref f2) = true)
    (a3 : PySem.W.nsIn K mainGlobals "is_row" = some (some (.ref f3)))
    (l3 : K.lookup f3 = some ⟨oc3, od3, .func (PySem.W.fnOf "is_row" "is_row" (defArgs s_is_row) (defBody s_is_row) (defScope s_is_row) .none kV3 dc3 pm3 an3 cd3 ct3), sl3⟩)
    (c3 : PySem.W.codeIn K cd3 "is_row" = true) (k3 : PySem.W.keepIn K (.ref f3) = true)
    (a4 : PySem.W.nsIn K mainGlobals "is_note" = some (some (.ref f4)))
    (l4 : K.lookup f4 = some ⟨oc4, od4, .func (PySem.W.fnOf "is_note" "is_note" (defArgs s_is_note) (defBody s_is_note) (defScope s_is_note) .none kV4 dc4 pm4 an4 cd4 ct4), sl4⟩)
    (c4 : PySem.W.codeIn K cd4 "is_note" = true) (k4 : PySem.W.keepIn K (.ref f4) = true)
    (a5 : PySem.W.nsIn K mainGlobals "_law_hand" = some (some (.ref f5)))
    (l5 : K.lookup f5 = some ⟨oc5, od5, .func (PySem.W.fnOf "_law_hand" "_law_hand" (defArgs s__law_hand) (defBody s__law_hand) (defScope s__law_hand) .none kV5 dc5 pm5 an5 cd5 ct5), sl5⟩)
    (c5 : PySem.W.codeIn K cd5 "_law_hand" = true) (k5 : PySem.W.keepIn K (.ref f5) = true)
    (a6 : PySem.W.nsIn K mainGlobals "_law_take" = some (some (.ref f6)))
    (l6 : K.lookup f6 = some ⟨oc6, od6, .func (PySem.W.fnOf "_law_take" "_law_take" (defArgs s__law_take) (defBody s__law_take) (defScope s__law_take) .none kV6 dc6 pm6 an6 cd6 ct6), sl6⟩)
    (c6 : PySem.W.codeIn K cd6 "_law_take" = true) (k6 : PySem.W.keepIn K (.ref f6) = true)
    (a7 : PySem.W.nsIn K mainGlobals "_law_of" = some (some (.ref f7)))
    (l7 : K.lookup f7 = some ⟨oc7, od7, .func (PySem.W.fnOf "_law_of" "_law_of" (defArgs s__law_of) (defBody s__law_of) (defScope s__law_of) .none kV7 dc7 pm7 an7 cd7 ct7), sl7⟩)
    (c7 : PySem.W.codeIn K cd7 "_law_of" = true) (k7 : PySem.W.keepIn K (.ref f7) = true)
    (a8 : PySem.W.nsIn K mainGlobals "_law_due" = some (some (.ref f8)))
    (l8 : K.lookup f8 = some ⟨oc8, od8, .func (PySem.W.fnOf "_law_due" "_law_due" (defArgs s__law_due) (defBody s__law_due) (defScope s__law_due) .none kV8 dc8 pm8 an8 cd8 ct8), sl8⟩)
    (c8 : PySem.W.codeIn K cd8 "_law_due" = true) (k8 : PySem.W.keepIn K (.ref f8) = true)
    (a9 : PySem.W.nsIn K mainGlobals "_law_part" = some (some (.ref f9)))
    (l9 : K.lookup f9 = some ⟨oc9, od9, .func (PySem.W.fnOf "_law_part" "_law_part" (defArgs s__law_part) (defBody s__law_part) (defScope s__law_part) .none kV9 dc9 pm9 an9 cd9 ct9), sl9⟩)
    (c9 : PySem.W.codeIn K cd9 "_law_part" = true) (k9 : PySem.W.keepIn K (.ref f9) = true)
    (a10 : PySem.W.nsIn K mainGlobals "_law_bent" = some (some (.ref f10)))
    (l10 : K.lookup f10 = some ⟨oc10, od10, .func (PySem.W.fnOf "_law_bent" "_law_bent" (defArgs s__law_bent) (defBody s__law_bent) (defScope s__law_bent) .none kV10 dc10 pm10 an10 cd10 ct10), sl10⟩)
    (c10 : PySem.W.codeIn K cd10 "_law_bent" = true) (k10 : PySem.W.keepIn K (.ref f10) = true)
    (a11 : PySem.W.nsIn K mainGlobals "_law_odd" = some (some (.ref f11)))
    (l11 : K.lookup f11 = some ⟨oc11, od11, .func (PySem.W.fnOf "_law_odd" "_law_odd" (defArgs s__law_odd) (defBody s__law_odd) (defScope s__law_odd) .none kV11 dc11 pm11 an11 cd11 ct11), sl11⟩)
    (c11 : PySem.W.codeIn K cd11 "_law_odd" = true) (k11 : PySem.W.keepIn K (.ref f11) = true)
    (a12 : PySem.W.nsIn K mainGlobals "_law_right" = some (some (.ref f12)))
    (l12 : K.lookup f12 = some ⟨oc12, od12, .func (PySem.W.fnOf "_law_right" "_law_right" (defArgs s__law_right) (defBody s__law_right) (defScope s__law_right) .none kV12 dc12 pm12 an12 cd12 ct12), sl12⟩)
    (c12 : PySem.W.codeIn K cd12 "_law_right" = true) (k12 : PySem.W.keepIn K (.ref f12) = true)
    (a13 : PySem.W.nsIn K mainGlobals "law" = some (some (.ref f13)))
    (l13 : K.lookup f13 = some ⟨oc13, od13, .func (PySem.W.fnOf "law" "law" (defArgs s_law) (defBody s_law) (defScope s_law) .none kV13 dc13 pm13 an13 cd13 ct13), sl13⟩)
    (c13 : PySem.W.codeIn K cd13 "law" = true) (k13 : PySem.W.keepIn K (.ref f13) = true)
    (z0 : PySem.W.nsIn K mainGlobals "abs" = some none)
    (z1 : PySem.W.nsIn K mainGlobals "all" = some none)
    (z2 : PySem.W.nsIn K mainGlobals "bool" = some none)
    (z3 : PySem.W.nsIn K mainGlobals "int" = some none)
    (z4 : PySem.W.nsIn K mainGlobals "isinstance" = some none)
    (z5 : PySem.W.nsIn K mainGlobals "len" = some none)
    (z6 : PySem.W.nsIn K mainGlobals "list" = some none)
    (z7 : PySem.W.nsIn K mainGlobals "min" = some none)
    (z8 : PySem.W.nsIn K mainGlobals "range" = some none)
    (z9 : PySem.W.nsIn K mainGlobals "repr" = some none)
    (z10 : PySem.W.nsIn K mainGlobals "tuple" = some none) :
    ∃ fd : FuncData, (∀ (s : Shared) (v : Value), BindsTo s fd ⟨[v], []⟩ [("_law_script", v)]) ∧ ∀ base : Heap, K.In base → base.Ns mainGlobals mg → FnG l.prog w K mg base 6 fa fd ["_law_script"] (sp_law K) := by
  have e := hfa.symm.trans (PySem.W.mg_of X G a13)
  cases e
  have F0 := fun_mk (st := s_is_whole) l0 c0 k0
  have b0 := F0.binds (ps := ["thing"]) fun _ _ _ _ _ _ us hl => match us, hl with | [_], _ => rfl
  have F1 := fun_mk (st := s_is_within) l1 c1 k1
  have b1 := F1.binds (ps := ["thing", "least", "most"]) fun _ _ _ _ _ _ us hl => match us, hl with | [_, _, _], _ => rfl
  have F2 := fun_mk (st := s_is_bit) l2 c2 k2
  have b2 := F2.binds (ps := ["thing"]) fun _ _ _ _ _ _ us hl => match us, hl with | [_], _ => rfl
  have F3 := fun_mk (st := s_is_row) l3 c3 k3
  have b3 := F3.binds (ps := ["thing", "least", "most"]) fun _ _ _ _ _ _ us hl => match us, hl with | [_, _, _], _ => rfl
  have F4 := fun_mk (st := s_is_note) l4 c4 k4
  have b4 := F4.binds (ps := ["thing"]) fun _ _ _ _ _ _ us hl => match us, hl with | [_], _ => rfl
  have F5 := fun_mk (st := s__law_hand) l5 c5 k5
  have b5 := F5.binds (ps := ["_law_script", "_law_nth"]) fun _ _ _ _ _ _ us hl => match us, hl with | [_, _], _ => rfl
  have F6 := fun_mk (st := s__law_take) l6 c6 k6
  have b6 := F6.binds (ps := ["_law_hand_here", "_law_upon"]) fun _ _ _ _ _ _ us hl => match us, hl with | [_, _], _ => rfl
  have F7 := fun_mk (st := s__law_of) l7 c7 k7
  have b7 := F7.binds (ps := ["_law_hand_here", "_law_some"]) fun _ _ _ _ _ _ us hl => match us, hl with | [_, _], _ => rfl
  have F8 := fun_mk (st := s__law_due) l8 c8 k8
  have b8 := F8.binds (ps := ["_law_item"]) fun _ _ _ _ _ _ us hl => match us, hl with | [_], _ => rfl
  have F9 := fun_mk (st := s__law_part) l9 c9 k9
  have b9 := F9.binds (ps := ["_law_hand_here"]) fun _ _ _ _ _ _ us hl => match us, hl with | [_], _ => rfl
  have F10 := fun_mk (st := s__law_bent) l10 c10 k10
  have b10 := F10.binds (ps := ["_law_hand_here", "_law_item"]) fun _ _ _ _ _ _ us hl => match us, hl with | [_, _], _ => rfl
  have F11 := fun_mk (st := s__law_odd) l11 c11 k11
  have b11 := F11.binds (ps := ["_law_hand_here"]) fun _ _ _ _ _ _ us hl => match us, hl with | [_], _ => rfl
  have F12 := fun_mk (st := s__law_right) l12 c12 k12
  have b12 := F12.binds (ps := ["_law_item"]) fun _ _ _ _ _ _ us hl => match us, hl with | [_], _ => rfl
  have F13 := fun_mk (st := s_law) l13 c13 k13
  have b13 := F13.binds (ps := ["_law_script"]) fun _ _ _ _ _ _ us hl => match us, hl with | [_], _ => rfl
  let T : Txt K mg := {
    f_is_whole := f0, fd_is_whole := _, F_is_whole := F0, g_is_whole := PySem.W.mg_of X G a0, b_is_whole := b0,
    f_is_within := f1, fd_is_within := _, F_is_within := F1, g_is_within := PySem.W.mg_of X G a1, b_is_within := b1,
    f_is_bit := f2, fd_is_bit := _, F_is_bit := F2, g_is_bit := PySem.W.mg_of X G a2, b_is_bit := b2,
    f_is_row := f3, fd_is_row := _, F_is_row := F3, g_is_row := PySem.W.mg_of X G a3, b_is_row := b3,
    f_is_note := f4, fd_is_note := _, F_is_note := F4, g_is_note := PySem.W.mg_of X G a4, b_is_note := b4,
    f__law_hand := f5, fd__law_hand := _, F__law_hand := F5, g__law_hand := PySem.W.mg_of X G a5, b__law_hand := b5,
    f__law_take := f6, fd__law_take := _, F__law_take := F6, g__law_take := PySem.W.mg_of X G a6, b__law_take := b6,
    f__law_of := f7, fd__law_of := _, F__law_of := F7, g__law_of := PySem.W.mg_of X G a7, b__law_of := b7,
    f__law_due := f8, fd__law_due := _, F__law_due := F8, g__law_due := PySem.W.mg_of X G a8, b__law_due := b8,
    f__law_part := f9, fd__law_part := _, F__law_part := F9, g__law_part := PySem.W.mg_of X G a9, b__law_part := b9,
    f__law_bent := f10, fd__law_bent := _, F__law_bent := F10, g__law_bent := PySem.W.mg_of X G a10, b__law_bent := b10,
    f__law_odd := f11, fd__law_odd := _, F__law_odd := F11, g__law_odd := PySem.W.mg_of X G a11, b__law_odd := b11,
    f__law_right := f12, fd__law_right := _, F__law_right := F12, g__law_right := PySem.W.mg_of X G a12, b__law_right := b12,
    f_law := fa, fd_law := _, F_law := F13, g_law := PySem.W.mg_of X G a13, b_law := b13,
    kb_is_note := ⟨fun s us ws _ hl => match us, ws, hl with | [], [_], _ => .of_eq rfl | [_], [], _ => .of_eq rfl | [], [], hl => nomatch hl | [], _ :: _ :: _, hl => absurd hl (by simp) | [_], _ :: _, hl => absurd hl (by simp) | _ :: _ :: _, _, hl => absurd hl (by simp), fun r1 r2 => r1.append r2⟩,
    m_abs := PySem.W.mg_none_of X G z0,
    m_all := PySem.W.mg_none_of X G z1,
    m_bool := PySem.W.mg_none_of X G z2,
    m_int := PySem.W.mg_none_of X G z3,
    m_isinstance := PySem.W.mg_none_of X G z4,
    m_len := PySem.W.mg_none_of X G z5,
    m_list := PySem.W.mg_none_of X G z6,
    m_min := PySem.W.mg_none_of X G z7,
    m_range := PySem.W.mg_none_of X G z8,
    m_repr := PySem.W.mg_none_of X G z9,
    m_tuple := PySem.W.mg_none_of X G z10 }
  exact ⟨T.fd_law, fun s v => .of_eq rfl, fun base _ _ => ok_law (k := 0) T⟩
end Z
open PySem PySem.W PyProof.Rows
set_option maxHeartbeats 0 in
theorem PySem.Challenge.cw_stilltold_k01_notes_of_anything_holds : PySem.Challenge.rw_stilltold_k01_notes_of_anything.Holds := by
  w_on; o_law; k_head; (case hw => w_witness2)
  k_fill
  refine Lw.walkG (l := PySem.Challenge.rw_stilltold_k01_notes_of_anything) (n := 63) (k := 6) (x := "_law_script") (sp := Z.sp_law) rfl (by decide) rfl ⟨rfl, by decide, by decide⟩ (fun w h Y => PySem.W.kIn_of Y) ?F (fun K _ a ns hl _ hS => ⟨a, ns, rfl, hS, hl, fun _ => rfl⟩)
  case F =>
    intro w mg fa h KX G hmg
    refine' Z.all_mk KX G hmg ?a0 ?l0 ?c0 ?k0 ?a1 ?l1 ?c1 ?k1 ?a2 ?l2 ?c2 ?k2 ?a3 ?l3 ?c3 ?k3 ?a4 ?l4 ?c4 ?k4 ?a5 ?l5 ?c5 ?k5 ?a6 ?l6 ?c6 ?k6 ?a7 ?l7 ?c7 ?k7 ?a8 ?l8 ?c8 ?k8 ?a9 ?l9 ?c9 ?k9 ?a10 ?l10 ?c10 ?k10 ?a11 ?l11 ?c11 ?k11 ?a12 ?l12 ?c12 ?k12 ?a13 ?l13 ?c13 ?k13 ?z0 ?z1 ?z2 ?z3 ?z4 ?z5 ?z6 ?z7 ?z8 ?z9 ?z10
    (case a0 => k_is); (case l0 => k_is); (case c0 => k_is); (case k0 => k_is); (case a1 => k_is); (case l1 => k_is); (case c1 => k_is); (case k1 => k_is); (case a2 => k_is); (case l2 => k_is); (case c2 => k_is); (case k2 => k_is); (case a3 => k_is); (case l3 => k_is); (case c3 => k_is); (case k3 => k_is); (case a4 => k_is); (case l4 => k_is); (case c4 => k_is); (case k4 => k_is); (case a5 => k_is); (case l5 => k_is); (case c5 => k_is); (case k5 => k_is); (case a6 => k_is); (case l6 => k_is); (case c6 => k_is); (case k6 => k_is); (case a7 => k_is); (case l7 => k_is); (case c7 => k_is); (case k7 => k_is); (case a8 => k_is); (case l8 => k_is); (case c8 => k_is); (case k8 => k_is); (case a9 => k_is); (case l9 => k_is); (case c9 => k_is); (case k9 => k_is); (case a10 => k_is); (case l10 => k_is); (case c10 => k_is); (case k10 => k_is); (case a11 => k_is); (case l11 => k_is); (case c11 => k_is); (case k11 => k_is); (case a12 => k_is); (case l12 => k_is); (case c12 => k_is); (case k12 => k_is); (case a13 => k_is); (case l13 => k_is); (case c13 => k_is); (case k13 => k_is); (case z0 => k_is); (case z1 => k_is); (case z2 => k_is); (case z3 => k_is); (case z4 => k_is); (case z5 => k_is); (case z6 => k_is); (case z7 => k_is); (case z8 => k_is); (case z9 => k_is); (case z10 => k_is)
