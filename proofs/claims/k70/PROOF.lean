import PyProof.Rows.All
import Wide.All
import OpenK.AllK
import Wide.FinOn
import HandS.ForMost
import HandS.IsInst
import HandS.Wide
import HandS.Deep
import HandS.TupAny
import HandS.Flow
import HandS.EndBits
import PyProof.ReprRoads
import PyProof.ReprLen
import HandS.Style
import HandS.Sort
import HandS.SortOrd
import HandS.SortRule
import HandS.SortKw
import HandS.Zip
import HandS.TupMul
import HandS.Text
import HandS.Codes
import KE.DataCmp
import KE.DataFind
import HandS.Set
import KE.DataEq
import PyProof.Rows.IntBool
import PyProof.CallStr
import PyProof.Rows.ReprOcc
import HandS.Iter
import KE.GoesMore
import PyProof.StrLawsIn
import HandS.CallLocal
import HandS.Star
import KE.SortData
import HandS.Strs
import KE.KDictZip
import HandS.Dict
import HandS.TupSets
import HandS.TryOnly
import HandS.Small
import HandS.SetFor
import HandS.SortInts
import HandS.WordsExc
import HandS.ExcValue
import HandS.ExcField
import HandS.ExcInit
import HandS.Lambda
import KE.KExcIs
import HandS.StrMore
import PyProof.CollectIter
import HandS.RaiseMore
import KE.IntTextText
import PyProof.ReprBulk
import HandS.Defaults
import HandS.ExcIs
import PySem.Challenge.RW_stilltold_k70_histories_written_and_spoi
set_option Elab.async false
set_option linter.all false
set_option maxRecDepth 100000
namespace Lw
open PySem PySem.Spec PyProof.Rows L2

/-! ### defs that call repr: what no repr is under way around -/
structure FnG (P : Program) (w : World) (K : PySem.W.Frag) (mg : Str → Option Value) (base : Heap) (k : Nat) (f : Addr) (fd : FuncData) (ps : List Str) (sp : Sp) : Prop where
  lenG : ∀ vs H Q E, sp vs H Q E → vs.length = ps.length
  runG : ∀ (A : Around) (outer : List Env) (s : Shared) (H : Hp) (args : Args) (us : List Value) (vs : List V) (Q : VK) (E : XK), A.guards = some [] →
    Room k A → Env0 P w K mg base A outer s H → BindsTo s fd args (ps.zip us) → Vals vs us → sp vs H Q E →
    codeAny (model P w) A (.call (.ref f) args) (CR CX0 outer P w H s Q E) s

section
variable {P : Program} {w : World} {K : PySem.W.Frag} {mg : Str → Option Value} {base : Heap}
theorem okG {x qual : Str} {st : Stmt} {f : Addr} {fd : FuncData} {N ps : List Str} {k : Nat} {sp : Sp}
    (F : Fun K x qual st f fd) (S : FnScope N ps (defScope st)) (len : ∀ vs H Q E, sp vs H Q E → vs.length = ps.length)
    (body : ∀ (cdv : Value) (A : Around) (outer : List Env) (s : Shared) (H : Hp) (vs : List V) (Q : VK) (E : XK), A.guards = some [] →
      Room k (A.deeper (envOfC qual (defScope st) s.heap.objs.size f cdv)) → sp vs H Q E →
      ∃ t, PSs (cxOf CX0 P w K mg base N qual (defScope st) f cdv A outer s H E).nox (defBody st) t ∧
        t { nx := fun _ H' => Q .non H', rt := Q } (start N vs) H) :
    FnG P w K mg base (k + 1) f fd ps sp := by
  obtain ⟨oc, od, kV, doc, pm, an, cdv, ct, osl, rfl, lk, hcd⟩ := F.ex
  refine ⟨len, ?_⟩
  intro A outer s H args us vs Q E hgd room e0 bt rv hs
  have hlen := len vs H Q E hs
  have inK : K.In s.heap :=
    e0.mod.kin.keeps fun b o e => (e0.bs b o e).1
  have noLim : s.heap.NoLimit :=
    e0.mod.nolimit.keeps fun b o e => (e0.bs b o e).1
  have kinds : ∀ y ∈ ps.zip us, (defScope st).names.lookup y.1 = some .local ∨
      ((defScope st).names.lookup y.1 = some .cell ∧ ((cellsFrom (s.heap.objs.size + 1) (defScope st).names []).lookup y.1).isSome = true) := by
    rintro ⟨n, v⟩ hy
    rcases S.par n (List.of_mem_zip hy).1 with q | q
    · exact Or.inl q
    · exact Or.inr ⟨q, PySem.W.cellsFrom_some _ _ _ (Or.inl q)⟩
  refine codeAny_call_function room.depth (inK _ _ lk) rfl S.co S.gen rfl (PySem.W.codeRec_of inK hcd) (bt _ _ _ _ ?_)
  refine wpAny_newFunctionEnv_cells S.kind kinds ?_
  intro env henv s1 ic
  subst henv
  refine ⟨noLim.keeps ic.toInCall.keep, codeAny_func ?_⟩
  obtain ⟨t, pt, ht⟩ := body cdv A outer s H vs Q E hgd (room.deeper _) hs
  have I := inv_start (CX := CX0) (E := E) S room.hd e0 hlen rv ic
  refine wpAny_mono (pt.nox.run [] s1 (start N vs) H _ I ht) ?_ (fun _ _ z => z)
  intro fl s' z
  cases fl with
  | ret u =>
    obtain ⟨v, σ', H', J, r', q⟩ := z
    exact ⟨v, H', J.os, J.bare, J.base, J.hok, r', q⟩
  | next =>
    obtain ⟨σ', H', J, q⟩ := z
    exact ⟨V.non, H', J.os, J.bare, J.base, J.hok, rfl, q⟩
  | brk => exact (z.elim fun _ z => z.elim fun _ z => z.2).elim
  | cont => exact (z.elim fun _ z => z.elim fun _ z => z.2).elim
end

section
variable {X : Cx} {k : Nat} {f : Addr} {fd : FuncData} {ps : List Str} {sp : Sp} {x : Str} {p pos : Pos} {e : Expr} {es : List Expr} {t : TA}
/-! ### a call by keywords alone -/
theorem pe_kw0 {kws : List Keyword} {ks : List Str} {tk : TA} {g : List Value → List Value → List Value} {gV : List V → List V → List V}
    (F : FnOk X.prog X.w X.K X.mg X.base CX0 k f fd ps sp) (room : Room k X.A) (hg : Gl X x) (hm : X.mg x = some (.ref f)) (hk : PySem.W.keepIn X.K (.ref f) = true)
    (hb : KBinds X.K fd ps ks g gV) (hkw : PK X kws tk) (hall : (backToKw pos (keywordEach kws X.env)).all (·.1.isSome) = true := by rfl)
    (hks : (backToKw pos (keywordEach kws X.env)).filterMap (·.1) = ks := by rfl) (hdb : (x == ("__debug__" : Str)) = false := by decide)
    (hpl : ((backTo pos (starEach [] X.env)).any (·.1) || (backToKw pos (keywordEach kws X.env)).any (·.1.isNone)) = false := by rfl) :
    PE X (.Call (.Name x p) [] kws pos) (tCallK sp gV E0 tNil tk) := by
  refine ⟨fun pins s σ H Q I h => wpAny_Call_Name_kw (ld_glob I hg hm ?_ hdb)⟩
  refine PySem.W.callWith_KW0 (h₀ := X.base) I.ok.mod.kin hk hall ?_ hpl
  refine thn (hkw.run pos pins s σ H _ I h) ?_
  rintro ws s2 ⟨zs, H2, I2, rz, q2⟩
  refine ⟨I2.kIn, ?_⟩
  rw [hks]
  exact run_fnk (us := []) (vs := []) F room hb pass0 I2 .nil rz q2

/-! ### a list display, its place not that of sys.modules -/
def tLstN (t : TA) : TE := fun σ H Q => t σ H fun xs H1 => xs.length ≤ sizeLine ∧ ∀ p, H1 p = none → p ≠ sysModules → Q (.ref p) (upd H1 p (.lst xs))
theorem pe_lstN (h : PA X es t) : PE X (.List es pos) (tLstN t) := by
  refine ⟨fun pins s σ H Q I hq => wpAny_List_spliced (thn (h.run pos pins s σ H _ I hq) ?_)⟩
  rintro us s1 ⟨xs, H1, I1, r, z, q⟩
  refine ⟨by rw [← r.length]; exact z, ?_⟩
  have fresh : H1 s1.heap.objs.size = none := I1.hok.fresh (Nat.le_refl _)
  have big : sysModules < s1.heap.objs.size := by
    have h1 : mainGlobals < X.base.objs.size := I1.ok.mod.glob.lt
    have h2 := Nat.le_trans I1.ok.bsz I1.sz
    exact Nat.lt_of_lt_of_le (Nat.lt_trans (by decide) h1) h2
  refine ⟨.ref s1.heap.objs.size, upd H1 s1.heap.objs.size (.lst xs), I1.laid (t' := s1.toks) ?_ (Nat.le_refl _) ?_, rfl, q _ fresh (Nat.ne_of_gt big)⟩
  · intro b u e
    exact Heap.get?_push_of_some _ e
  · exact ⟨z, us, 0, r, Heap.get?_push_size _ rfl⟩
end
end Lw

namespace Lw
open PySem PySem.Spec PyProof.Rows L2

/-! ### the law's own call, no repr under way around -/
theorem enterG {P : Program} {w : World} {K : PySem.W.Frag} {mg mb : Str → Option Value} {k : Nat} {fa a : Addr} {fd : FuncData} {x : Str} {sp : Sp} {s₁ : Shared} {vs : List Value} {ns : List Int}
    (inK : K.In s₁.heap) (gl : s₁.heap.Ns mainGlobals mg) (bl : s₁.heap.Ns builtinsNs mb) (bb : ∀ x : Str, x ≠ "__name__" → mb x = bootBuiltins x) (lim : s₁.heap.NoLimit) (gens : s₁.gens = #[])
    (ha : s₁.heap.get? a = some { cls := .type "list", data := .seq vs.toArray }) (hints : IntsAre vs ns) (short : ns.length ≤ sizeLine) (room : Room k callerA)
    (F : ∀ base : Heap, K.In base → base.Ns mainGlobals mg → FnG P w K mg base k fa fd [x] sp)
    (bind : ∀ (s : Shared) (u : Value), BindsTo s fd ⟨[u], []⟩ [(x, u)])
    (hsp : ∀ H : Hp, SqL K H a (ns.map V.int) → sp [.ref a] H (fun v _ => v = .bl true) fun _ _ _ => False) :
    codeAny (model P w) callerA (.call (.ref fa) ⟨[.ref a], []⟩)
      (fun r s' => r = .ok (.ret (.bool true)) ∧ OldK s₁.heap s'.heap ∧ s'.os = s₁.os ∧ AllBare s'.gens) s₁ := by
  have rv := vals_ints hints
  have lenV := hints.length
  have main : ∀ H : Hp, (∀ b, H b = none ∨ ∃ o xs, H b = some (.frz o (.lst xs))) → SqL K H a (ns.map V.int) → HOk P w H s₁.heap →
      (∀ b, H b ≠ none → b = a) → (H a ≠ none → K.lookup a = none) →
      codeAny (model P w) callerA (.call (.ref fa) ⟨[.ref a], []⟩)
        (fun r s' => r = .ok (.ret (.bool true)) ∧ OldK s₁.heap s'.heap ∧ s'.os = s₁.os ∧ AllBare s'.gens) s₁ := by
    intro H only sq hok isA notK
    have free : ∀ {b : Addr} {o : Obj} {es : Array DictEntry} {ep : Nat},
        s₁.heap.get? b = some o → o.data = .dict es ep → H b = none := by
      intro b o es ep hb hd
      cases q : H b with
      | none => rfl
      | some u =>
        have eb : b = a := isA b (by rw [q]; exact fun z => nomatch z)
        rw [eb, ha] at hb
        cases hb
        have z : Data.seq vs.toArray _ = Data.dict es ep := hd
        cases z
    have nsT : ∀ {b : Addr} {m : Str → Option Value}, s₁.heap.Ns b m → (hidT s₁.heap H).Ns b m := by
      rintro b m ⟨o, es, ep, e, d, r⟩
      exact ⟨o, es, ep, hidT_get e (free e d), d, r⟩
    have kT : K.In (hidT s₁.heap H) := by
      intro b o e
      refine hidT_get (inK b o e) ?_
      cases q : H b with
      | none => rfl
      | some u =>
        have eb : b = a := isA b (by rw [q]; exact fun z => nomatch z)
        have nl := notK (by rw [← eb, q]; exact fun z => nomatch z)
        rw [← eb, e] at nl
        cases nl
    have md : Mod K mg (hidT s₁.heap H) := by
      obtain ⟨mc, l1, l2⟩ := lim
      exact ⟨kT, nsT gl, ⟨mb, nsT bl, bb⟩, mc, nsT l1, l2⟩
    have e0 : Env0 P w K mg (hidT s₁.heap H) callerA [] s₁ H := by
      refine ⟨rfl, md, fun b o e => of_hidT e, ?_, trivial, ?_, hok, .of_eq gens⟩
      · exact Nat.le_of_eq (hidT_size _ _)
      · intro b hb
        exact absurd (show b ∈ ([] : List Addr) from hb) (List.not_mem_nil)
    have ran := (F _ kT (nsT gl)).runG callerA [] s₁ H ⟨[.ref a], []⟩ [.ref a] [.ref a] _ _ rfl room e0 (bind s₁ (.ref a)) (.cons rfl .nil) (hsp H sq)
    refine codeAny_mono ran ?_
    intro r s' h
    cases r with
    | error e => exact False.elim h
    | ok fl =>
      cases fl with
      | next => exact False.elim h
      | brk => exact False.elim h
      | cont => exact False.elim h
      | ret u =>
        obtain ⟨v, H', os, bare, un, hok', r', q⟩ := h
        have ev : v = .bl true := q
        subst ev
        obtain rfl : u = Value.bool true := r'
        refine ⟨rfl, OldK.of_keep ?_, os, bare⟩
        intro b o e
        rcases only b with z | ⟨ob, xs, z⟩
        · exact un.keep b o e z (fun y => absurd (show b ∈ ([] : List Addr) from y) List.not_mem_nil) List.not_mem_nil
        · have z2 := un.frzs b ob _ z
          have e1 := (hok b _ z).1
          have e2 := (hok' b _ z2).1
          rw [e] at e1
          cases e1
          exact e2
  cases hk : K.lookup a with
  | some o =>
    have e := inK a o hk
    rw [ha] at e
    cases e
    refine main (fun _ => none) (fun _ => Or.inl rfl) (Or.inr ?_) ?_ (fun b z => absurd rfl z) (fun z => absurd rfl z)
    · exact ⟨_, vs.toArray, _, hk, rfl, rfl, rfl, by rw [List.size_toArray, lenV]; exact short, by simpa using rv⟩
    · intro b u z
      have z' : (none : Option HO) = some u := z
      cases z'
  | none =>
    let o₀ : Obj := { cls := .type "list", data := .seq vs.toArray }
    let H₀ : Hp := fun b => if b = a then some (.frz o₀ (.lst (ns.map V.int))) else none
    have at_a : H₀ a = some (.frz o₀ (.lst (ns.map V.int))) := if_pos rfl
    have off : ∀ b, b ≠ a → H₀ b = none := fun b hb => if_neg hb
    refine main H₀ ?_ (Or.inl (Or.inr ⟨o₀, at_a⟩)) ?_ ?_ (fun _ => hk)
    · intro b
      by_cases hb : b = a
      · rw [hb]
        exact Or.inr ⟨_, _, at_a⟩
      · exact Or.inl (off b hb)
    · intro b u z
      by_cases hb : b = a
      · rw [hb, at_a] at z
        cases z
        rw [hb]
        exact ⟨ha, by rw [List.length_map]; exact short, vs, _, rv, ha⟩
      · rw [off b hb] at z
        cases z
    · intro b z
      by_cases hb : b = a
      · exact hb
      · exact absurd (off b hb) z

theorem walkG {l : PySem.W.OpenLaw} {n k : Nat} {q : Program} {loose : List Str} {XP : (Str → Option Value) → Heap → Prop} {YP : World → Heap → Prop} {d : DefRec}
    {K : Params → PySem.W.Frag} {sp : PySem.W.Frag → Sp} {x : Str} (hn : l.most = some n) (hn2 : n ≤ sizeLine) (hdf : d.params.defaults = []) (room : Room k callerA)
    (hY : ∀ (w : World) (h : Heap), YP w h → (K w.params).In h)
    (F : ∀ (w : World) (mg : Str → Option Value) (fa : Addr) (h : Heap), (K w.params).In h → h.Ns mainGlobals mg → mg d.name = some (.ref fa) →
      ∃ fd : FuncData, (∀ (s : Shared) (u : Value), BindsTo s fd ⟨[u], []⟩ [(x, u)]) ∧
        ∀ base : Heap, (K w.params).In base → base.Ns mainGlobals mg → FnG l.prog w (K w.params) mg base k fa fd [x] (sp (K w.params)))
    (hsp : ∀ (K : PySem.W.Frag) (H : Hp) (a : Addr) (ns : List Int), ns.length ≤ n → (∀ z ∈ ns, Builtin.Int.intBits z ≤ 1048576) → SqL K H a (ns.map V.int) →
      sp K [.ref a] H (fun v _ => v = .bl true) fun _ _ _ => False) :
    PySem.W.WalkO q loose XP YP l.row.toRowW d [] (fun f vs => PySem.call f vs) := by
  refine Att.attach_callB hn hdf ?_
  intro w s₀ s₁ mg mb fa o pm cd doc a vs ns G Y ho hd hcd hmg hobj hints hlen hbits hg
  have inK := hY w _ Y
  obtain ⟨fd, hb, hF⟩ := F w mg fa _ inK G.T.g hmg
  exact enterG inK G.T.g G.T.b G.T.builtins G.T.nolimit hg hobj hints (Nat.le_trans hlen hn2) room hF hb fun H hS => hsp _ H a ns hlen hbits hS

/-! ### data in the heap -/
def keyD : Key → PyData
  | .inl i => .int i
  | .inr x => .str x
/-- a tuple without a dict of its own -/
def TupN (H : Hp) (a : Addr) (xs : List V) : Prop := ∃ o : Obj, H a = some (.frz o (.tup xs)) ∧ o.dict = none
theorem TupN.rd {H : Hp} {a : Addr} {xs : List V} (h : TupN H a xs) : Rd H a (.tup xs) := let ⟨o, e, _⟩ := h; .inr ⟨o, e⟩
theorem TupN.sq {K : PySem.W.Frag} {H : Hp} {a : Addr} {xs : List V} (h : TupN H a xs) : SqT K H a xs := .inl h.rd
theorem TupN.same {H H' : Hp} {a : Addr} {xs : List V} (s : Same H H') (h : TupN H a xs) : TupN H' a xs := let ⟨o, e, n⟩ := h; ⟨o, s _ _ e, n⟩
theorem TupN.new {H : Hp} {p : Addr} {o : Obj} {xs : List V} (n : o.dict = none) : TupN (upd H p (.frz o (.tup xs))) p xs := ⟨o, upd_same, n⟩
mutual
/-- v holds the data d; f: no list of it stands at the place of sys.modules -/
inductive D (f : Bool) (H : Hp) : V → PyData → Prop
  | non : D f H .non .none
  | bl (b : Bool) : D f H (.bl b) (.bool b)
  | int (i : Int) : D f H (.int i) (.int i)
  | str (x : Str) : D f H (.str x) (.str x)
  | lst {a : Addr} {xs : List V} {ds : List PyData} : H a = some (.lst xs) → (f = true → a ≠ sysModules) → DA f H xs ds → D f H (.ref a) (.list ds)
  | tup {a : Addr} {xs : List V} {ds : List PyData} : TupN H a xs → DA f H xs ds → D f H (.ref a) (.tuple ds)
  | dct {a : Addr} {kvs : List (Key × V)} {ds : List PyData} : H a = some (.dK kvs) → DA f H (kvs.map (·.2)) ds → D f H (.ref a) (.dict ((kvs.map fun p => keyD p.1).zip ds))
inductive DA (f : Bool) (H : Hp) : List V → List PyData → Prop
  | nil : DA f H [] []
  | cons {v : V} {vs : List V} {d : PyData} {ds : List PyData} : D f H v d → DA f H vs ds → DA f H (v :: vs) (d :: ds)
end
theorem DA.length {f : Bool} {H : Hp} : ∀ {vs : List V} {ds : List PyData}, DA f H vs ds → vs.length = ds.length
  | _, _, .nil => rfl
  | _, _, .cons _ t => by rw [List.length_cons, List.length_cons, t.length]
theorem DA.get {f : Bool} {H : Hp} : ∀ {vs : List V} {ds : List PyData} (i : Nat) {v : V}, DA f H vs ds → vs[i]? = some v → ∃ d, ds[i]? = some d ∧ D f H v d
  | _, _, _, _, .nil, e => by simp at e
  | _, _, 0, _, .cons h _, e => by
    simp at e
    subst e
    exact ⟨_, rfl, h⟩
  | _, _, i + 1, v, .cons _ t, e => by
    obtain ⟨d, e1, h⟩ := DA.get i (v := v) t (by simpa using e)
    exact ⟨d, by simpa using e1, h⟩
theorem DA.append {f : Bool} {H : Hp} : ∀ {vs ws : List V} {ds es : List PyData}, DA f H vs ds → DA f H ws es → DA f H (vs ++ ws) (ds ++ es)
  | _, _, _, _, .nil, h => h
  | _, _, _, _, .cons h t, g => .cons h (t.append g)
theorem DA.take {f : Bool} {H : Hp} : ∀ {vs : List V} {ds : List PyData} (n : Nat), DA f H vs ds → DA f H (vs.take n) (ds.take n)
  | _, _, 0, _ => .nil
  | _, _, _ + 1, .nil => .nil
  | _, _, n + 1, .cons h t => .cons h (t.take n)
theorem DA.drop {f : Bool} {H : Hp} : ∀ {vs : List V} {ds : List PyData} (n : Nat), DA f H vs ds → DA f H (vs.drop n) (ds.drop n)
  | _, _, 0, h => h
  | _, _, _ + 1, .nil => .nil
  | _, _, n + 1, .cons _ t => t.drop n
theorem DA.rev {f : Bool} {H : Hp} : ∀ {vs : List V} {ds : List PyData}, DA f H vs ds → DA f H vs.reverse ds.reverse
  | _, _, .nil => .nil
  | _, _, .cons h t => by
    rw [List.reverse_cons, List.reverse_cons]
    exact t.rev.append (.cons h .nil)
mutual
theorem D.same {f : Bool} {H H' : Hp} (s : Same H H') : ∀ {v : V} {d : PyData}, D f H v d → D f H' v d
  | _, _, .non => .non
  | _, _, .bl b => .bl b
  | _, _, .int i => .int i
  | _, _, .str x => .str x
  | _, _, .lst e n t => .lst (s _ _ e) n (DA.same s t)
  | _, _, .tup e t => .tup (e.same s) (DA.same s t)
  | _, _, .dct e t => .dct (s _ _ e) (DA.same s t)
theorem DA.same {f : Bool} {H H' : Hp} (s : Same H H') : ∀ {vs : List V} {ds : List PyData}, DA f H vs ds → DA f H' vs ds
  | _, _, .nil => .nil
  | _, _, .cons a b => .cons (D.same s a) (DA.same s b)
end
mutual
theorem D.weak {f : Bool} {H : Hp} : ∀ {v : V} {d : PyData}, D f H v d → D false H v d
  | _, _, .non => .non
  | _, _, .bl b => .bl b
  | _, _, .int i => .int i
  | _, _, .str x => .str x
  | _, _, .lst e _ t => .lst e (fun z => nomatch z) (DA.weak t)
  | _, _, .tup e t => .tup e (DA.weak t)
  | _, _, .dct e t => .dct e (DA.weak t)
theorem DA.weak {f : Bool} {H : Hp} : ∀ {vs : List V} {ds : List PyData}, DA f H vs ds → DA false H vs ds
  | _, _, .nil => .nil
  | _, _, .cons a b => .cons (D.weak a) (DA.weak b)
end
/-! ### the data are read by the machine -/
theorem pairs_keys {P : Program} {w : World} {h : Heap} : ∀ {es : List DictEntry} {kvs : List (Key × Value)}, Pairs (mixKind P w) es kvs →
    ReadsAll h (es.map (·.key)) (kvs.map fun p => keyD p.1) []
  | _, _, .nil => .nil
  | _, _, .cons (kv := kv) (e := e) hk _ t => by
    have r : Reads h e.key (keyD kv.1) [] := by
      rcases keyIs_shape (show keyIs kv.1 e.key = true from hk) with ⟨i, tk, e1, e2⟩ | ⟨x, tk, e1, e2⟩
      · rw [e1, e2]; exact Reads.int i tk
      · rw [e1, e2]; exact Reads.str x tk
    exact ReadsAll.cons r (pairs_keys t)
theorem pairs_vals {P : Program} {w : World} : ∀ {es : List DictEntry} {kvs : List (Key × Value)}, Pairs (mixKind P w) es kvs → es.map (·.val) = kvs.map (·.2)
  | _, _, .nil => rfl
  | _, _, .cons _ hv t => by rw [List.map_cons, List.map_cons, hv, pairs_vals t]
theorem kv_keys : ∀ {kvs : List (Key × V)} {vs : List (Key × Value)}, KV kvs vs → kvs.map (fun p => keyD p.1) = vs.map fun p => keyD p.1
  | _, _, .nil => rfl
  | _, _, .cons h t => by rw [List.map_cons, List.map_cons, h.1, kv_keys t]
theorem kv_vals : ∀ {kvs : List (Key × V)} {vs : List (Key × Value)}, KV kvs vs → Vals (kvs.map (·.2)) (vs.map (·.2))
  | _, _, .nil => .nil
  | _, _, .cons h t => .cons h.2 (kv_vals t)
section
variable {X : Cx} {pins : List (Addr × Obj)} {σ : L2.St} {H : Hp} {s : Shared}
mutual
theorem D.reads {f : Bool} (I : Inv X pins σ H s) : ∀ {v : V} {d : PyData}, D f H v d → ∀ u, RelV v u → ∃ as, Reads s.heap u d as ∧ (f = true → sysModules ∉ as)
  | _, _, .non, u, r => by
    cases r
    exact ⟨_, Reads.none, fun _ => List.not_mem_nil⟩
  | _, _, .bl b, u, r => by
    cases r
    exact ⟨_, Reads.bool b, fun _ => List.not_mem_nil⟩
  | _, _, .int i, u, r => by
    obtain ⟨t, rfl⟩ := r
    exact ⟨_, Reads.int i t, fun _ => List.not_mem_nil⟩
  | _, _, .str x, u, r => by
    obtain ⟨t, rfl⟩ := r
    exact ⟨_, Reads.str x t, fun _ => List.not_mem_nil⟩
  | _, _, .lst (a := a) (xs := xs) e n t, u, r => by
    cases (show u = Value.ref a from r)
    obtain ⟨_, its, k, rv, ho⟩ := (show ObjOk X.prog X.w H s.heap a (.lst xs) from I.hok a _ e)
    obtain ⟨as, ra, na⟩ := DA.reads I t its rv
    refine ⟨_, Reads.list ho rfl rfl ra, fun hf z => ?_⟩
    rcases List.mem_cons.mp z with z | z
    · exact n hf z.symm
    · exact na hf z
  | _, _, .tup (a := a) (xs := xs) e t, u, r => by
    cases (show u = Value.ref a from r)
    obtain ⟨_, its, rv, o, ho, hc, k, hd⟩ := (show ObjOk X.prog X.w H s.heap a (.tup xs) from e.rd.ok I.hok)
    obtain ⟨as, ra, na⟩ := DA.reads I t its rv
    exact ⟨_, Reads.tuple ho hc hd ra, na⟩
  | _, _, .dct (a := a) (kvs := kvs) (ds := ds) e t, u, r => by
    cases (show u = Value.ref a from r)
    obtain ⟨_, ns, vs, kv, o, es, ep, ho, ex, hd, _, pr, _⟩ := (show ObjOk X.prog X.w H s.heap a (.dK kvs) from I.hok a _ e)
    obtain ⟨as, ra, na⟩ := DA.reads I t _ (kv_vals kv)
    have hl : (kvs.map fun p => keyD p.1).length = ds.length := by
      have := t.length
      rw [List.length_map] at this
      rw [List.length_map]
      exact this
    have r1 := pairs_keys (h := s.heap) pr
    rw [← kv_keys kv] at r1
    rw [← pairs_vals pr] at ra
    refine ⟨_, Reads.dict ho ex.1 hd (as := []) (bs := as) ?_ ?_, fun hf z => ?_⟩
    · rw [List.map_fst_zip (Nat.le_of_eq hl)]
      exact r1
    · rw [List.map_snd_zip (Nat.le_of_eq hl.symm)]
      exact ra
    · rcases List.mem_cons.mp z with z | z
      · rw [← z] at ns
        exact absurd ns (by decide)
      · exact na hf (by simpa using z)
theorem DA.reads {f : Bool} (I : Inv X pins σ H s) : ∀ {vs : List V} {ds : List PyData}, DA f H vs ds → ∀ us, Vals vs us → ∃ as, ReadsAll s.heap us ds as ∧ (f = true → sysModules ∉ as)
  | _, _, .nil, us, r => by
    cases r
    exact ⟨_, ReadsAll.nil, fun _ => List.not_mem_nil⟩
  | _, _, .cons h t, us, r => by
    cases r with
    | cons r1 r2 =>
      obtain ⟨as, q1, n1⟩ := D.reads I h _ r1
      obtain ⟨bs, q2, n2⟩ := DA.reads I t _ r2
      exact ⟨_, ReadsAll.cons q1 q2, fun hf z => (List.mem_append.mp z).elim (n1 hf) (n2 hf)⟩
end
end

/-! ### repr -/
/-- what repr takes -/
structure Ok (d : PyData) : Prop where
  sh : d.showable = true
  dp : d.depth ≤ 100
  ln : d.shown.length ≤ sizeLine
def rRepr : List V → Hp → VK → Prop := fun xs H Q => ∃ (v : V) (d : PyData) (f : Bool), xs = [v] ∧ D f H v d ∧ (d.hasDict = true → f = true) ∧ Ok d ∧ Q (.str d.shown) H
theorem call_repr {X : Cx} {k : Nat} (hgd : X.A.guards = some []) (room : Room k X.A) : CallR X (.builtin "repr") rRepr := by
  intro pins s σ H xs us Q I r h
  obtain ⟨v, d, f, rfl, hd, hf, ok, q⟩ := h
  obtain ⟨u, rfl, ru⟩ := vals1 r
  cases hd with
  | non =>
    cases ru
    exact PySem.P.repr_of_none ⟨.str _, H, I.tok _, ⟨_, rfl⟩, by simpa only [PyData.shown] using q⟩
  | bl b =>
    cases ru
    exact PySem.P.repr_of_bool ⟨.str _, H, I.tok _, ⟨_, rfl⟩, by simpa only [PyData.shown] using q⟩
  | int i =>
    obtain ⟨t, rfl⟩ := ru
    have hz : i.natAbs.log2 < 1920 := by simpa only [PyData.showable, decide_eq_true_eq] using ok.sh
    exact PySem.P.repr_of_int hz ⟨.str _, H, I.tok _, ⟨_, rfl⟩, by simpa only [PyData.shown] using q⟩
  | str x =>
    obtain ⟨t, rfl⟩ := ru
    have hz : (reprText x).length ≤ sizeLine := by simpa only [PyData.shown] using ok.ln
    exact PySem.P.repr_of_str ⟨.str _, H, I.tok _, ⟨_, rfl⟩, by simpa only [PyData.shown] using q⟩ hz
  | lst e n t =>
    cases ru
    obtain ⟨as, rd, na⟩ := D.reads I (.lst e n t) _ rfl
    have hu := room.un
    have hdp := ok.dp
    exact repr_of_reads' rd ok.sh (fun z => na (hf z)) hgd (by omega) (fun _ _ e => e) (fun h' tk t2 hk => ⟨.str _, H, I.kept (t' := t2) hk, ⟨_, rfl⟩, q⟩) ok.ln
  | tup e t =>
    cases ru
    obtain ⟨as, rd, na⟩ := D.reads I (.tup e t) _ rfl
    have hu := room.un
    have hdp := ok.dp
    exact repr_of_reads' rd ok.sh (fun z => na (hf z)) hgd (by omega) (fun _ _ e => e) (fun h' tk t2 hk => ⟨.str _, H, I.kept (t' := t2) hk, ⟨_, rfl⟩, q⟩) ok.ln
  | dct e t =>
    cases ru
    obtain ⟨as, rd, na⟩ := D.reads I (.dct e t) _ rfl
    have hu := room.un
    have hdp := ok.dp
    exact repr_of_reads' rd ok.sh (fun z => na (hf z)) hgd (by omega) (fun _ _ e => e) (fun h' tk t2 hk => ⟨.str _, H, I.kept (t' := t2) hk, ⟨_, rfl⟩, q⟩) ok.ln
end Lw

namespace Lw
open PySem PySem.Spec PyProof.Rows L2

/-! ### powers of great numbers -/
def CPowW (i j : Int) : Prop := 0 ≤ j ∧ (Builtin.Int.intBits i : Int) * j ≤ 2 ^ 27
theorem op_powW {X : Cx} : OpR X (binaryOp .Pow) (rI CPowW fun i j => .int (i ^ j.toNat)) :=
  opI fun _ _ _ _ _ _ _ hc q => pow_int hc.1 hc.2 q

/-! ### a tuple turned about -/
section
variable {prog : Program} {w : World} {A : Around} {E : Value → Shared → Prop} {s : Shared}
end
section
variable {X : Cx}
/-! ### tuples cut and put together: one way out -/
def cutD (ds : List PyData) (lo hi : Option Int) : List PyData := (ds.drop (HT.sIx ds.length 0 lo)).take (HT.sIx ds.length ds.length hi - HT.sIx ds.length 0 lo)
theorem DA.cut {f : Bool} {H : Hp} {xs : List V} {ds : List PyData} (h : DA f H xs ds) (lo hi : Option Int) : DA f H (cutV xs lo hi) (cutD ds lo hi) := by
  unfold cutV cutD
  rw [h.length]
  exact (h.drop _).take _
theorem cutD_mem {ds : List PyData} {lo hi : Option Int} {x : PyData} (h : x ∈ cutD ds lo hi) : x ∈ ds := List.mem_of_mem_drop (List.mem_of_mem_take h)
/-! ### tuples that are made have no dict of their own -/
theorem laid_tup {pins : List (Addr × Obj)} {σ : L2.St} {H : Hp} {s : Shared} {its : List Value} {xs : List V} {Q : VK} (I : Inv X pins σ H s) (hz : xs.length ≤ sizeLine) (r : Vals xs its)
    (q : ∀ (p : Addr) (o : Obj), H p = none → o.dict = none → Q (.ref p) (upd H p (.frz o (.tup xs)))) : EP X pins σ Q (.ref s.heap.objs.size) { s with heap := s.heap.push { cls := .type "tuple", data := .seq its.toArray } } :=
  ⟨.ref _, _, I.laid (t' := s.toks) (o := .frz _ (.tup xs)) (fun b ob z => Heap.get?_push_of_some _ z) (Nat.le_refl _) ⟨Heap.get?_push_size _ rfl, hz, its, r, IsTup.new _ _⟩, rfl, q _ _ (I.hok.fresh (Nat.le_refl _)) rfl⟩
def tTupN (t : TA) : TE := fun σ H Q => t σ H fun xs H1 => xs.length ≤ sizeLine ∧ ∀ (p : Addr) (o : Obj), H1 p = none → o.dict = none → Q (.ref p) (upd H1 p (.frz o (.tup xs)))
theorem pe_tupN {es : List Expr} {t : TA} {pos : Pos} {x1} (h : PA X es t) : PE X (.Tuple es x1 pos) (tTupN t) :=
  ⟨fun pins s σ H Q I hq => wpAny_Tuple_spliced (thn (h.run pos pins s σ H _ I hq) fun us s1 ⟨_, _, I1, r, z, q⟩ => ⟨r.length ▸ z, laid_tup I1 z r q⟩)⟩
def rCatN : R2 := fun x y H Q => ∃ a b xs ys, x = .ref a ∧ y = .ref b ∧ TupN H a xs ∧ TupN H b ys ∧ xs.length + ys.length ≤ sizeLine ∧ (xs = [] → Q (.ref b) H) ∧ (ys = [] → Q (.ref a) H) ∧
  ∀ (p : Addr) (o : Obj), H p = none → o.dict = none → Q (.ref p) (upd H p (.frz o (.tup (xs ++ ys))))
theorem op_catN : OpR X (binaryOp .Add) rCatN := by
  intro pins s σ H x y v u Q I rx ry h
  obtain ⟨a, b, xs, ys, rfl, rfl, ha, hb, hz, q1, q2, q⟩ := h
  cases rx
  cases ry
  obtain ⟨us, r1, p1, _⟩ := I.tuple ha.sq
  obtain ⟨ws, r2, p2, _⟩ := I.tuple hb.sq
  by_cases hx : xs = []
  · subst hx
    cases r1
    exact cat_tup0 p1 p2 ⟨.ref b, H, I, rfl, q1 rfl⟩
  · exact HT.cat_tup p1 p2 (fun z => hx (r1.nil_iff.mp z)) (fun z => ⟨.ref a, H, I, rfl, q2 (r2.nil_iff.mp z)⟩) (fun _ => laid_tup I (by rw [List.length_append]; exact hz) (r1.append r2) q) (by rw [← r1.length, ← r2.length]; exact hz)
def rSlN : V → Option Int → Option Int → Hp → VK → Prop := fun x lo hi H Q => ∃ a xs, x = .ref a ∧ TupN H a xs ∧ (HT.sIx xs.length 0 lo = 0 ∧ HT.sIx xs.length xs.length hi = xs.length → Q (.ref a) H) ∧
  ∀ (p : Addr) (o : Obj), H p = none → o.dict = none → Q (.ref p) (upd H p (.frz o (.tup (cutV xs lo hi))))
theorem sl_N : SlR X rSlN := by
  intro pins s σ H x v vl vu lo hi sl Q I rx hs pl pu h
  obtain ⟨a, xs, rfl, hx, q1, q⟩ := h
  cases rx
  obtain ⟨its, r, ht, hz⟩ := I.tuple hx.sq
  have hn : its.toArray.size = xs.length := by
    rw [List.size_toArray]
    exact r.length.symm
  refine ⟨"tuple", _, slot_tuple_getitem.lookup, ht.typeIs, ?_⟩
  by_cases hw : HT.sIx xs.length 0 lo = 0 ∧ HT.sIx xs.length xs.length hi = xs.length
  · exact getItem_tuple_whole ht hs pl pu (hn.symm ▸ hw) ⟨.ref a, H, I, rfl, q1 hw⟩
  · refine HT.getItem_tuple_cut ht hs pl pu (hn.symm ▸ hw) ?_ (hn.symm ▸ hz)
    rw [hn]
    exact laid_tup I (Nat.le_trans (cutV_length xs lo hi) hz) ((r.drop _).take _) q
theorem call_tupleN : CallR X (.type "tuple") (fun xs H Q => ∃ p ys, xs = [.ref p] ∧ ((SqL X.K H p ys ∧ ∀ (l : Addr) (o : Obj), H l = none → o.dict = none → Q (.ref l) (upd H l (.frz o (.tup ys)))) ∨ (SqT X.K H p ys ∧ Q (.ref p) H))) := by
  intro pins s σ H xs us Q I r h
  obtain ⟨p, ys, rfl, h⟩ := h
  obtain rfl := Vals.ref1 r
  rcases h with ⟨hq, q⟩ | ⟨hq, q⟩
  · obtain ⟨its, rr, pl, hz⟩ := I.list hq
    have hl := rr.length
    refine call_tuple_list pl.isList (fun h' kp => ?_) (by rw [List.size_toArray]; omega)
    exact laid_tup (s := { s with heap := h' }) (I.kept (t' := s.toks) kp) hz rr q
  · obtain ⟨its, rr, pl, hz⟩ := I.tuple hq
    exact call_tuple_same pl ⟨.ref p, H, I, rfl, q⟩
end
end Lw

namespace Lw
open PySem PySem.Spec PyProof.Rows L2

/-! ### kinds of data -/
def tyD : PyData → String
  | .none => "NoneType"
  | .bool _ => "bool"
  | .int _ => "int"
  | .str _ => "str"
  | .list _ => "list"
  | .tuple _ => "tuple"
  | .dict _ => "dict"
theorem D.ty {f : Bool} {K : PySem.W.Frag} {H : Hp} {v : V} {d : PyData} (h : D f H v d) : TyX K H v (.type (tyD d)) := by
  cases h with
  | non => exact .base .non
  | bl b => exact .base (.bl b)
  | int i => exact .base (.int i)
  | str x => exact .base (.str x)
  | lst e n t => exact .base (.lst e)
  | tup e t =>
    obtain ⟨o, e, _⟩ := e
    exact .fTuple e
  | dct e t => exact .base (.dK e)
def isIntD : PyData → Bool
  | .int _ => true
  | .bool _ => true
  | _ => false
def isBoolD : PyData → Bool
  | .bool _ => true
  | _ => false
def isTupD : PyData → Bool
  | .tuple _ => true
  | _ => false
def isStrD : PyData → Bool
  | .str _ => true
  | _ => false
section
variable {K : PySem.W.Frag} {H : Hp} {f : Bool} {v : V} {d : PyData} {Q : VK}
end
/-! ### draws -/
/-- the hand that draws: at most n draws were mixed -/
def Hd (H : Hp) (a : Addr) (n : Nat) : Prop := ∃ g m c : Int, H a = some (.lst [.int g, .int m, .int c]) ∧ 0 ≤ m ∧ m < 2305843009213693921 ∧ 0 ≤ c ∧ c ≤ n
/-- all but what stands at a is as it was -/
def Kp (a : Addr) (H H' : Hp) : Prop := ∀ b o, b ≠ a → H b = some o → H' b = some o
theorem Kp.refl (a : Addr) (H : Hp) : Kp a H H := fun _ _ _ h => h
theorem Kp.trans {a : Addr} {H H1 H2 : Hp} (x : Kp a H H1) (y : Kp a H1 H2) : Kp a H H2 := fun b o n h => y b o n (x b o n h)
theorem Kp.upd {a : Addr} {H H' : Hp} {o : HO} (x : Kp a H H') : Kp a H (L2.upd H' a o) := fun b u n h => by
  rw [upd_ne n]
  exact x b u n h
theorem Hd.same {H H' : Hp} {a : Addr} {n : Nat} (x : Hd H a n) (s : Same H H') : Hd H' a n := by
  obtain ⟨g, m, c, e, r⟩ := x
  exact ⟨g, m, c, s _ _ e, r⟩
theorem Hd.mono {H : Hp} {a : Addr} {n k : Nat} (x : Hd H a n) (h : n ≤ k) : Hd H a k := by
  obtain ⟨g, m, c, e, h1, h2, h3, h4⟩ := x
  exact ⟨g, m, c, e, h1, h2, h3, by omega⟩
/-- the heap without what stands at some places -/
def remL (as : List Addr) (H : Hp) : Hp := fun b => if b ∈ as then none else H b
theorem remL_ne {as : List Addr} {b : Addr} {H : Hp} (h : b ∉ as) : remL as H b = H b := if_neg h
theorem remL_some {as : List Addr} {b : Addr} {H : Hp} {o : HO} (h : remL as H b = some o) : b ∉ as ∧ H b = some o := by
  by_cases e : b ∈ as
  · rw [show remL as H b = none from if_pos e] at h
    cases h
  · rw [remL_ne e] at h
    exact ⟨e, h⟩
theorem same_remL {as : List Addr} {H H' : Hp} (k : Same H H') : Same (remL as H) (remL as H') := fun b o h => by
  obtain ⟨n, e⟩ := remL_some h
  rw [remL_ne n]
  exact k b o e
theorem Kp.remL {as : List Addr} {a : Addr} {H H' : Hp} (ha : a ∈ as) (k : Kp a H H') : Same (Lw.remL as H) (Lw.remL as H') := fun b o h => by
  obtain ⟨n, e⟩ := remL_some h
  rw [remL_ne n]
  exact k b o (fun z => n (z ▸ ha)) e
/-- these places are taken -/
def Trk (as : List Addr) (H : Hp) : Prop := ∀ b ∈ as, H b ≠ none
theorem Trk.same {as : List Addr} {H H' : Hp} (t : Trk as H) (k : Same H H') : Trk as H' := fun b hb z => by
  cases e : H b with
  | none => exact t b hb e
  | some o =>
    rw [k b o e] at z
    cases z
theorem Trk.kp {as : List Addr} {a : Addr} {n : Nat} {H H' : Hp} (t : Trk as H) (k : Kp a H H') (h : Hd H' a n) : Trk as H' := fun b hb z => by
  by_cases e0 : b = a
  · obtain ⟨g, m, c, e, _⟩ := h
    rw [e0, e] at z
    cases z
  · cases e : H b with
    | none => exact t b hb e
    | some o =>
      rw [k b o e0 e] at z
      cases z
theorem Trk.new {as : List Addr} {H : Hp} {p : Addr} (t : Trk as H) (h : H p = none) : p ∉ as := fun z => t p z h
/-! ### how large data are -/
theorem int_short {i : Int} (h : i.natAbs < 10 ^ 62) : (PyData.shown (.int i)).length ≤ 64 := by
  have e := int_text_length_le10 (k := 62) (by decide) h
  show (Str.ofString (toString i)).length ≤ 64
  rw [PySem.ofString_length]
  omega
structure Bd (n m : Nat) (d : PyData) : Prop where
  lf : d.leavesShort 64 = true
  sh : d.showable = true
  dp : d.depth ≤ n
  wt : d.weight ≤ m
theorem Bd.mono {n m n' m' : Nat} {d : PyData} (h : Bd n m d) (hn : n ≤ n') (hm : m ≤ m') : Bd n' m' d := ⟨h.lf, h.sh, Nat.le_trans h.dp hn, Nat.le_trans h.wt hm⟩
theorem Bd.ok {n m : Nat} {d : PyData} (h : Bd n m d) (hn : n ≤ 100) (hm : m ≤ 250000) : Ok d := by
  refine ⟨h.sh, Nat.le_trans h.dp hn, ?_⟩
  have h1 := PyData.shown_le 64 (by decide) d h.lf
  have h2 : (64 + 2) * d.weight + 64 ≤ 16777216 := by
    have := h.wt
    omega
  exact Nat.le_trans h1 h2
theorem all_of {n m : Nat} : ∀ {ds : List PyData}, (∀ x ∈ ds, Bd n m x) → PyData.leavesShortAll 64 ds = true ∧ PyData.showableAll ds = true ∧ PyData.depthAll ds ≤ n ∧ PyData.weightAll ds ≤ ds.length * (m + 1)
  | [], _ => by
    refine ⟨rfl, rfl, ?_, ?_⟩
    · show PyData.depthAll [] ≤ n
      simp only [PyData.depthAll]
      exact Nat.zero_le _
    · simp only [PyData.weightAll]
      exact Nat.zero_le _
  | x :: ds, h => by
    have hx := h x List.mem_cons_self
    obtain ⟨a, b, c, d⟩ := all_of (ds := ds) fun y hy => h y (List.mem_cons_of_mem _ hy)
    refine ⟨?_, ?_, ?_, ?_⟩
    · simp only [PyData.leavesShortAll, hx.lf, a, Bool.and_self]
    · simp only [PyData.showableAll, hx.sh, b, Bool.and_self]
    · simp only [PyData.depthAll]
      have := hx.dp
      omega
    · simp only [PyData.weightAll, List.length_cons, Nat.succ_mul]
      have := hx.wt
      omega
theorem Bd.tuple {n m k : Nat} {ds : List PyData} (h : ∀ x ∈ ds, Bd n m x) (hk : ds.length * (m + 1) ≤ k) : Bd (n + 1) k (.tuple ds) := by
  obtain ⟨a, b, c, d⟩ := all_of h
  exact ⟨by simpa only [PyData.leavesShort] using a, by simpa only [PyData.showable] using b, by simp only [PyData.depth]; omega, by simp only [PyData.weight]; omega⟩
theorem Bd.list {n m k : Nat} {ds : List PyData} (h : ∀ x ∈ ds, Bd n m x) (hk : ds.length * (m + 1) ≤ k) : Bd (n + 1) k (.list ds) := by
  obtain ⟨a, b, c, d⟩ := all_of h
  exact ⟨by simpa only [PyData.leavesShort] using a, by simpa only [PyData.showable] using b, by simp only [PyData.depth]; omega, by simp only [PyData.weight]; omega⟩
theorem Bd.int {n : Nat} {i : Int} (h : i.natAbs < 10 ^ 62) : Bd n 210 (.int i) := by
  have hl : i.natAbs.log2 < 206 := PySem.Flt.log2_lt_of (by decide) (Nat.lt_of_lt_of_le h (by decide +kernel))
  refine ⟨?_, ?_, ?_, ?_⟩
  · simp only [PyData.leavesShort, decide_eq_true_eq]
    exact int_short h
  · simp only [PyData.showable, decide_eq_true_eq]
    omega
  · simp only [PyData.depth]
    exact Nat.zero_le _
  · simp only [PyData.weight]
    split <;> omega
theorem Bd.flat0 {n m : Nat} {d : PyData} (h : d = .none ∨ (∃ b, d = .bool b) ∨ d = .str "" ∨ d = .str "0" ∨ d = .tuple [] ∨ d = .list [] ∨ d = .dict []) (hn : 1 ≤ n) (hm : 1 ≤ m) : Bd n m d := by
  have z : Bd 1 1 d := by
    rcases h with rfl | ⟨b, rfl⟩ | rfl | rfl | rfl | rfl | rfl
    all_goals exact ⟨by decide +kernel +revert, by decide +kernel +revert, by decide +kernel +revert, by decide +kernel +revert⟩
  exact z.mono hn hm
/-! ### rows of data, by their whole weight -/
structure BA (n t : Nat) (ds : List PyData) : Prop where
  lf : PyData.leavesShortAll 64 ds = true
  sh : PyData.showableAll ds = true
  dp : PyData.depthAll ds ≤ n
  wt : PyData.weightAll ds ≤ t
theorem BA.mono {n t n' t' : Nat} {ds : List PyData} (h : BA n t ds) (hn : n ≤ n') (ht : t ≤ t') : BA n' t' ds := ⟨h.lf, h.sh, Nat.le_trans h.dp hn, Nat.le_trans h.wt ht⟩
theorem BA.nil {n t : Nat} : BA n t [] := ⟨rfl, rfl, by simp only [PyData.depthAll]; exact Nat.zero_le _, by simp only [PyData.weightAll]; exact Nat.zero_le _⟩
theorem wa_append : ∀ (ds es : List PyData), PyData.weightAll (ds ++ es) = PyData.weightAll ds + PyData.weightAll es
  | [], es => by simp only [List.nil_append, PyData.weightAll, Nat.zero_add]
  | d :: ds, es => by
    have := wa_append ds es
    simp only [List.cons_append, PyData.weightAll]
    omega
theorem da_append : ∀ (ds es : List PyData), PyData.depthAll (ds ++ es) = max (PyData.depthAll ds) (PyData.depthAll es)
  | [], es => by simp only [List.nil_append, PyData.depthAll, Nat.zero_max]
  | d :: ds, es => by
    have := da_append ds es
    simp only [List.cons_append, PyData.depthAll]
    omega
theorem la_append : ∀ (ds es : List PyData), PyData.leavesShortAll 64 (ds ++ es) = (PyData.leavesShortAll 64 ds && PyData.leavesShortAll 64 es)
  | [], es => by simp only [List.nil_append, PyData.leavesShortAll, Bool.true_and]
  | d :: ds, es => by simp only [List.cons_append, PyData.leavesShortAll, la_append ds es, Bool.and_assoc]
theorem sa_append : ∀ (ds es : List PyData), PyData.showableAll (ds ++ es) = (PyData.showableAll ds && PyData.showableAll es)
  | [], es => by simp only [List.nil_append, PyData.showableAll, Bool.true_and]
  | d :: ds, es => by simp only [List.cons_append, PyData.showableAll, sa_append ds es, Bool.and_assoc]
theorem BA.append {n t u : Nat} {ds es : List PyData} (h : BA n t ds) (g : BA n u es) : BA n (t + u) (ds ++ es) := by
  refine ⟨?_, ?_, ?_, ?_⟩
  · rw [la_append, h.lf, g.lf]
    rfl
  · rw [sa_append, h.sh, g.sh]
    rfl
  · rw [da_append]
    have := h.dp
    have := g.dp
    omega
  · rw [wa_append]
    have := h.wt
    have := g.wt
    omega
theorem BA.parts {n t : Nat} {ds es : List PyData} (h : BA n t (ds ++ es)) : BA n t ds ∧ BA n t es := by
  have h1 := h.lf
  have h2 := h.sh
  have h3 := h.dp
  have h4 := h.wt
  rw [la_append, Bool.and_eq_true] at h1
  rw [sa_append, Bool.and_eq_true] at h2
  rw [da_append] at h3
  rw [wa_append] at h4
  exact ⟨⟨h1.1, h2.1, by omega, by omega⟩, ⟨h1.2, h2.2, by omega, by omega⟩⟩
theorem BA.take {n t : Nat} {ds : List PyData} (h : BA n t ds) (k : Nat) : BA n t (ds.take k) := by
  rw [← List.take_append_drop k ds] at h
  exact h.parts.1
theorem BA.drop {n t : Nat} {ds : List PyData} (h : BA n t ds) (k : Nat) : BA n t (ds.drop k) := by
  rw [← List.take_append_drop k ds] at h
  exact h.parts.2
theorem BA.cut {n t : Nat} {ds : List PyData} (h : BA n t ds) (lo hi : Option Int) : BA n t (cutD ds lo hi) := (h.drop _).take _
theorem BA.one {n m : Nat} {d : PyData} (h : Bd n m d) : BA n (m + 1) [d] := by
  refine ⟨?_, ?_, ?_, ?_⟩
  · simp only [PyData.leavesShortAll, h.lf, Bool.and_self]
  · simp only [PyData.showableAll, h.sh, Bool.and_self]
  · simp only [PyData.depthAll]
    have := h.dp
    omega
  · simp only [PyData.weightAll]
    have := h.wt
    omega
theorem BA.rev {n t : Nat} : ∀ {ds : List PyData}, BA n t ds → BA n t ds.reverse
  | [], h => h
  | d :: ds, h => by
    have e : d :: ds = [d] ++ ds := rfl
    have p := (e ▸ h : BA n t ([d] ++ ds)).parts
    have hw := h.wt
    simp only [PyData.weightAll] at hw
    have r : BA n (PyData.weightAll ds) ds.reverse := BA.rev ⟨p.2.lf, p.2.sh, p.2.dp, Nat.le_refl _⟩
    have o : BA n (d.weight + 1) [d] := ⟨p.1.lf, p.1.sh, p.1.dp, by simp only [PyData.weightAll]; omega⟩
    rw [List.reverse_cons]
    exact (r.append o).mono (Nat.le_refl _) (by omega)
theorem BA.tuple {n t : Nat} {ds : List PyData} (h : BA n t ds) : Bd (n + 1) t (.tuple ds) :=
  ⟨by simpa only [PyData.leavesShort] using h.lf, by simpa only [PyData.showable] using h.sh, by simp only [PyData.depth]; have := h.dp; omega, by simp only [PyData.weight]; exact h.wt⟩
theorem BA.list {n t : Nat} {ds : List PyData} (h : BA n t ds) : Bd (n + 1) t (.list ds) :=
  ⟨by simpa only [PyData.leavesShort] using h.lf, by simpa only [PyData.showable] using h.sh, by simp only [PyData.depth]; have := h.dp; omega, by simp only [PyData.weight]; exact h.wt⟩
/-- v is a tuple of the data ds, apart from some places -/
def Tp (as : List Addr) (H : Hp) (b : Addr) (ds : List PyData) : Prop := b ∉ as ∧ ∃ xs, TupN H b xs ∧ DA true (remL as H) xs ds
theorem Tp.same {as : List Addr} {H H' : Hp} {b : Addr} {ds : List PyData} (h : Tp as H b ds) (s : Same H H') : Tp as H' b ds := by
  obtain ⟨n, xs, e, t⟩ := h
  exact ⟨n, xs, e.same s, t.same (same_remL s)⟩
theorem Tp.kp {as : List Addr} {a : Addr} {H H' : Hp} {b : Addr} {ds : List PyData} (h : Tp as H b ds) (ha : a ∈ as) (k : Kp a H H') : Tp as H' b ds := by
  obtain ⟨n, xs, e, t⟩ := h
  obtain ⟨o, e, z⟩ := e
  exact ⟨n, xs, ⟨o, k _ _ (fun z => n (z ▸ ha)) e, z⟩, t.same (k.remL ha)⟩
theorem Tp.d {as : List Addr} {H : Hp} {b : Addr} {ds : List PyData} (h : Tp as H b ds) : D true (remL as H) (.ref b) (.tuple ds) := by
  obtain ⟨n, xs, e, t⟩ := h
  obtain ⟨o, e, z⟩ := e
  exact .tup ⟨o, by rw [remL_ne n]; exact e, z⟩ t
end Lw

namespace Lw
open PySem PySem.Spec PyProof.Rows L2

/-! ### rows of ints, by their order -/
abbrev lex := HT.lexLt
/-- v is a tuple of the ints ns -/
def TI (h : Heap) (v : Value) (ns : List Int) : Prop := ∃ (a : Addr) (o : Obj) (its : Array Value) (n : Nat), v = .ref a ∧ h.get? a = some o ∧ o.cls = .type "tuple" ∧ o.data = .seq its n ∧ IntsAre its.toList ns
theorem TI.keeps {h h' : Heap} {v : Value} {ns : List Int} (t : TI h v ns) (k : ∀ b o, h.get? b = some o → o.cls = .type "tuple" → h'.get? b = some o) : TI h' v ns := by
  obtain ⟨a, o, its, n, e, ho, hc, r⟩ := t
  exact ⟨a, o, its, n, e, k a o ho hc, hc, r⟩
section
variable {prog : Program} {w : World} {A : Around} {E : Value → Shared → Prop} {s : Shared} {Q : Bool → Shared → Prop}
end
section
variable {M : Model} {A : Around} {E : Value → Shared → Prop} {s : Shared}
end
section
variable {prog : Program} {w : World} {A : Around} {E : Value → Shared → Prop} {s : Shared}
end
/-! ### sorted of a tuple -/
section
variable {prog : Program} {w : World} {A : Around} {E : Value → Shared → Prop} {s : Shared}
end
section
variable {X : Cx}
end
end Lw

namespace Lw
open PySem PySem.Spec PyProof.Rows L2

/-! ### comprehensions over a tuple, over a range -/
/-! ### the k-th greatest -/
section
variable {α : Type}
def above (key : α → List Int) (xs : List α) (v : α) : Nat := (xs.filter fun x => lex (key v) (key x)).length
end
end Lw

namespace Lw
open PySem PySem.Spec PyProof.Rows L2

/-! ### a text once or not at all -/
def rMulS : R2 := fun x y H Q => ∃ (z : Str) (b : Bool), x = .str z ∧ y = .int (if b = true then 1 else 0) ∧ Q (.str (if b = true then z else Str.empty)) H
theorem op_mulS {X : Cx} : OpR X (binaryOp .Mult) rMulS := by
  intro pins s σ H x y v u Q I rx ry h
  obtain ⟨z, b, rfl, rfl, q⟩ := h
  obtain ⟨t, rfl⟩ := rx
  obtain ⟨t', rfl⟩ := ry
  cases b with
  | false => exact PySem.P.mul_str_none (by decide) (by decide) ⟨.str Str.empty, H, I.tok _, ⟨_, rfl⟩, q⟩
  | true =>
    refine PySem.P.mul_str (by decide) (fun _ e => ?_) (fun _ e => ?_) ?_
    · exact absurd e (by simp)
    · exact absurd e (by simp)
    · exact ⟨.str z, H, I, ⟨_, rfl⟩, q⟩

/-! ### a tuple once, or several times -/
theorem tuple_mul1 (l : Addr) (items : Array Value) (n : Nat) (dd : Option Addr) (sl : Array (Option Value)) (u : Tok) :
    Meets (Builtin.«tuple.__mul__» ⟨[.ref l, .int 1 u], []⟩) (fun _ R s => s.heap.get? l = some { cls := .type "tuple", dict := dd, data := .seq items n, slots := sl } ∧ R (.ok (.ret (Value.ref l))) s) :=
  .of_wp fun prog w A R s h => by
    obtain ⟨hp, g, d, tk, os⟩ := s
    obtain ⟨hl, h⟩ := h
    have f1 := AutoSeq1.idx_int
    wp_walk using wpAny_loadPart' hl
    exact ⟨_, rfl, h⟩
/-! ### len, the written part told -/
/-! ### texts of letters -/
def Lt (z : Str) : Prop := ∀ c ∈ z.cps.toList, 97 ≤ c ∧ c ≤ 122
theorem app_cps (x y : Str) : (x ++ y).cps.toList = x.cps.toList ++ y.cps.toList := by
  show (x.cps ++ y.cps).toList = _
  simp
theorem len_cps (z : Str) : z.length = z.cps.toList.length := by
  show z.cps.size = _
  simp
theorem lt_app {x y : Str} (hx : Lt x) (hy : Lt y) : Lt (x ++ y) := by
  intro c hc
  rw [app_cps] at hc
  rcases List.mem_append.mp hc with h | h
  · exact hx c h
  · exact hy c h
theorem lt_one {c : Nat} (h : 97 ≤ c ∧ c ≤ 122) : Lt ⟨#[c]⟩ := by
  intro d hd
  have e : d = c := by simpa using hd
  rw [e]
  exact h
theorem lt_empty : Lt Str.empty := by
  intro c hc
  exact absurd hc (by decide +revert)
theorem lt_cut {z : Str} (h : Lt z) (lo hi : Option Int) : Lt (cutS z lo hi) := by
  intro c hc
  have hc' : c ∈ (z.cps.toList.drop (HT.sIx z.length 0 lo)).take (HT.sIx z.length z.length hi - HT.sIx z.length 0 lo) := by
    have : (cutS z lo hi).cps.toList = (z.cps.toList.drop (HT.sIx z.length 0 lo)).take (HT.sIx z.length z.length hi - HT.sIx z.length 0 lo) := by
      unfold cutS
      simp
    rw [← this]
    exact hc
  exact h c (List.mem_of_mem_drop (List.mem_of_mem_take hc'))
theorem cut_len (z : Str) (lo hi : Option Int) : (cutS z lo hi).length = min (HT.sIx z.length z.length hi - HT.sIx z.length 0 lo) (z.length - HT.sIx z.length 0 lo) := by
  rw [len_cps (cutS z lo hi)]
  unfold cutS
  show ((z.cps.toList.drop (HT.sIx z.length 0 lo)).take (HT.sIx z.length z.length hi - HT.sIx z.length 0 lo)).toArray.toList.length = _
  rw [List.toList_toArray, List.length_take, List.length_drop, ← len_cps]
theorem cut_two (z : Str) (i : Nat) : (cutS z none (some (i : Int))).length + (cutS z (some (i : Int)) none).length = z.length := by
  rw [cut_len, cut_len, HT.sIx_none, HT.sIx_none, HT.sIx_nat, HT.sIx_nat]
  omega
theorem join_lt : ∀ {ys : List Str}, (∀ y ∈ ys, Lt y) → Lt (Str.join Str.empty ys) ∧ (Str.join Str.empty ys).length = (ys.map (·.length)).sum
  | [], _ => ⟨lt_empty, rfl⟩
  | [y], h => ⟨h y List.mem_cons_self, by simp [Str.join]⟩
  | x :: y :: r, h => by
    obtain ⟨h1, h2⟩ := join_lt (ys := y :: r) fun z hz => h z (List.mem_cons_of_mem _ hz)
    have e : Str.join Str.empty (x :: y :: r) = x ++ Str.empty ++ Str.join Str.empty (y :: r) := rfl
    refine ⟨by rw [e]; exact lt_app (lt_app (h x List.mem_cons_self) lt_empty) h1, ?_⟩
    rw [e, strLen_append, strLen_append, h2]
    simp only [List.map_cons, List.sum_cons]
    have : Str.empty.length = 0 := rfl
    omega
end Lw

namespace Lw
open PySem PySem.Spec PyProof.Rows L2

/-! ### a tuple beside none -/
def rNe0 : R2 := fun x y H Q => ∃ a b xs, x = .ref a ∧ y = .ref b ∧ Rd H a (.tup xs) ∧ Rd H b (.tup []) ∧ Q (.bl (!decide (xs.length = 0))) H
def rEq0 : R2 := fun x y H Q => ∃ a b xs, x = .ref a ∧ y = .ref b ∧ Rd H a (.tup xs) ∧ Rd H b (.tup []) ∧ Q (.bl (decide (xs.length = 0))) H
theorem op_ne0 {X : Cx} {k : Nat} (room : Room k X.A) : OpR X (compareOp .NotEq) rNe0 := by
  intro pins s σ H x y v u Q I rx ry h
  obtain ⟨a, b, xs, rfl, rfl, ha, hb, q⟩ := h
  cases rx
  cases ry
  obtain ⟨its, r1, p1, _⟩ := I.tuple (.inl ha)
  obtain ⟨its2, r2, p2, _⟩ := I.tuple (.inl hb)
  cases r2
  have hl := r1.length
  refine SeqAt.RcNeAt.tuples (e := fun _ => true) p1 p2 room.units0 (fun j h1 h2 => absurd h2 (Nat.not_lt_zero j)) X.prog X.w X.xe _ ?_
  have e : (!((List.range (min its.toArray.size ([] : List Value).toArray.size)).all (fun _ => true) && its.toArray.size == ([] : List Value).toArray.size)) = !decide (xs.length = 0) := by
    rw [List.size_toArray, ← hl]
    show (!(((List.range (min xs.length 0)).all fun _ => true) && (xs.length == 0))) = _
    rw [Nat.min_zero]
    show (!(true && (xs.length == 0))) = _
    rw [Bool.true_and]
    rfl
  rw [e]
  exact ⟨.bl (!decide (xs.length = 0)), H, I, rfl, q⟩
theorem op_eq0 {X : Cx} {k : Nat} (room : Room k X.A) : OpR X (compareOp .Eq) rEq0 := by
  intro pins s σ H x y v u Q I rx ry h
  obtain ⟨a, b, xs, rfl, rfl, ha, hb, q⟩ := h
  cases rx
  cases ry
  obtain ⟨its, r1, p1, _⟩ := I.tuple (.inl ha)
  obtain ⟨its2, r2, p2, _⟩ := I.tuple (.inl hb)
  cases r2
  have hl := r1.length
  refine SeqAt.RcAt.tuples (e := fun _ => true) p1 p2 room.units0 (fun j h1 h2 => absurd h2 (Nat.not_lt_zero j)) X.prog X.w X.xe _ ?_
  have e : ((List.range (min its.toArray.size ([] : List Value).toArray.size)).all (fun _ => true) && its.toArray.size == ([] : List Value).toArray.size) = decide (xs.length = 0) := by
    rw [List.size_toArray, ← hl]
    show (((List.range (min xs.length 0)).all fun _ => true) && (xs.length == 0)) = _
    rw [Nat.min_zero]
    show (true && (xs.length == 0)) = _
    rw [Bool.true_and]
    rfl
  rw [e]
  exact ⟨.bl (decide (xs.length = 0)), H, I, rfl, q⟩

/-! ### more of how large data are -/
theorem Bd.small {n : Nat} {i : Int} (h : i.natAbs < 16) : Bd n 5 (.int i) := by
  have hl : i.natAbs.log2 < 4 := PySem.Flt.log2_lt_of (by decide) h
  have b := Bd.int (n := n) (i := i) (Nat.lt_trans h (by decide +kernel))
  refine ⟨b.lf, b.sh, b.dp, ?_⟩
  simp only [PyData.weight]
  split <;> omega
theorem D.tupOf {f : Bool} {H : Hp} {v : V} {ds : List PyData} (h : D f H v (.tuple ds)) : ∃ a xs, v = .ref a ∧ TupN H a xs ∧ DA f H xs ds := by
  cases h with
  | tup e t => exact ⟨_, _, rfl, e, t⟩
theorem Tp.of {as : List Addr} {H : Hp} {v : V} {ds : List PyData} (h : D true (remL as H) v (.tuple ds)) : ∃ b, v = .ref b ∧ Tp as H b ds := by
  obtain ⟨b, xs, e, g, t⟩ := h.tupOf
  obtain ⟨o, g, z⟩ := g
  obtain ⟨n, g'⟩ := remL_some g
  exact ⟨b, e, n, xs, ⟨o, g', z⟩, t⟩

/-! ### a list of a tuple's parts, its place not that of sys.modules -/
theorem call_listN {X : Cx} : CallR X (.type "list") (fun vs H Q => ∃ b ys, vs = [.ref b] ∧ Rd H b (.tup ys) ∧ ∀ l, H l = none → l ≠ sysModules → Q (.ref l) (upd H l (.lst ys))) := by
  intro pins s σ H vs us Q I rv ⟨b, ys, e, hb, q⟩
  subst e
  obtain ⟨u, rfl, ru⟩ := vals1 rv
  cases ru
  obtain ⟨its, rr, pl, hz⟩ := I.tuple (.inl hb)
  have hlen := rr.length
  obtain ⟨o, ho, hc, n, hd⟩ := pl
  have far : s.heap.objs.size ≠ sysModules := by
    have h1 : mainGlobals < X.base.objs.size := I.ok.mod.glob.lt
    have h2 := Nat.le_trans I.ok.bsz I.sz
    exact Nat.ne_of_gt (Nat.lt_of_lt_of_le (Nat.lt_trans (by decide) h1) h2)
  refine call_list_seq b (.inr rfl) ho hc hd (fun h' c kp e => ?_) (by rw [List.size_toArray]; omega)
  have new := q _ (I.hok.fresh (Nat.le_refl _)) far
  exact ⟨.ref s.heap.objs.size, _, I.laid (o := .lst ys) (t' := s.toks) kp (Nat.le_refl _) ⟨hz, its, c, rr, e⟩, rfl, new⟩

/-! ### places that were free -/
theorem Kp.free {a p : Addr} {H H' : Hp} {o : HO} (k : Kp a H H') (h : H p = none) : Kp a H (L2.upd H' p o) := fun b u n e => by
  have nb : b ≠ p := fun z => by
    rw [z, h] at e
    cases e
  rw [upd_ne nb]
  exact k b u n e
theorem Kp.none {a p : Addr} {n : Nat} {H H' : Hp} (k : Kp a H H') (g : Hd H' a n) (h : H' p = Option.none) : H p = Option.none := by
  have np : p ≠ a := fun z => by
    obtain ⟨_, _, _, e, _⟩ := g
    rw [z, e] at h
    cases h
  cases e : H p with
  | none => rfl
  | some o =>
    rw [k p o np e] at h
    cases h
theorem Tp.cut {as : List Addr} {H H' : Hp} {b p : Addr} {xs : List V} {ds : List PyData} {lo hi : Option Int} (nb : b ∉ as) (da : DA true (remL as H) xs ds) (tr : Trk as H) (s : Same H H') (e : TupN H' p (cutV xs lo hi)) (o : p = b ∨ H p = Option.none) : Tp as H' p (cutD ds lo hi) := by
  refine ⟨?_, _, e, (da.cut lo hi).same (same_remL s)⟩
  rcases o with rfl | o
  · exact nb
  · exact tr.new o
theorem Hd.at {H : Hp} {a p : Addr} {n : Nat} {o : HO} (h : Hd H a n) (np : p ≠ a) : Hd (upd H p o) a n := by
  obtain ⟨g, m, c, e, r⟩ := h
  exact ⟨g, m, c, by rw [upd_ne np.symm]; exact e, r⟩
theorem Hd.new {H : Hp} {a p : Addr} {n : Nat} (h : Hd H a n) (e : H p = Option.none) : p ≠ a := fun z => by
  obtain ⟨_, _, _, g, _⟩ := h
  rw [z, g] at e
  cases e
theorem Trk.at {as : List Addr} {H : Hp} {p : Addr} {o : HO} (t : Trk as H) : Trk as (upd H p o) := fun b hb z => by
  by_cases e : b = p
  · rw [e, upd_same] at z
    cases z
  · rw [upd_ne e] at z
    exact t b hb z
theorem Trk.cons {as : List Addr} {H : Hp} {p : Addr} (t : Trk as H) (h : H p ≠ Option.none) : Trk (p :: as) H := fun b hb => by
  rcases List.mem_cons.mp hb with e | e
  · rw [e]
    exact h
  · exact t b e
/-- none, or a small number -/
def Spot (v : V) : Prop := v = .non ∨ ∃ k : Nat, v = .int k ∧ k < 16
theorem Spot.d {H : Hp} {v : V} (h : Spot v) : ∃ d, D true H v d ∧ Bd 1 5 d := by
  rcases h with e | ⟨k, e, hk⟩
  · subst e
    exact ⟨.none, .non, Bd.flat0 (.inl rfl) (by decide) (by decide)⟩
  · subst e
    exact ⟨.int k, .int _, Bd.small (by omega)⟩
end Lw

namespace Lw
open PySem PySem.Spec PyProof.Rows L2

/-! ### one tuple of ints above another -/
/-! ### a tuple of ints taken out of a list -/
theorem FnOk.never {P : Program} {w : World} {K : PySem.W.Frag} {mg : Str → Option Value} {base : Heap} {k : Nat} {f : Addr} {fd : FuncData} {ps : List Str} : FnOk P w K mg base CX0 k f fd ps (fun _ _ _ _ => False) :=
  ⟨fun _ _ _ _ h => h.elim, fun _ _ _ _ _ _ _ _ _ _ _ _ _ h => h.elim⟩
end Lw

namespace Lw
open PySem PySem.Spec PyProof.Rows L2

/-! ### the k-th of keys: which keys it can be -/
/-! ### two of them -/
/-! ### the greatest of the leasts of all lots of k -/
end Lw

namespace Lw
open PySem PySem.Spec PyProof.Rows L2

/-! ### a list beside an empty one -/
/-! ### all lots of a row, as they are made -/
/-! ### rows side by side -/
theorem Paired.get {α β : Type} {F : α → β → Prop} : ∀ {l₁ : List α} {l₂ : List β} (i : Nat) {x : α} {y : β}, Paired F l₁ l₂ → l₁[i]? = some x → l₂[i]? = some y → F x y
  | _, _, i, x, y, .nil, h, _ => by simp at h
  | _, _, 0, x, y, .cons h t, h1, h2 => by
    have e1 := Option.some.inj h1
    have e2 := Option.some.inj h2
    subst e1 e2
    exact h
  | _, _, i + 1, x, y, .cons h t, h1, h2 => Paired.get i t h1 h2
theorem Paired.app {α β : Type} {F : α → β → Prop} : ∀ {l₁ m₁ : List α} {l₂ m₂ : List β}, Paired F l₁ l₂ → Paired F m₁ m₂ → Paired F (l₁ ++ m₁) (l₂ ++ m₂)
  | _, _, _, _, .nil, h => h
  | _, _, _, _, .cons a t, h => .cons a (Paired.app t h)
theorem Paired.take {α β : Type} {F : α → β → Prop} : ∀ {l₁ : List α} {l₂ : List β} (n : Nat), Paired F l₁ l₂ → Paired F (l₁.take n) (l₂.take n)
  | _, _, 0, _ => by rw [List.take_zero, List.take_zero]; exact .nil
  | _, _, n + 1, .nil => .nil
  | _, _, n + 1, .cons a t => .cons a (Paired.take n t)
theorem Paired.drop {α β : Type} {F : α → β → Prop} : ∀ {l₁ : List α} {l₂ : List β} (n : Nat), Paired F l₁ l₂ → Paired F (l₁.drop n) (l₂.drop n)
  | _, _, 0, h => h
  | _, _, n + 1, .nil => .nil
  | _, _, n + 1, .cons a t => Paired.drop n t
end Lw

namespace Lw
open PySem PySem.Spec PyProof.Rows L2

/-! ### a text beside anything -/
section
open AutoSeq1 (wpAny_loadPart')
theorem dict_eq_declines_str (l : Addr) (es : Array DictEntry) (ep : Nat) (dd : Option Addr) (sl : Array (Option Value)) (b : Str) (u : Tok) :
    Meets (Builtin.«dict.__eq__» ⟨[.ref l, .str b u], []⟩) (fun _ R s => s.heap.get? l = some { cls := .type "dict", dict := dd, data := .dict es ep, slots := sl } ∧ R (.ok (.ret .notImplemented)) s) :=
  .of_wp fun prog w A R s h => by obtain ⟨hp, g, d, tk, os⟩ := s; obtain ⟨hl, h⟩ := h; have f1 := F.sub_str_dict; wp_walk using wpAny_loadPart' hl; exact ⟨_, rfl, h⟩
theorem str_eq_declines_dict (b : Str) (u : Tok) (l : Addr) (c : Value) (es : Array DictEntry) (ep : Nat) (dd : Option Addr) (sl : Array (Option Value)) :
    Meets (Builtin.«str.__eq__» ⟨[.str b u, .ref l], []⟩) (fun _ R s => s.heap.get? l = some { cls := c, dict := dd, data := .dict es ep, slots := sl } ∧ R (.ok (.ret .notImplemented)) s) :=
  .of_wp fun prog w A R s h => by obtain ⟨hp, g, d, tk, os⟩ := s; obtain ⟨hl, h⟩ := h; wp_walk using wpAny_loadPart' hl, wpAny_load hl; exact ⟨_, rfl, h⟩
theorem rc_str_dict {A : Around} {s : Shared} {l : Addr} {o : Obj} {es : Array DictEntry} {ep : Nat} (b : Str) (u : Tok) (ho : s.heap.get? l = some o) (hc : o.cls = .type "dict") (hd : o.data = .dict es ep) (hu : A.units < cLine) : SeqAt.RcAt A s (.str b u) (.ref l) false := fun prog w E Q h => by
  obtain ⟨cls, dd, data, sl⟩ := o
  simp only at hc hd
  subst hc hd
  exact SeqAt.rc_eq_decline_or (k := false) (typeIs_str s b u) ⟨_, ho, rfl⟩ (by decide) F.sub_dict_str F.slot_str_eq F.slot_dict_eq_refl
    (fun _ hq => call_meets F.slot_str_eq (typeIs_str s b u) F.entry_str_eq (F.args_str_eq_2 _ _) (str_eq_declines_dict b u l (.type "dict") es ep dd sl) ⟨ho, hq⟩)
    (fun _ hq => call_meets F.slot_dict_eq_refl ⟨_, ho, rfl⟩ F.entry_dict_eq (F.args_dict_eq_2 _ _) (dict_eq_declines_str l es ep dd sl b u) ⟨ho, hq⟩)
    (fun _ hq => wpAny_of_eq (rfl : isSame (.str b u) (.ref l) = pure false) hq) (.inr hu) h
end
def strIs (z : Str) : PyData → Bool
  | .str y => z == y
  | _ => false
def rEqSD : R2 := fun x y H Q => ∃ (z : Str) (d : PyData) (f : Bool), x = .str z ∧ D f H y d ∧ Q (.bl (strIs z d)) H
theorem op_eqSD {X : Cx} {k : Nat} (room : Room k X.A) : OpR X (compareOp .Eq) rEqSD := by
  intro pins s σ H x y v u Q I rx ry h
  obtain ⟨z, d, f, rfl, hd, q⟩ := h
  obtain ⟨t, rfl⟩ := rx
  have fin : ∀ b : Bool, b = strIs z d → SeqAt.RcAt X.A s (.str z t) u b → wpAny (model X.prog X.w) X.A (compareOp .Eq (.str z t) u) (fun r s' => EP X pins σ Q r s') X.xe s := fun b e rc => by
    refine rc X.prog X.w X.xe _ ?_
    rw [e]
    exact ⟨.bl (strIs z d), H, I, rfl, q⟩
  cases hd with
  | non =>
    cases ry
    exact fin false rfl (SeqAt.RcAt.str_none z t)
  | bl b =>
    cases ry
    exact fin false rfl (SeqAt.RcAt.str_bool z t b)
  | int i =>
    obtain ⟨t2, rfl⟩ := ry
    exact fin false rfl (SeqAt.RcAt.str_int z t i t2)
  | str y =>
    obtain ⟨t2, rfl⟩ := ry
    exact fin _ rfl (SeqAt.RcAt.str_str z t y t2)
  | @lst a xs ds e n dt =>
    cases (show u = Value.ref a from ry)
    obtain ⟨_, its, k, rv, ho⟩ := (show ObjOk X.prog X.w H s.heap a (.lst xs) from I.hok a _ e)
    exact fin false rfl (SeqAt.RcAt.str_list z t ⟨_, ho, rfl, _, rfl⟩ room.units0)
  | @tup a xs ds e dt =>
    cases (show u = Value.ref a from ry)
    obtain ⟨_, its, rv, o, ho, hc, k, hd⟩ := (show ObjOk X.prog X.w H s.heap a (.tup xs) from e.rd.ok I.hok)
    exact fin false rfl (SeqAt.RcAt.str_tuple z t ⟨_, ho, hc, _, hd⟩ room.units0)
  | @dct a kvs ds e dt =>
    cases (show u = Value.ref a from ry)
    obtain ⟨_, ns, vs, kv, o, es, ep, ho, ex, hd, _, pr, _⟩ := (show ObjOk X.prog X.w H s.heap a (.dK kvs) from I.hok a _ e)
    exact fin false rfl (rc_str_dict z t ho ex.1 hd room.units0)
end Lw

namespace Lw
open PySem PySem.Spec PyProof.Rows L2

/-! ### truths as numbers -/
def isN (v : V) (i : Int) : Prop := v = .int i ∨ ∃ b : Bool, v = .bl b ∧ i = if b = true then 1 else 0
def rAddN : R2 := fun x y H Q => ∃ i j, isN x i ∧ y = .int j ∧ Q (.int (i + j)) H
def rSubN : R2 := fun x y H Q => ∃ i j, isN x i ∧ y = .int j ∧ Q (.int (i - j)) H
def rSubM : R2 := fun x y H Q => ∃ i j, x = .int i ∧ isN y j ∧ Q (.int (i - j)) H
section
variable {X : Cx}
theorem op_addN : OpR X (binaryOp .Add) rAddN := by
  intro pins s σ H x y v u Q I rx ry h
  obtain ⟨i, j, hi, rfl, q⟩ := h
  rcases hi with rfl | ⟨b, rfl, rfl⟩
  · exact op_add pins s σ H _ _ v u Q I rx ry ⟨i, j, rfl, rfl, q⟩
  · cases rx
    obtain ⟨t, rfl⟩ := ry
    exact PySem.IntBool.add_bool_int ⟨.int _, H, I.tok _, ⟨_, rfl⟩, q⟩
theorem op_subN : OpR X (binaryOp .Sub) rSubN := by
  intro pins s σ H x y v u Q I rx ry h
  obtain ⟨i, j, hi, rfl, q⟩ := h
  rcases hi with rfl | ⟨b, rfl, rfl⟩
  · exact op_sub pins s σ H _ _ v u Q I rx ry ⟨i, j, rfl, rfl, q⟩
  · cases rx
    obtain ⟨t, rfl⟩ := ry
    exact PySem.IntBool.sub_bool_int ⟨.int _, H, I.tok _, ⟨_, rfl⟩, q⟩
theorem op_subM : OpR X (binaryOp .Sub) rSubM := by
  intro pins s σ H x y v u Q I rx ry h
  obtain ⟨i, j, rfl, hj, q⟩ := h
  rcases hj with rfl | ⟨b, rfl, rfl⟩
  · exact op_sub pins s σ H _ _ v u Q I rx ry ⟨i, j, rfl, rfl, q⟩
  · cases ry
    obtain ⟨t, rfl⟩ := rx
    exact PySem.IntBool.sub_int_bool ⟨.int _, H, I.tok _, ⟨_, rfl⟩, q⟩
def strN : V → Str
  | .int i => Str.ofString (toString i)
  | .bl b => Str.ofString (if b = true then "True" else "False")
  | _ => Str.empty
theorem call_strN : CallR X (.type "str") (fun xs H Q => ∃ v i, xs = [v] ∧ isN v i ∧ i.natAbs.log2 < 1920 ∧ Q (.str (strN v)) H) := by
  intro pins s σ H xs us Q I r h
  obtain ⟨v, i, rfl, hi, hz, q⟩ := h
  rcases hi with rfl | ⟨b, rfl, rfl⟩
  · obtain ⟨u, rfl, t, rfl⟩ := vals1 r
    exact PySem.P.str_of_int hz ⟨.str _, H, I.tok _, ⟨_, rfl⟩, q⟩
  · obtain ⟨u, rfl, r1⟩ := vals1 r
    cases r1
    refine PySem.P.str_of_bool ⟨.str _, H, I.tok _, ⟨_, rfl⟩, ?_⟩
    cases b <;> exact q
/-! ### a list beside an empty one -/
end
/-! ### texts, and how large they are -/
theorem Bd.chars {n m : Nat} {z : Str} (h : Bd n m (.str z)) : (∀ c ∈ z.cps.toList, c < 16 ^ 8) ∧ z.length ≤ m := by
  have h1 := h.lf
  have h2 := h.wt
  simp only [PyData.leavesShort, List.all_eq_true, decide_eq_true_eq] at h1
  simp only [PyData.weight] at h2
  exact ⟨h1, h2⟩
theorem bd_chars {n m : Nat} {z : Str} (h : ∀ c ∈ z.cps.toList, c < 16 ^ 8) (hm : z.length ≤ m) : Bd n m (.str z) := by
  refine ⟨?_, rfl, ?_, ?_⟩
  · simp only [PyData.leavesShort, List.all_eq_true, decide_eq_true_eq]
    exact h
  · simp only [PyData.depth]
    exact Nat.zero_le _
  · simp only [PyData.weight]
    exact hm
theorem Bd.app {n m k : Nat} {z y : Str} (h : Bd n m (.str z)) (g : Bd n k (.str y)) : Bd n (m + k) (.str (z ++ y)) := by
  obtain ⟨h1, h2⟩ := h.chars
  obtain ⟨g1, g2⟩ := g.chars
  refine bd_chars (fun c hc => ?_) ?_
  · rw [app_cps] at hc
    rcases List.mem_append.mp hc with e | e
    · exact h1 c e
    · exact g1 c e
  · rw [len_cps, app_cps, List.length_append, ← len_cps, ← len_cps]
    omega
theorem Bd.cutS {n m : Nat} {z : Str} (h : Bd n m (.str z)) (lo hi : Option Int) : Bd n m (.str (cutS z lo hi)) := by
  obtain ⟨h1, h2⟩ := h.chars
  refine bd_chars (fun c hc => h1 c ?_) (Nat.le_trans (cutS_length z lo hi) h2)
  unfold L2.cutS at hc
  simp only [Array.toList_extract, List.extract] at hc
  exact List.mem_of_mem_drop (List.mem_of_mem_take hc)
/-! ### numbers that are not far -/
mutual
def inB (B : Nat) : PyData → Bool
  | .none | .bool _ | .str _ => true
  | .int i => decide (i.natAbs < B)
  | .list xs | .tuple xs => inBAll B xs
  | .dict kvs => inBKv B kvs
def inBAll (B : Nat) : List PyData → Bool
  | [] => true
  | x :: xs => inB B x && inBAll B xs
def inBKv (B : Nat) : List (PyData × PyData) → Bool
  | [] => true
  | (k, v) :: r => inB B k && inB B v && inBKv B r
end
theorem inB_all {B : Nat} : ∀ {ds : List PyData}, inBAll B ds = true ↔ ∀ d ∈ ds, inB B d = true
  | [] => by simp [inBAll]
  | d :: ds => by
    simp only [inBAll, Bool.and_eq_true, inB_all (ds := ds), List.mem_cons]
    constructor
    · rintro ⟨a, b⟩ x (e | e)
      · rw [e]; exact a
      · exact b x e
    · intro h
      exact ⟨h d (.inl rfl), fun x hx => h x (.inr hx)⟩
theorem inB_tup {B : Nat} {ds : List PyData} : inB B (.tuple ds) = true ↔ ∀ d ∈ ds, inB B d = true := by
  simp only [inB]
  exact inB_all
theorem inB_lst {B : Nat} {ds : List PyData} : inB B (.list ds) = true ↔ ∀ d ∈ ds, inB B d = true := by
  simp only [inB]
  exact inB_all
mutual
theorem inB_mono {B C : Nat} (h : B ≤ C) : ∀ d : PyData, inB B d = true → inB C d = true
  | .none, _ => by simp [inB]
  | .bool _, _ => by simp [inB]
  | .str _, _ => by simp [inB]
  | .int i, g => by
    simp only [inB, decide_eq_true_eq] at g ⊢
    omega
  | .list xs, g => by
    simp only [inB] at g ⊢
    exact inBAll_mono h xs g
  | .tuple xs, g => by
    simp only [inB] at g ⊢
    exact inBAll_mono h xs g
  | .dict kvs, g => by
    simp only [inB] at g ⊢
    exact inBKv_mono h kvs g
theorem inBAll_mono {B C : Nat} (h : B ≤ C) : ∀ ds : List PyData, inBAll B ds = true → inBAll C ds = true
  | [], _ => by simp [inBAll]
  | d :: ds, g => by
    simp only [inBAll, Bool.and_eq_true] at g ⊢
    exact ⟨inB_mono h d g.1, inBAll_mono h ds g.2⟩
theorem inBKv_mono {B C : Nat} (h : B ≤ C) : ∀ ds : List (PyData × PyData), inBKv B ds = true → inBKv C ds = true
  | [], _ => by simp [inBKv]
  | (k, v) :: ds, g => by
    simp only [inBKv, Bool.and_eq_true] at g ⊢
    exact ⟨⟨inB_mono h k g.1.1, inB_mono h v g.1.2⟩, inBKv_mono h ds g.2⟩
end
end Lw

namespace Lw
open PySem PySem.Spec PyProof.Rows L2

/-! ### enumerate of a tuple -/
section
open AutoSeq1 (wpAny_loadPart')
end
section
variable {prog : Program} {w : World} {A : Around} {E : Value → Shared → Prop} {s : Shared}
end
end Lw

namespace Lw
open PySem PySem.Spec PyProof.Rows L2

/-! ### anything beside a text -/
theorem rc_dict_str {A : Around} {s : Shared} {l : Addr} {o : Obj} {es : Array DictEntry} {ep : Nat} (b : Str) (u : Tok) (ho : s.heap.get? l = some o) (hc : o.cls = .type "dict") (hd : o.data = .dict es ep) (hu : A.units < cLine) : SeqAt.RcAt A s (.ref l) (.str b u) false := fun prog w E Q h => by
  obtain ⟨cls, dd, data, sl⟩ := o
  simp only at hc hd
  subst hc hd
  exact SeqAt.rc_eq_decline_or (k := false) ⟨_, ho, rfl⟩ (typeIs_str s b u) (by decide) F.sub_str_dict F.slot_dict_eq F.slot_str_eq_refl
    (fun _ hq => call_meets F.slot_dict_eq ⟨_, ho, rfl⟩ F.entry_dict_eq (F.args_dict_eq_2 _ _) (dict_eq_declines_str l es ep dd sl b u) ⟨ho, hq⟩)
    (fun _ hq => call_meets F.slot_str_eq_refl (typeIs_str s b u) F.entry_str_eq (F.args_str_eq_2 _ _) (str_eq_declines_dict b u l (.type "dict") es ep dd sl) ⟨ho, hq⟩)
    (fun _ hq => wpAny_of_eq (rfl : isSame (.ref l) (.str b u) = pure false) hq) (.inr hu) h
theorem beq_swap (x y : Str) : (x == y) = (y == x) := by
  by_cases h : x = y
  · subst h
    rfl
  · have h1 : (x == y) = false := by simpa using h
    have h2 : (y == x) = false := by simpa using fun z : y = x => h z.symm
    rw [h1, h2]
def rEqDS : R2 := fun x y H Q => ∃ (z : Str) (d : PyData) (f : Bool), D f H x d ∧ y = .str z ∧ Q (.bl (strIs z d)) H
theorem op_eqDS {X : Cx} {k : Nat} (room : Room k X.A) : OpR X (compareOp .Eq) rEqDS := by
  intro pins s σ H x y v u Q I rx ry h
  obtain ⟨z, d, f, hd, rfl, q⟩ := h
  obtain ⟨t, rfl⟩ := ry
  have fin : ∀ b : Bool, b = strIs z d → SeqAt.RcAt X.A s v (.str z t) b → wpAny (model X.prog X.w) X.A (compareOp .Eq v (.str z t)) (fun r s' => EP X pins σ Q r s') X.xe s := fun b e rc => by
    refine rc X.prog X.w X.xe _ ?_
    rw [e]
    exact ⟨.bl (strIs z d), H, I, rfl, q⟩
  cases hd with
  | non =>
    cases rx
    exact fin false rfl (SeqAt.RcAt.none_str z t)
  | bl b =>
    cases rx
    exact fin false rfl (SeqAt.RcAt.bool_str b z t)
  | int i =>
    obtain ⟨t2, rfl⟩ := rx
    exact fin false rfl (SeqAt.RcAt.int_str i t2 z t)
  | str y =>
    obtain ⟨t2, rfl⟩ := rx
    exact fin _ (beq_swap y z) (SeqAt.RcAt.str_str y t2 z t)
  | @lst a xs ds e n dt =>
    cases (show v = Value.ref a from rx)
    obtain ⟨_, its, k, rv, ho⟩ := (show ObjOk X.prog X.w H s.heap a (.lst xs) from I.hok a _ e)
    exact fin false rfl (SeqAt.RcAt.list_str z t ⟨_, ho, rfl, _, rfl⟩ room.units0)
  | @tup a xs ds e dt =>
    cases (show v = Value.ref a from rx)
    obtain ⟨_, its, rv, o, ho, hc, k, hd⟩ := (show ObjOk X.prog X.w H s.heap a (.tup xs) from e.rd.ok I.hok)
    exact fin false rfl (SeqAt.RcAt.tuple_str z t ⟨_, ho, hc, _, hd⟩ room.units0)
  | @dct a kvs ds e dt =>
    cases (show v = Value.ref a from rx)
    obtain ⟨_, ns, vs, kv, o, es, ep, ho, ex, hd, _, pr, _⟩ := (show ObjOk X.prog X.w H s.heap a (.dK kvs) from I.hok a _ e)
    exact fin false rfl (rc_dict_str z t ho ex.1 hd room.units0)
/-! ### along a text -/
/-! ### two for in one list -/
end Lw

namespace Pu
open PySem PySem.Spec PyProof.Rows L2 Lw
open Classical

/-! ### plain values, and a memory of what may be changed -/
inductive U where
  | dat (d : PyData)
  | cell (i : Nat)
  | tupc (us : List U)
  | adr (a : Addr)
  | scr (ns : List Int)
  | kt (xs : List V)
  | ty (n : String)
  | lv (ds : List PyData)
  | xc (C : Addr) (fs : List (Str × PyData))
inductive Cell where
  | lst (f : Bool) (us : List U)
  | fz (ds : List PyData)
  | dk (kvs : List (Key × U))
  | ins (C : Addr) (fs : List (Str × U))
abbrev Mem := List Cell
abbrev Env := List (Option U)
def Cell.live : Cell → Bool
  | .fz _ => false
  | _ => true
def Lv (α : List Addr) (M : Mem) (b : Addr) : Prop := ∃ (i : Nat) (c : Cell), α[i]? = some b ∧ M[i]? = some c ∧ c.live = true
noncomputable def fzH (α : List Addr) (M : Mem) (H : Hp) : Hp := fun b => if Lv α M b then none else H b
theorem fzH_some {α : List Addr} {M : Mem} {H : Hp} {b : Addr} {o : HO} (h : fzH α M H b = some o) : ¬ Lv α M b ∧ H b = some o := by
  unfold fzH at h
  split at h
  · cases h
  · exact ⟨by assumption, h⟩
theorem fzH_of {α : List Addr} {M : Mem} {H : Hp} {b : Addr} (h : ¬ Lv α M b) : fzH α M H b = H b := if_neg h
theorem fzH_le {α : List Addr} {M : Mem} {H : Hp} : Same (fzH α M H) H := fun b o h => (fzH_some h).2

/-- an exception of the class at C at a, its dict at od -/
def XO (a C : Addr) (od : Option Addr) : HO := .ext fun h => ∃ (oe : Obj) (vs : Array Value), h.get? a = some oe ∧ (oe.cls = .ref C ∧ oe.dict = od) ∧ oe.data = .fields vs
/-- what its dict holds -/
def XdR (G : Hp) (od : Option Addr) (fs : List (Str × PyData)) : Prop :=
  (od = none ∧ fs = []) ∨ ∃ (dx : Addr) (xs : List (Str × V)), od = some dx ∧ G dx = some (.xd xs) ∧ xs.map (·.1) = fs.map (·.1) ∧ DA true G (xs.map (·.2)) (fs.map (·.2))
theorem XdR.same {G G' : Hp} {od : Option Addr} {fs : List (Str × PyData)} (h : XdR G od fs) (s : Same G G') : XdR G' od fs := by
  rcases h with h | ⟨dx, xs, h1, h2, h3, h4⟩
  · exact .inl h
  · exact .inr ⟨dx, xs, h1, s _ _ h2, h3, h4.same s⟩
mutual
inductive VR (K : PySem.W.Frag) (α : List Addr) (G : Hp) : V → U → Prop
  | dat {v : V} {d : PyData} : D true G v d → VR K α G v (.dat d)
  | cell {a : Addr} {i : Nat} : α[i]? = some a → VR K α G (.ref a) (.cell i)
  | tupc {a : Addr} {xs : List V} {us : List U} : Rd G a (.tup xs) → VRs K α G xs us → VR K α G (.ref a) (.tupc us)
  | adr (a : Addr) : VR K α G (.ref a) (.adr a)
  | scr {a : Addr} {ns : List Int} : SqL K G a (ns.map V.int) → VR K α G (.ref a) (.scr ns)
  | kt {a : Addr} {xs : List V} : SqT K G a xs → VR K α G (.ref a) (.kt xs)
  | ty (n : String) : VR K α G (.ty n) (.ty n)
  | xc {a C : Addr} {od : Option Addr} {fs : List (Str × PyData)} : G a = some (XO a C od) → XdR G od fs → VR K α G (.ref a) (.xc C fs)
inductive VRs (K : PySem.W.Frag) (α : List Addr) (G : Hp) : List V → List U → Prop
  | nil : VRs K α G [] []
  | cons {v : V} {vs : List V} {u : U} {us : List U} : VR K α G v u → VRs K α G vs us → VRs K α G (v :: vs) (u :: us)
end
structure Ext (α : List Addr) (G : Hp) (α' : List Addr) (G' : Hp) : Prop where
  pre : ∀ (i : Nat) (a : Addr), α[i]? = some a → α'[i]? = some a
  same : Same G G'
theorem Ext.refl {α : List Addr} {G : Hp} : Ext α G α G := ⟨fun _ _ h => h, Same.refl G⟩
theorem Ext.trans {α α1 α2 : List Addr} {G G1 G2 : Hp} (x : Ext α G α1 G1) (y : Ext α1 G1 α2 G2) : Ext α G α2 G2 :=
  ⟨fun i a h => y.pre i a (x.pre i a h), x.same.trans y.same⟩
theorem Rd.ext {G G' : Hp} {a : Addr} {u : HO} (s : Same G G') (h : Rd G a u) : Rd G' a u := by
  rcases h with h | ⟨o, h⟩
  · exact .inl (s _ _ h)
  · exact .inr ⟨o, s _ _ h⟩
theorem SqL.ext {K : PySem.W.Frag} {G G' : Hp} {a : Addr} {xs : List V} (s : Same G G') (h : SqL K G a xs) : SqL K G' a xs := by
  rcases h with h | h
  · exact .inl (Rd.ext s h)
  · exact .inr h
theorem SqT.ext {K : PySem.W.Frag} {G G' : Hp} {a : Addr} {xs : List V} (s : Same G G') (h : SqT K G a xs) : SqT K G' a xs := by
  rcases h with h | h
  · exact .inl (Rd.ext s h)
  · exact .inr h
mutual
theorem VR.ext {K : PySem.W.Frag} {α α' : List Addr} {G G' : Hp} (x : Ext α G α' G') : ∀ {v : V} {u : U}, VR K α G v u → VR K α' G' v u
  | _, _, .dat h => .dat (h.same x.same)
  | _, _, .cell h => .cell (x.pre _ _ h)
  | _, _, .tupc h t => .tupc (Rd.ext x.same h) (VRs.ext x t)
  | _, _, .adr a => .adr a
  | _, _, .scr h => .scr (SqL.ext x.same h)
  | _, _, .kt h => .kt (SqT.ext x.same h)
  | _, _, .ty n => .ty n
  | _, _, .xc h d => .xc (x.same _ _ h) (d.same x.same)
theorem VRs.ext {K : PySem.W.Frag} {α α' : List Addr} {G G' : Hp} (x : Ext α G α' G') : ∀ {vs : List V} {us : List U}, VRs K α G vs us → VRs K α' G' vs us
  | _, _, .nil => .nil
  | _, _, .cons h t => .cons (VR.ext x h) (VRs.ext x t)
end
section
variable {K : PySem.W.Frag} {α : List Addr} {G : Hp}
theorem VRs.length : ∀ {vs : List V} {us : List U}, VRs K α G vs us → vs.length = us.length
  | _, _, .nil => rfl
  | _, _, .cons _ t => by rw [List.length_cons, List.length_cons, t.length]
theorem VRs.append : ∀ {vs ws : List V} {us ys : List U}, VRs K α G vs us → VRs K α G ws ys → VRs K α G (vs ++ ws) (us ++ ys)
  | _, _, _, _, .nil, h => h
  | _, _, _, _, .cons h t, g => .cons h (t.append g)
theorem VRs.get : ∀ {vs : List V} {us : List U} (i : Nat) {u : U}, VRs K α G vs us → us[i]? = some u → ∃ v, vs[i]? = some v ∧ VR K α G v u
  | _, _, _, _, .nil, e => by simp at e
  | _, _, 0, _, .cons h _, e => by
    simp at e
    subst e
    exact ⟨_, rfl, h⟩
  | _, _, i + 1, u, .cons _ t, e => by
    obtain ⟨v, e1, h⟩ := VRs.get i (u := u) t (by simpa using e)
    exact ⟨v, by simpa using e1, h⟩
theorem VRs.take : ∀ {vs : List V} {us : List U} (n : Nat), VRs K α G vs us → VRs K α G (vs.take n) (us.take n)
  | _, _, 0, _ => .nil
  | _, _, _ + 1, .nil => .nil
  | _, _, n + 1, .cons h t => .cons h (t.take n)
theorem VRs.drop : ∀ {vs : List V} {us : List U} (n : Nat), VRs K α G vs us → VRs K α G (vs.drop n) (us.drop n)
  | _, _, 0, h => h
  | _, _, _ + 1, .nil => .nil
  | _, _, n + 1, .cons _ t => t.drop n
theorem VRs.rev : ∀ {vs : List V} {us : List U}, VRs K α G vs us → VRs K α G vs.reverse us.reverse
  | _, _, .nil => .nil
  | _, _, .cons h t => by
    rw [List.reverse_cons, List.reverse_cons]
    exact t.rev.append (.cons h .nil)
theorem VRs.set : ∀ {vs : List V} {us : List U} (i : Nat) {v : V} {u : U}, VRs K α G vs us → VR K α G v u → VRs K α G (vs.set i v) (us.set i u)
  | _, _, _, _, _, .nil, _ => .nil
  | _, _, 0, _, _, .cons _ t, h => .cons h t
  | _, _, i + 1, _, _, .cons g t, h => .cons g (t.set i h)
theorem VRs.flat : ∀ {xs : List V} {us : List U} (k : Nat), VRs K α G xs us → VRs K α G (List.replicate k xs).flatten (List.replicate k us).flatten
  | _, _, 0, _ => .nil
  | _, _, k + 1, h => by
    rw [List.replicate_succ, List.replicate_succ, List.flatten_cons, List.flatten_cons]
    exact h.append (VRs.flat k h)
theorem VRs.ofDA : ∀ {vs : List V} {ds : List PyData}, DA true G vs ds → VRs K α G vs (ds.map .dat)
  | _, _, .nil => .nil
  | _, _, .cons h t => .cons (.dat h) (VRs.ofDA t)
end
/-- all are data -/
def allDat : List U → Option (List PyData)
  | [] => some []
  | .dat d :: us => (allDat us).map (d :: ·)
  | _ :: _ => none
theorem allDat_map : ∀ ds : List PyData, allDat (ds.map .dat) = some ds
  | [] => rfl
  | d :: ds => by
    show (allDat (ds.map .dat)).map (d :: ·) = _
    rw [allDat_map ds]
    rfl
theorem allDat_some : ∀ {us : List U} {ds : List PyData}, allDat us = some ds → us = ds.map .dat
  | [], _, h => by cases h; rfl
  | .dat d :: us, ds, h => by
    have h' : (allDat us).map (d :: ·) = some ds := h
    obtain ⟨es, e1, e2⟩ := Option.map_eq_some_iff.mp h'
    subst e2
    rw [List.map_cons, ← allDat_some e1]
  | .cell _ :: _, _, h => by cases h
  | .tupc _ :: _, _, h => by cases h
  | .adr _ :: _, _, h => by cases h
  | .scr _ :: _, _, h => by cases h
  | .kt _ :: _, _, h => by cases h
  | .ty _ :: _, _, h => by cases h
  | .lv _ :: _, _, h => by cases h
  | .xc _ _ :: _, _, h => by cases h
theorem VRs.toDA {K : PySem.W.Frag} {α : List Addr} {G : Hp} : ∀ {vs : List V} {ds : List PyData}, VRs K α G vs (ds.map .dat) → DA true G vs ds
  | _, [], .nil => .nil
  | _, d :: ds, .cons (.dat h) t => .cons h (VRs.toDA t)
def CellR (K : PySem.W.Frag) (α : List Addr) (G H : Hp) (a : Addr) : Cell → Prop
  | .lst f us => (f = true → a ≠ sysModules) ∧ ∃ xs, H a = some (.lst xs) ∧ VRs K α G xs us
  | .fz ds => a ≠ sysModules ∧ ∃ xs, H a = some (.lst xs) ∧ DA true G xs ds
  | .dk kvs => ∃ xs : List (Key × V), H a = some (.dK xs) ∧ xs.map (·.1) = kvs.map (·.1) ∧ VRs K α G (xs.map (·.2)) (kvs.map (·.2))
  | .ins C fs => ∃ (dx : Addr) (xs : List (Str × V)), H a = some (.ins C dx xs) ∧ xs.map (·.1) = fs.map (·.1) ∧ VRs K α G (xs.map (·.2)) (fs.map (·.2))
theorem CellR.some {K : PySem.W.Frag} {α : List Addr} {G H : Hp} {a : Addr} {c : Cell} (h : CellR K α G H a c) : ∃ o, H a = some o := by
  cases c with
  | lst f us => obtain ⟨_, xs, e, _⟩ := h; exact ⟨_, e⟩
  | fz ds => obtain ⟨_, xs, e, _⟩ := h; exact ⟨_, e⟩
  | dk kvs => obtain ⟨xs, e, _⟩ := h; exact ⟨_, e⟩
  | ins C fs => obtain ⟨dx, xs, e, _⟩ := h; exact ⟨_, e⟩
theorem CellR.ext {K : PySem.W.Frag} {α α' : List Addr} {G G' H H' : Hp} {a : Addr} {c : Cell} (h : CellR K α G H a c) (x : Ext α G α' G') (e : H' a = H a) : CellR K α' G' H' a c := by
  cases c with
  | lst f us => obtain ⟨z, xs, q, r⟩ := h; exact ⟨z, xs, e.trans q, r.ext x⟩
  | fz ds => obtain ⟨z, xs, q, r⟩ := h; exact ⟨z, xs, e.trans q, r.same x.same⟩
  | dk kvs => obtain ⟨xs, q, k, r⟩ := h; exact ⟨xs, e.trans q, k, r.ext x⟩
  | ins C fs => obtain ⟨dx, xs, q, k, r⟩ := h; exact ⟨dx, xs, e.trans q, k, r.ext x⟩
/-- the memory is what stands in the heap -/
structure Rp (K : PySem.W.Frag) (α : List Addr) (M : Mem) (H : Hp) : Prop where
  len : α.length = M.length
  nd : α.Nodup
  ok : ∀ (i : Nat) (a : Addr) (c : Cell), α[i]? = some a → M[i]? = some c → CellR K α (fzH α M H) H a c
section
variable {K : PySem.W.Frag} {α : List Addr} {M : Mem} {H : Hp}
theorem Rp.addr (R : Rp K α M H) {i : Nat} {c : Cell} (h : M[i]? = some c) : ∃ a, α[i]? = some a := by
  have h1 := (List.getElem?_eq_some_iff.mp h).1
  exact ⟨α[i]'(by rw [R.len]; exact h1), List.getElem?_eq_getElem _⟩
theorem Rp.cellAt (R : Rp K α M H) {i : Nat} {a : Addr} (h : α[i]? = some a) : ∃ c, M[i]? = some c := by
  have h1 := (List.getElem?_eq_some_iff.mp h).1
  exact ⟨M[i]'(by rw [← R.len]; exact h1), List.getElem?_eq_getElem _⟩
theorem Rp.fresh (R : Rp K α M H) {p : Addr} (h : H p = none) : p ∉ α := fun z => by
  obtain ⟨i, hi⟩ := List.mem_iff_getElem?.mp z
  obtain ⟨c, hc⟩ := R.cellAt hi
  obtain ⟨o, e⟩ := (R.ok i p c hi hc).some
  rw [e] at h
  cases h
theorem Lv.mem {b : Addr} (h : Lv α M b) : b ∈ α := by
  obtain ⟨i, c, hi, _⟩ := h
  exact List.mem_of_getElem? hi
theorem nodup_at (R : Rp K α M H) {i j : Nat} {a : Addr} (h : α[i]? = some a) (g : α[j]? = some a) : i = j := by
  obtain ⟨h1, e1⟩ := List.getElem?_eq_some_iff.mp h
  obtain ⟨h2, e2⟩ := List.getElem?_eq_some_iff.mp g
  exact (List.getElem_inj R.nd).mp (e1.trans e2.symm)
/-- a new thing that is never changed -/
theorem Rp.newFix (R : Rp K α M H) {p : Addr} {o : HO} (h : H p = none) : Rp K α M (upd H p o) ∧ Ext α (fzH α M H) α (fzH α M (upd H p o)) ∧ fzH α M (upd H p o) p = some o := by
  have np := R.fresh h
  have nl : ¬ Lv α M p := fun z => np z.mem
  have x : Ext α (fzH α M H) α (fzH α M (upd H p o)) := ⟨fun _ _ z => z, fun b u e => by
    obtain ⟨n, e⟩ := fzH_some e
    rw [fzH_of n, upd_ne (ne_of_none e h)]
    exact e⟩
  refine ⟨⟨R.len, R.nd, fun i a c hi hc => (R.ok i a c hi hc).ext x ?_⟩, x, by rw [fzH_of nl, upd_same]⟩
  exact upd_ne fun z => np (z ▸ List.mem_of_getElem? hi)
theorem Rp.newMem (R : Rp K α M H) {p : Addr} {o : HO} {c : Cell} (h : H p = none) (lv : c.live = true) (hc : ∀ {α' : List Addr} {G' : Hp}, Ext α (fzH α M H) α' G' → CellR K α' G' (upd H p o) p c) :
    Rp K (α ++ [p]) (M ++ [c]) (upd H p o) ∧ Ext α (fzH α M H) (α ++ [p]) (fzH (α ++ [p]) (M ++ [c]) (upd H p o)) ∧ (α ++ [p])[M.length]? = some p := by
  have np := R.fresh h
  have lvI : ∀ b, Lv (α ++ [p]) (M ++ [c]) b ↔ Lv α M b ∨ b = p := by
    intro b
    constructor
    · rintro ⟨i, d, hi, hd, l⟩
      by_cases z : i < α.length
      · rw [List.getElem?_append_left z] at hi
        rw [List.getElem?_append_left (by rw [← R.len]; exact z)] at hd
        exact .inl ⟨i, d, hi, hd, l⟩
      · rw [List.getElem?_append_right (by omega)] at hi
        have := (List.getElem?_eq_some_iff.mp hi).1
        have e : i - α.length = 0 := by simp at this; omega
        rw [e] at hi
        simp at hi
        exact .inr hi.symm
    · rintro (⟨i, d, hi, hd, l⟩ | e)
      · exact ⟨i, d, by rw [List.getElem?_append_left (List.getElem?_eq_some_iff.mp hi).1]; exact hi, by rw [List.getElem?_append_left (List.getElem?_eq_some_iff.mp hd).1]; exact hd, l⟩
      · exact ⟨α.length, c, by simp [e], by rw [R.len]; simp, lv⟩
  have x : Ext α (fzH α M H) (α ++ [p]) (fzH (α ++ [p]) (M ++ [c]) (upd H p o)) := ⟨fun i a z => by
      rw [List.getElem?_append_left (List.getElem?_eq_some_iff.mp z).1]
      exact z, fun b u e => by
    obtain ⟨n, e⟩ := fzH_some e
    have nb : b ≠ p := ne_of_none e h
    rw [fzH_of (fun z => ((lvI b).mp z).elim n nb), upd_ne nb]
    exact e⟩
  refine ⟨⟨by rw [List.length_append, List.length_append, R.len]; rfl, ?_, fun i a d hi hd => ?_⟩, x, by rw [← R.len]; simp⟩
  · rw [List.nodup_append]
    refine ⟨R.nd, by simp, fun y hy z hz => ?_⟩
    rw [List.mem_singleton.mp hz]
    exact fun e => np (e ▸ hy)
  · by_cases z : i < α.length
    · rw [List.getElem?_append_left z] at hi
      rw [List.getElem?_append_left (by rw [← R.len]; exact z)] at hd
      exact (R.ok i a d hi hd).ext x (upd_ne fun e => np (e ▸ List.mem_of_getElem? hi))
    · have hl := (List.getElem?_eq_some_iff.mp hi).1
      rw [List.length_append] at hl
      simp at hl
      have e : i = α.length := by omega
      subst e
      have h1 : a = p := by simpa using hi.symm
      have h2 : d = c := by
        rw [R.len] at hd
        simpa using hd.symm
      subst h1 h2
      exact hc x
theorem lv_set {i : Nat} {c d : Cell} (hc : M[i]? = some c) (l : c.live = d.live) (b : Addr) : Lv α (M.set i d) b ↔ Lv α M b := by
  have hi := (List.getElem?_eq_some_iff.mp hc).1
  constructor
  · rintro ⟨j, e, h1, h2, h3⟩
    by_cases z : j = i
    · subst z
      rw [List.getElem?_set_self hi] at h2
      cases h2
      exact ⟨j, c, h1, hc, l.trans h3⟩
    · rw [List.getElem?_set_ne (Ne.symm z)] at h2
      exact ⟨j, e, h1, h2, h3⟩
  · rintro ⟨j, e, h1, h2, h3⟩
    by_cases z : j = i
    · subst z
      rw [hc] at h2
      cases h2
      exact ⟨j, d, h1, List.getElem?_set_self hi, l ▸ h3⟩
    · exact ⟨j, e, h1, by rw [List.getElem?_set_ne (Ne.symm z)]; exact h2, h3⟩
/-- a cell is changed -/
theorem Rp.write (R : Rp K α M H) {i : Nat} {a : Addr} {c d : Cell} {o : HO} (hi : α[i]? = some a) (hc : M[i]? = some c) (lc : c.live = true) (ld : d.live = true)
    (hd : CellR K α (fzH α M H) (upd H a o) a d) : Rp K α (M.set i d) (upd H a o) ∧ Ext α (fzH α M H) α (fzH α (M.set i d) (upd H a o)) := by
  have lvI := fun b => lv_set (α := α) (d := d) hc (lc.trans ld.symm) b
  have eG : fzH α (M.set i d) (upd H a o) = fzH α M H := by
    funext b
    by_cases z : Lv α M b
    · unfold fzH
      rw [if_pos z, if_pos ((lvI b).mpr z)]
    · rw [fzH_of z, fzH_of fun y => z ((lvI b).mp y)]
      exact upd_ne fun y => z ⟨i, c, y ▸ hi, hc, lc⟩
  refine ⟨⟨by rw [List.length_set]; exact R.len, R.nd, fun j b e hj he => ?_⟩, by rw [eG]; exact Ext.refl⟩
  rw [eG]
  by_cases z : j = i
  · subst z
    rw [List.getElem?_set_self (List.getElem?_eq_some_iff.mp hc).1] at he
    cases he
    rw [hi] at hj
    cases hj
    exact hd
  · rw [List.getElem?_set_ne (Ne.symm z)] at he
    exact (R.ok j b e hj he).ext Ext.refl (upd_ne fun y => z (nodup_at R hj (y ▸ hi)))
/-- a list is never changed again -/
theorem Rp.freeze (R : Rp K α M H) {i : Nat} {ds : List PyData} (hc : M[i]? = some (.lst true (ds.map .dat))) :
    Rp K α (M.set i (.fz ds)) H ∧ Ext α (fzH α M H) α (fzH α (M.set i (.fz ds)) H) ∧ ∀ a, α[i]? = some a → D true (fzH α (M.set i (.fz ds)) H) (.ref a) (.list ds) := by
  have hi := (List.getElem?_eq_some_iff.mp hc).1
  obtain ⟨a, ha⟩ := R.addr hc
  have x : Ext α (fzH α M H) α (fzH α (M.set i (.fz ds)) H) := ⟨fun _ _ z => z, fun b u e => by
    obtain ⟨n, e⟩ := fzH_some e
    rw [fzH_of]
    · exact e
    · rintro ⟨j, d, h1, h2, h3⟩
      by_cases z : j = i
      · subst z
        rw [List.getElem?_set_self hi] at h2
        cases h2
        cases h3
      · rw [List.getElem?_set_ne (Ne.symm z)] at h2
        exact n ⟨j, d, h1, h2, h3⟩⟩
  have na : ¬ Lv α (M.set i (.fz ds)) a := by
    rintro ⟨j, d, h1, h2, h3⟩
    have z := nodup_at R h1 ha
    subst z
    rw [List.getElem?_set_self hi] at h2
    cases h2
    cases h3
  obtain ⟨hs, xs, hx, hv⟩ := R.ok i a _ ha hc
  have da := (VRs.toDA hv).same x.same
  refine ⟨⟨by rw [List.length_set]; exact R.len, R.nd, fun j b e hj he => ?_⟩, x, fun b hb => ?_⟩
  · by_cases z : j = i
    · subst z
      rw [List.getElem?_set_self hi] at he
      cases he
      rw [ha] at hj
      cases hj
      exact ⟨hs rfl, xs, hx, da⟩
    · rw [List.getElem?_set_ne (Ne.symm z)] at he
      exact (R.ok j b e hj he).ext x rfl
  · rw [ha] at hb
    cases hb
    exact .lst (by rw [fzH_of na]; exact hx) (fun _ => hs rfl) da
end
end Pu

namespace Pu
open PySem PySem.Spec PyProof.Rows L2 Lw
open Classical

/-! ### judgements -/
abbrev ME := Env → Mem → Option (U × Mem)
abbrev MT := Env → Mem → Option (Bool × Mem)
abbrev MA := Env → Mem → Option (List U × Mem)
def ER (K : PySem.W.Frag) (α : List Addr) (G : Hp) (σ : L2.St) (ρ : Env) : Prop := σ.length = ρ.length ∧ ∀ (i : Nat) (u : U), ρ[i]? = some (some u) → ∃ v, σ[i]? = some (some v) ∧ VR K α G v u
theorem ER.ext {K : PySem.W.Frag} {α α' : List Addr} {G G' : Hp} {σ : L2.St} {ρ : Env} (h : ER K α G σ ρ) (x : Ext α G α' G') : ER K α' G' σ ρ :=
  ⟨h.1, fun i u e => let ⟨v, q, r⟩ := h.2 i u e; ⟨v, q, r.ext x⟩⟩
theorem ER.set {K : PySem.W.Frag} {α : List Addr} {G : Hp} {σ : L2.St} {ρ : Env} {i : Nat} {v : V} {u : U} (h : ER K α G σ ρ) (r : VR K α G v u) : ER K α G (σ.set i (some v)) (ρ.set i (some u)) := by
  refine ⟨by rw [List.length_set, List.length_set]; exact h.1, fun j w e => ?_⟩
  by_cases z : j = i
  · subst z
    have hj : j < ρ.length := by
      have := (List.getElem?_eq_some_iff.mp e).1
      rw [List.length_set] at this
      exact this
    rw [List.getElem?_set_self hj] at e
    cases e
    exact ⟨v, by rw [List.getElem?_set_self (by rw [h.1]; exact hj)], r⟩
  · rw [List.getElem?_set_ne (Ne.symm z)] at e
    obtain ⟨w', e1, r1⟩ := h.2 j w e
    exact ⟨w', by rw [List.getElem?_set_ne (Ne.symm z)]; exact e1, r1⟩
def Post (K : PySem.W.Frag) (α : List Addr) (G : Hp) (u : U) (M' : Mem) (Q : VK) : Prop :=
  ∀ (v : V) (α' : List Addr) (H' : Hp), Rp K α' M' H' → Ext α G α' (fzH α' M' H') → VR K α' (fzH α' M' H') v u → Q v H'
def PostB (K : PySem.W.Frag) (α : List Addr) (G : Hp) (b : Bool) (M' : Mem) (Q : Bool → Hp → Prop) : Prop :=
  ∀ (α' : List Addr) (H' : Hp), Rp K α' M' H' → Ext α G α' (fzH α' M' H') → Q b H'
def PostA (K : PySem.W.Frag) (α : List Addr) (G : Hp) (us : List U) (M' : Mem) (Q : List V → Hp → Prop) : Prop :=
  ∀ (vs : List V) (α' : List Addr) (H' : Hp), Rp K α' M' H' → Ext α G α' (fzH α' M' H') → VRs K α' (fzH α' M' H') vs us → Q vs H'
def SimE (K : PySem.W.Frag) (t : TE) (m : ME) : Prop :=
  ∀ (σ : L2.St) (H : Hp) (α : List Addr) (ρ : Env) (M : Mem) (u : U) (M' : Mem) (Q : VK), Rp K α M H → ER K α (fzH α M H) σ ρ → m ρ M = some (u, M') → Post K α (fzH α M H) u M' Q → t σ H Q
def SimT (K : PySem.W.Frag) (t : TT) (m : MT) : Prop :=
  ∀ (σ : L2.St) (H : Hp) (α : List Addr) (ρ : Env) (M : Mem) (u : Bool) (M' : Mem) (Q : Bool → Hp → Prop), Rp K α M H → ER K α (fzH α M H) σ ρ → m ρ M = some (u, M') → PostB K α (fzH α M H) u M' Q → t σ H Q
def SimA (K : PySem.W.Frag) (t : TA) (m : MA) : Prop :=
  ∀ (σ : L2.St) (H : Hp) (α : List Addr) (ρ : Env) (M : Mem) (us : List U) (M' : Mem) (Q : List V → Hp → Prop), Rp K α M H → ER K α (fzH α M H) σ ρ → m ρ M = some (us, M') → PostA K α (fzH α M H) us M' Q → t σ H Q
structure QE (X : Cx) (e : Expr) (m : ME) : Prop where
  ex : ∃ t, PE X e t ∧ SimE X.K t m
structure QT (X : Cx) (e : Expr) (m : MT) : Prop where
  ex : ∃ t, PT X e t ∧ SimT X.K t m
structure QW (X : Cx) (e : Expr) (m : MT) : Prop where
  ex : ∃ t, PW X e t ∧ SimT X.K t m
structure QA (X : Cx) (es : List Expr) (m : MA) : Prop where
  ex : ∃ t, PA X es t ∧ SimA X.K t m
section
variable {K : PySem.W.Frag} {α : List Addr} {M M' : Mem} {H : Hp} {u : U} {Q : VK}
theorem Post.here (P : Post K α (fzH α M H) u M Q) (R : Rp K α M H) {v : V} (r : VR K α (fzH α M H) v u) : Q v H := P v α H R Ext.refl r
theorem Post.after {G : Hp} {α1 : List Addr} {G1 : Hp} (P : Post K α G u M' Q) (x : Ext α G α1 G1) : Post K α1 G1 u M' Q := fun v α' H' R y r => P v α' H' R (x.trans y) r
theorem PostB.after {G : Hp} {α1 : List Addr} {G1 : Hp} {b : Bool} {Q : Bool → Hp → Prop} (P : PostB K α G b M' Q) (x : Ext α G α1 G1) : PostB K α1 G1 b M' Q := fun α' H' R y => P α' H' R (x.trans y)
theorem PostA.after {G : Hp} {α1 : List Addr} {G1 : Hp} {us : List U} {Q : List V → Hp → Prop} (P : PostA K α G us M' Q) (x : Ext α G α1 G1) : PostA K α1 G1 us M' Q := fun v α' H' R y r => P v α' H' R (x.trans y) r
end
def mkTup (us : List U) : U := match allDat us with
  | some ds => .dat (.tuple ds)
  | none => .tupc us
theorem VR.mkTup {K : PySem.W.Frag} {α : List Addr} {G : Hp} {a : Addr} {xs : List V} {us : List U} (h : TupN G a xs) (r : VRs K α G xs us) : VR K α G (.ref a) (mkTup us) := by
  unfold Pu.mkTup
  split
  · rename_i ds e
    have := allDat_some e
    subst this
    exact .dat (.tup h (VRs.toDA r))
  · exact .tupc h.rd r
theorem mkTup_dat (ds : List PyData) : mkTup (ds.map .dat) = .dat (.tuple ds) := by
  unfold mkTup
  rw [allDat_map]
def tupOf : U → Option (List U)
  | .dat (.tuple ds) => some (ds.map .dat)
  | .tupc us => some us
  | _ => none
theorem tupOf_ok {K : PySem.W.Frag} {α : List Addr} {G : Hp} {v : V} {u : U} {us : List U} (r : VR K α G v u) (h : tupOf u = some us) : ∃ a xs, v = .ref a ∧ Rd G a (.tup xs) ∧ VRs K α G xs us := by
  cases r with
  | dat d =>
    cases d with
    | tup e t =>
      cases h
      exact ⟨_, _, rfl, e.rd, VRs.ofDA t⟩
    | _ => cases h
  | tupc e t =>
    cases h
    exact ⟨_, _, rfl, e, t⟩
  | _ => cases h
def dtup : U → Option (List PyData)
  | .dat (.tuple ds) => some ds
  | _ => none
theorem dtup_ok {K : PySem.W.Frag} {α : List Addr} {G : Hp} {v : V} {u : U} {ds : List PyData} (r : VR K α G v u) (h : dtup u = some ds) : ∃ a xs, v = .ref a ∧ TupN G a xs ∧ DA true G xs ds := by
  cases r with
  | dat d =>
    cases d with
    | tup e t =>
      cases h
      exact ⟨_, _, rfl, e, t⟩
    | _ => cases h
  | _ => cases h
def lstOf (M : Mem) : U → Option (List U)
  | .dat (.list ds) => some (ds.map .dat)
  | .lv ds => some (ds.map .dat)
  | .cell i => match M[i]? with
    | some (.lst _ us) => some us
    | some (.fz ds) => some (ds.map .dat)
    | _ => none
  | _ => none
theorem lstOf_ok {K : PySem.W.Frag} {α : List Addr} {M : Mem} {H : Hp} {v : V} {u : U} {us : List U} (R : Rp K α M H) (r : VR K α (fzH α M H) v u) (h : lstOf M u = some us) :
    ∃ a xs, v = .ref a ∧ H a = some (.lst xs) ∧ VRs K α (fzH α M H) xs us := by
  cases r with
  | dat d =>
    cases d with
    | lst e n t =>
      cases h
      exact ⟨_, _, rfl, fzH_le _ _ e, VRs.ofDA t⟩
    | _ => cases h
  | cell e =>
    rename_i a i
    obtain ⟨c, hc⟩ := R.cellAt e
    have ok := R.ok i a c e hc
    have h' : (match M[i]? with
      | some (.lst _ us) => some us
      | some (.fz ds) => some (ds.map .dat)
      | _ => none) = some us := h
    rw [hc] at h'
    cases c with
    | lst f ws =>
      cases h'
      obtain ⟨_, xs, q, r⟩ := ok
      exact ⟨a, xs, rfl, q, r⟩
    | fz ds =>
      cases h'
      obtain ⟨_, xs, q, r⟩ := ok
      exact ⟨a, xs, rfl, q, VRs.ofDA r⟩
    | dk _ => cases h'
    | ins _ _ => cases h'
  | _ => cases h
/-- what a flat value is -/
def vDat : V → Option PyData
  | .non => some .none
  | .bl b => some (.bool b)
  | .int i => some (.int i)
  | .str x => some (.str x)
  | _ => none
def allV : List V → Option (List U)
  | [] => some []
  | v :: vs => match vDat v, allV vs with
    | some d, some us => some (.dat d :: us)
    | _, _ => none
theorem vDat_ok {K : PySem.W.Frag} {α : List Addr} {G : Hp} {v : V} {d : PyData} (h : vDat v = some d) : VR K α G v (.dat d) := by
  cases v with
  | non => cases h; exact .dat .non
  | bl b => cases h; exact .dat (.bl b)
  | int i => cases h; exact .dat (.int i)
  | str x => cases h; exact .dat (.str x)
  | _ => cases h
theorem allV_ok {K : PySem.W.Frag} {α : List Addr} {G : Hp} : ∀ {vs : List V} {us : List U}, allV vs = some us → VRs K α G vs us
  | [], _, h => by cases h; exact .nil
  | v :: vs, us, h => by
    unfold allV at h
    split at h
    · rename_i d ws e1 e2
      cases h
      exact .cons (vDat_ok e1) (allV_ok e2)
    · cases h
/-- a row that is read: a list or a tuple, the script, a tuple of the module -/
def seqOf (M : Mem) (u : U) : Option (List U) := match u with
  | .scr ns => some (ns.map fun i => .dat (.int i))
  | .kt xs => allV xs
  | u => match tupOf u with
    | some us => some us
    | none => lstOf M u
theorem vrs_ints {K : PySem.W.Frag} {α : List Addr} {G : Hp} : ∀ ns : List Int, VRs K α G (ns.map V.int) (ns.map fun i => .dat (.int i))
  | [] => .nil
  | i :: ns => .cons (.dat (.int i)) (vrs_ints ns)
theorem seqOf_ok {K : PySem.W.Frag} {α : List Addr} {M : Mem} {H : Hp} {v : V} {u : U} {us : List U} (R : Rp K α M H) (r : VR K α (fzH α M H) v u) (h : seqOf M u = some us) :
    ∃ a xs, v = .ref a ∧ (SqL K H a xs ∨ SqT K H a xs) ∧ VRs K α (fzH α M H) xs us := by
  have gen : ∀ w : U, VR K α (fzH α M H) v w → (match tupOf w with
    | some us => some us
    | none => lstOf M w) = some us → ∃ a xs, v = .ref a ∧ (SqL K H a xs ∨ SqT K H a xs) ∧ VRs K α (fzH α M H) xs us := by
    intro w rw' h'
    split at h'
    · rename_i ws e
      cases h'
      obtain ⟨a, xs, e1, e2, e3⟩ := tupOf_ok rw' e
      exact ⟨a, xs, e1, .inr (.inl (Rd.ext fzH_le e2)), e3⟩
    · obtain ⟨a, xs, e1, e2, e3⟩ := lstOf_ok R rw' h'
      exact ⟨a, xs, e1, .inl (SqL.of e2), e3⟩
  cases u with
  | scr ns =>
    cases h
    cases r with
    | scr e => exact ⟨_, _, rfl, .inl (SqL.ext fzH_le e), vrs_ints ns⟩
  | kt xs =>
    cases r with
    | kt e => exact ⟨_, _, rfl, .inr (SqT.ext fzH_le e), allV_ok h⟩
  | dat d => exact gen _ r h
  | cell i => exact gen _ r h
  | tupc us => exact gen _ r h
  | adr a => exact gen _ r h
  | ty n => exact gen _ r h
  | lv ds => exact gen _ r h
  | xc C fs => exact gen _ r h
/-- what a value is as data -/
def datOf (M : Mem) : U → Option PyData
  | .dat d => some d
  | .lv ds => some (.list ds)
  | .cell i => match M[i]? with
    | some (.lst _ us) => (allDat us).map .list
    | some (.fz ds) => some (.list ds)
    | _ => none
  | _ => none
theorem datOf_ok {K : PySem.W.Frag} {α : List Addr} {M : Mem} {H : Hp} {v : V} {u : U} {d : PyData} (R : Rp K α M H) (r : VR K α (fzH α M H) v u) (h : datOf M u = some d) : D false H v d := by
  cases r with
  | dat q =>
    cases h
    exact (q.same fzH_le).weak
  | cell e =>
    rename_i a i
    obtain ⟨c, hc⟩ := R.cellAt e
    have ok := R.ok i a c e hc
    have h' : (match M[i]? with
      | some (.lst _ us) => (allDat us).map PyData.list
      | some (.fz ds) => some (.list ds)
      | _ => none) = some d := h
    rw [hc] at h'
    cases c with
    | lst f ws =>
      obtain ⟨ds, e1, e2⟩ := Option.map_eq_some_iff.mp h'
      subst e2
      have := allDat_some e1
      subst this
      obtain ⟨_, xs, q, r⟩ := ok
      exact .lst q (fun z => nomatch z) ((VRs.toDA r).same fzH_le).weak
    | fz ds =>
      cases h'
      obtain ⟨_, xs, q, r⟩ := ok
      exact .lst q (fun z => nomatch z) (r.same fzH_le).weak
    | dk _ => cases h'
    | ins _ _ => cases h'
  | _ => cases h

/-! ### names and constants -/
section
variable {X : Cx} {a b : Expr} {ma mb : ME} {pos : Pos}
def eVar (i : Nat) : ME := fun ρ M => match ρ[i]? with
  | some (some u) => some (u, M)
  | _ => none
theorem sim_var {K : PySem.W.Frag} (i : Nat) : SimE K (tVar i) (eVar i) := by
  intro σ H α ρ M u M' Q R er h P
  unfold eVar at h
  split at h
  · rename_i w e
    cases h
    obtain ⟨v, e1, r⟩ := er.2 i _ e
    exact ⟨v, e1, P.here R r⟩
  · cases h
theorem qe_var {i : Nat} {x : Str} (hN : X.N[i]? = some x := by rfl) (hv : Vis X.env.scope x := by first | exact .inl rfl | exact .inr (.inl rfl) | exact .inr (.inr rfl)) (hd : (x == ("__debug__" : Str)) = false := by decide) (hcd : (x == ("__classdict__" : Str)) = false := by decide) :
    QE X (.Name x pos) (eVar i) := ⟨_, pe_var hN hv hd hcd, sim_var i⟩
def eC (d : PyData) : ME := fun _ M => some (.dat d, M)
theorem sim_c {K : PySem.W.Frag} {v : V} {d : PyData} (h : vDat v = some d) : SimE K (tC v) (eC d) := by
  intro σ H α ρ M u M' Q R er e P
  cases e
  exact P.here R (vDat_ok h)
theorem qe_int {i j pos} : QE X (.Constant (.int i) j pos) (eC (.int i)) := ⟨_, pe_int, sim_c rfl⟩
theorem qe_bl {i j pos} : QE X (.Constant (.bool i) j pos) (eC (.bool i)) := ⟨_, pe_bl, sim_c rfl⟩
theorem qe_non {j pos} : QE X (.Constant .none j pos) (eC .none) := ⟨_, pe_non, sim_c rfl⟩
theorem qe_str {x j pos} : QE X (.Constant (.str x) j pos) (eC (.str x)) := ⟨_, pe_str, sim_c rfl⟩
/-- a module's name -/
def eK (u : U) : ME := fun _ M => some (u, M)
theorem qe_glob {x : Str} {v : V} {u : Value} {d : PyData} {pos : Pos} (hg : Gl X x) (hm : X.mg x = some u) (r : RelV v u) (hv : vDat v = some d) (hd : (x == ("__debug__" : Str)) = false := by decide) : QE X (.Name x pos) (eC d) :=
  ⟨_, pe_glob hg hm r hd, sim_c hv⟩
theorem qe_globI {x : Str} {i : Int} {pos : Pos} (hg : Gl X x) (hm : ∃ u, X.mg x = some u ∧ L2.RelV (.int i) u) (hd : (x == ("__debug__" : Str)) = false := by decide) : QE X (.Name x pos) (eC (.int i)) := by
  obtain ⟨u, h1, h2⟩ := hm
  exact qe_glob hg h1 h2 rfl hd
theorem qe_globS {x : Str} {i : Str} {pos : Pos} (hg : Gl X x) (hm : ∃ u, X.mg x = some u ∧ L2.RelV (.str i) u) (hd : (x == ("__debug__" : Str)) = false := by decide) : QE X (.Name x pos) (eC (.str i)) := by
  obtain ⟨u, h1, h2⟩ := hm
  exact qe_glob hg h1 h2 rfl hd
/-- a def or a class of the module, as a value -/
theorem qe_globA {x : Str} {a : Addr} {pos : Pos} (hg : Gl X x) (hm : X.mg x = some (.ref a)) (hd : (x == ("__debug__" : Str)) = false := by decide) : QE X (.Name x pos) (eK (.adr a)) := by
  refine ⟨_, pe_glob hg hm (v := .ref a) rfl hd, ?_⟩
  intro σ H α ρ M u M' Q R er e P
  cases e
  exact P.here R (.adr a)
theorem qe_ty {x : Str} {n : String} {pos : Pos} (hg : Gl X x) (hm : X.mg x = none) (hv : bootBuiltins x = some (.type n)) (hn : x ≠ "__name__" := by decide) (hd : (x == ("__debug__" : Str)) = false := by decide) : QE X (.Name x pos) (eK (.ty n)) := by
  refine ⟨_, pe_bltn (v := .ty n) hg hm hv rfl hn hd, ?_⟩
  intro σ H α ρ M u M' Q R er e P
  cases e
  exact P.here R (.ty n)

/-! ### operators -/
abbrev F2 := U → U → Mem → Option (U × Mem)
def SimOp (K : PySem.W.Frag) (r : R2) (f : F2) : Prop :=
  ∀ (H : Hp) (α : List Addr) (M : Mem) (x y : V) (a b u : U) (M' : Mem) (Q : VK), Rp K α M H → VR K α (fzH α M H) x a → VR K α (fzH α M H) y b → f a b M = some (u, M') → Post K α (fzH α M H) u M' Q → r x y H Q
def orF (f g : F2) : F2 := fun a b M => match f a b M with
  | some r => some r
  | none => g a b M
theorem OpR.or {f : Value → Value → Sem Value} {r r' : R2} (h : OpR X f r) (h' : OpR X f r') : OpR X f (fun x y H Q => r x y H Q ∨ r' x y H Q) := by
  intro pins s σ H x y v u Q I rx ry q
  rcases q with q | q
  · exact h pins s σ H x y v u Q I rx ry q
  · exact h' pins s σ H x y v u Q I rx ry q
theorem SimOp.or {K : PySem.W.Frag} {r r' : R2} {f g : F2} (h : SimOp K r f) (h' : SimOp K r' g) : SimOp K (fun x y H Q => r x y H Q ∨ r' x y H Q) (orF f g) := by
  intro H α M x y a b u M' Q R rx ry e P
  unfold orF at e
  split at e
  · rename_i q
    cases e
    exact .inl (h H α M x y a b u M' Q R rx ry q P)
  · exact .inr (h' H α M x y a b u M' Q R rx ry e P)
/-- a rule and what it does -/
structure QOp (X : Cx) (f : Value → Value → Sem Value) (g : F2) : Prop where
  ex : ∃ r, OpR X f r ∧ SimOp X.K r g
theorem QOp.or {f : Value → Value → Sem Value} {g g' : F2} (h : QOp X f g) (h' : QOp X f g') : QOp X f (orF g g') := by
  obtain ⟨r, h1, h2⟩ := h.ex
  obtain ⟨r', h3, h4⟩ := h'.ex
  exact ⟨_, OpR.or h1 h3, h2.or h4⟩
def eOp (f : F2) (ma mb : ME) : ME := fun ρ M => match ma ρ M with
  | some (x, M1) => match mb ρ M1 with
    | some (y, M2) => f x y M2
    | none => none
  | none => none
theorem sim_op2 {K : PySem.W.Frag} {r : R2} {f : F2} {ta tb : TE} (hs : SimOp K r f) (ha : SimE K ta ma) (hb : SimE K tb mb) : SimE K (tOp r ta tb) (eOp f ma mb) := by
  intro σ H α ρ M u M' Q R er h P
  unfold eOp at h
  split at h
  · rename_i x M1 e1
    split at h
    · rename_i y M2 e2
      refine ha σ H α ρ M x M1 _ R er e1 fun v1 α1 H1 R1 x1 r1 => ?_
      refine hb σ H1 α1 ρ M1 y M2 _ R1 (er.ext x1) e2 fun v2 α2 H2 R2 x2 r2 => ?_
      exact hs H2 α2 M2 v1 v2 x y u M' Q R2 (r1.ext x2) r2 h (P.after (x1.trans x2))
    · cases h
  · cases h
theorem qe_op {op : Operator} {f : F2} (ho : QOp X (binaryOp op) f) (ha : QE X a ma) (hb : QE X b mb) : QE X (.BinOp a op b pos) (eOp f ma mb) := by
  obtain ⟨r, h1, h2⟩ := ho.ex
  obtain ⟨ta, a1, a2⟩ := ha.ex
  obtain ⟨tb, b1, b2⟩ := hb.ex
  exact ⟨_, pe_op h1 a1 b1, sim_op2 h2 a2 b2⟩
/-- comparisons -/
theorem qe_cmp {op : CmpOp} {f : F2} (ho : QOp X (compareOp op) f) (ha : QE X a ma) (hb : QE X b mb) (hm : behindInMarks op b = false := by first | exact nobehind _ (by decide) (by decide) | rfl) : QE X (.Compare a [op] [b] pos) (eOp f ma mb) := by
  obtain ⟨r, h1, h2⟩ := ho.ex
  obtain ⟨ta, a1, a2⟩ := ha.ex
  obtain ⟨tb, b1, b2⟩ := hb.ex
  exact ⟨_, pe_cmpR h1 a1 b1 hm, sim_op2 h2 a2 b2⟩
end
/-- a truth -/
def asB : Option (U × Mem) → Option (Bool × Mem)
  | some (.dat (.bool b), M) => some (b, M)
  | _ => none
def tOf (m : ME) : MT := fun ρ M => asB (m ρ M)
theorem asB_some {r : Option (U × Mem)} {b : Bool} {M : Mem} (h : asB r = some (b, M)) : r = some (.dat (.bool b), M) := by
  unfold asB at h
  split at h
  · cases h; rfl
  · cases h
theorem vr_bool {K : PySem.W.Frag} {α : List Addr} {G : Hp} {v : V} {b : Bool} (r : VR K α G v (.dat (.bool b))) : v = .bl b := by
  cases r with
  | dat d => cases d; rfl
theorem vr_int {K : PySem.W.Frag} {α : List Addr} {G : Hp} {v : V} {b : Int} (r : VR K α G v (.dat (.int b))) : v = .int b := by
  cases r with
  | dat d => cases d; rfl
theorem vr_str {K : PySem.W.Frag} {α : List Addr} {G : Hp} {v : V} {b : Str} (r : VR K α G v (.dat (.str b))) : v = .str b := by
  cases r with
  | dat d => cases d; rfl
theorem vr_non {K : PySem.W.Frag} {α : List Addr} {G : Hp} {v : V} (r : VR K α G v (.dat .none)) : v = .non := by
  cases r with
  | dat d => cases d; rfl
theorem sim_tB {K : PySem.W.Frag} {t : TE} {m : ME} (h : SimE K t m) : SimT K (tB t) (tOf m) := by
  intro σ H α ρ M u M' Q R er e P
  refine h σ H α ρ M _ M' _ R er (asB_some e) fun v α' H' R' x r => ?_
  exact ⟨u, vr_bool r, P α' H' R' x⟩
section
variable {X : Cx} {a b : Expr} {ma mb : ME} {pos : Pos} {mt mu : MT}
theorem qt_cmp {op : CmpOp} {f : F2} (ho : QOp X (compareOp op) f) (ha : QE X a ma) (hb : QE X b mb) (hm : behindInMarks op b = false := by first | exact nobehind _ (by decide) (by decide) | rfl) : QT X (.Compare a [op] [b] pos) (tOf (eOp f ma mb)) := by
  obtain ⟨r, h1, h2⟩ := ho.ex
  obtain ⟨ta, a1, a2⟩ := ha.ex
  obtain ⟨tb, b1, b2⟩ := hb.ex
  exact ⟨_, pt_cmpR h1 a1 b1 hm, sim_tB (sim_op2 h2 a2 b2)⟩
/-- a value's truth -/
def truthU (M : Mem) : U → Option Bool
  | .dat .none => some false
  | .dat (.bool b) => some b
  | .dat (.int i) => some (decide (i ≠ 0))
  | .dat (.str z) => some (decide (z.length ≠ 0))
  | u => (seqOf M u).map fun us => !us.isEmpty
end
end Pu

namespace Pu
open PySem PySem.Spec PyProof.Rows L2 Lw
open Classical

/-! ### truth, and, or, not -/
theorem empty_vrs {K : PySem.W.Frag} {α : List Addr} {G : Hp} {xs : List V} {us : List U} (r : VRs K α G xs us) : us.isEmpty = xs.isEmpty := by
  cases r <;> rfl
theorem truthU_ok {K : PySem.W.Frag} {α : List Addr} {M : Mem} {H : Hp} {v : V} {u : U} {b : Bool} (R : Rp K α M H) (r : VR K α (fzH α M H) v u) (hz : ∀ z, v = .str z → z.length ≤ sizeLine) (h : truthU M u = some b) : TruV K v H b := by
  have gen : (seqOf M u).map (fun us => !us.isEmpty) = some b → TruV K v H b := by
    intro e
    obtain ⟨us, e1, e2⟩ := Option.map_eq_some_iff.mp e
    obtain ⟨a, xs, rfl, q, rs⟩ := seqOf_ok R r e1
    rw [empty_vrs rs] at e2
    rcases q with q | q
    · exact .inl ⟨xs, q, e2.symm⟩
    · exact .inr (.inl ⟨xs, q, e2.symm⟩)
  cases u with
  | dat d =>
    cases d with
    | none => cases vr_non r; cases h; rfl
    | bool b => cases vr_bool r; cases h; rfl
    | int i =>
      cases vr_int r
      cases h
      show decide (i ≠ 0) = (i != 0)
      by_cases z : i = 0 <;> simp [z]
    | str z =>
      cases vr_str r
      cases h
      refine ⟨hz z rfl, ?_⟩
      by_cases e : z.length = 0 <;> simp [e]
    | _ => exact gen h
  | _ => exact gen h
section
variable {X : Cx} {a b : Expr} {ma mb : ME} {pos : Pos} {mt mu : MT} {rest : List Expr}
/-- a test that is a truth -/
theorem qt_val (ha : QE X a ma) (he : ∀ whole, isTrue a X.env whole = (do let v ← whole; standAt a.pos; holding [v] (truthy v)) := by intro _; rfl) : QT X a (tOf ma) := by
  obtain ⟨t, h1, h2⟩ := ha.ex
  exact ⟨_, pt_val h1 he, sim_tB h2⟩
/-- a test by a value's truth (no text) -/
def truthN (M : Mem) : U → Option Bool
  | .dat (.str _) => none
  | u => truthU M u
def tTrN (m : ME) : MT := fun ρ M => match m ρ M with
  | some (u, M') => (truthN M' u).map fun b => (b, M')
  | none => none
theorem qt_truth (ha : QE X a ma) (he : ∀ whole, isTrue a X.env whole = (do let v ← whole; standAt a.pos; holding [v] (truthy v)) := by intro _; rfl) : QT X a (tTrN ma) := by
  obtain ⟨t, h1, h2⟩ := ha.ex
  refine ⟨_, pt_truth h1 he, ?_⟩
  intro σ H α ρ M u M' Q R er e P
  unfold tTrN at e
  split at e
  · rename_i w M1 e1
    obtain ⟨b, e2, e3⟩ := Option.map_eq_some_iff.mp e
    cases e3
    refine h2 σ H α ρ M w _ _ R er e1 fun v α' H' R' x r => ?_
    refine ⟨_, truthU_ok R' r (fun z ez => ?_) (u := w) (b := u) ?_, P α' H' R' x⟩
    · subst ez
      cases r with
      | dat d => cases d; cases e2
    · unfold truthN at e2
      split at e2
      · cases e2
      · exact e2
  · cases e
def tAndM (m n : MT) : MT := fun ρ M => match m ρ M with
  | some (true, M1) => n ρ M1
  | some (false, M1) => some (false, M1)
  | none => none
def tOrM (m n : MT) : MT := fun ρ M => match m ρ M with
  | some (true, M1) => some (true, M1)
  | some (false, M1) => n ρ M1
  | none => none
def tNotM (m : MT) : MT := fun ρ M => match m ρ M with
  | some (b, M1) => some (!b, M1)
  | none => none
theorem sim_and {K : PySem.W.Frag} {t u : TT} (ha : SimT K t mt) (hb : SimT K u mu) : SimT K (tAnd t u) (tAndM mt mu) := by
  intro σ H α ρ M b M' Q R er e P
  unfold tAndM at e
  split at e
  · rename_i M1 e1
    refine ha σ H α ρ M true M1 _ R er e1 fun α' H' R' x => ?_
    exact hb σ H' α' ρ M1 b M' Q R' (er.ext x) e (P.after x)
  · rename_i M1 e1
    cases e
    exact ha σ H α ρ M false _ _ R er e1 fun α' H' R' x => P α' H' R' x
  · cases e
theorem sim_or {K : PySem.W.Frag} {t u : TT} (ha : SimT K t mt) (hb : SimT K u mu) : SimT K (tOr t u) (tOrM mt mu) := by
  intro σ H α ρ M b M' Q R er e P
  unfold tOrM at e
  split at e
  · rename_i M1 e1
    cases e
    exact ha σ H α ρ M true _ _ R er e1 fun α' H' R' x => P α' H' R' x
  · rename_i M1 e1
    refine ha σ H α ρ M false M1 _ R er e1 fun α' H' R' x => ?_
    exact hb σ H' α' ρ M1 b M' Q R' (er.ext x) e (P.after x)
  · cases e
theorem qw_and1 (ha : QT X a mt) : QW X (.BoolOp .And [a] pos) mt := let ⟨t, h1, h2⟩ := ha.ex; ⟨t, pw_and1 h1, h2⟩
theorem qw_or1 (ha : QT X a mt) : QW X (.BoolOp .Or [a] pos) mt := let ⟨t, h1, h2⟩ := ha.ex; ⟨t, pw_or1 h1, h2⟩
theorem qw_and (ha : QT X a mt) (hb : QW X (.BoolOp .And (b :: rest) pos) mu) : QW X (.BoolOp .And (a :: b :: rest) pos) (tAndM mt mu) := by
  obtain ⟨t, h1, h2⟩ := ha.ex
  obtain ⟨u, h3, h4⟩ := hb.ex
  exact ⟨_, pw_and h1 h3, sim_and h2 h4⟩
theorem qw_or (ha : QT X a mt) (hb : QW X (.BoolOp .Or (b :: rest) pos) mu) : QW X (.BoolOp .Or (a :: b :: rest) pos) (tOrM mt mu) := by
  obtain ⟨t, h1, h2⟩ := ha.ex
  obtain ⟨u, h3, h4⟩ := hb.ex
  exact ⟨_, pw_or h1 h3, sim_or h2 h4⟩
theorem QW.pt {e : Expr} (h : QW X e mt) : QT X e mt := let ⟨t, h1, h2⟩ := h.ex; ⟨t, h1.pt, h2⟩
theorem qt_not (ha : QT X a mt) : QT X (.UnaryOp .Not a pos) (tNotM mt) := by
  obtain ⟨t, h1, h2⟩ := ha.ex
  refine ⟨_, pt_not h1, ?_⟩
  intro σ H α ρ M b M' Q R er e P
  unfold tNotM at e
  split at e
  · rename_i c M1 e1
    cases e
    exact h2 σ H α ρ M c _ _ R er e1 fun α' H' R' x => P α' H' R' x
  · cases e
/-- .. as values -/
def eAnd (m n : ME) : ME := fun ρ M => match m ρ M with
  | some (.dat (.bool true), M1) => n ρ M1
  | some (.dat (.bool false), M1) => some (.dat (.bool false), M1)
  | _ => none
def eOr (m n : ME) : ME := fun ρ M => match m ρ M with
  | some (.dat (.bool true), M1) => some (.dat (.bool true), M1)
  | some (.dat (.bool false), M1) => n ρ M1
  | _ => none
def eNot (m : ME) : ME := fun ρ M => match m ρ M with
  | some (.dat (.bool b), M1) => some (.dat (.bool (!b)), M1)
  | _ => none
theorem qe_one {op} (ha : QE X a ma) : QE X (.BoolOp op [a] pos) ma := let ⟨t, h1, h2⟩ := ha.ex; ⟨t, pe_one h1, h2⟩
theorem qe_and (ha : QE X a ma) (hb : QE X (.BoolOp .And (b :: rest) pos) mb) : QE X (.BoolOp .And (a :: b :: rest) pos) (eAnd ma mb) := by
  obtain ⟨t, h1, h2⟩ := ha.ex
  obtain ⟨u, h3, h4⟩ := hb.ex
  refine ⟨_, pe_and h1 h3, ?_⟩
  intro σ H α ρ M w M' Q R er e P
  unfold eAnd at e
  split at e
  · rename_i M1 e1
    refine h2 σ H α ρ M _ M1 _ R er e1 fun v α' H' R' x r => ⟨true, vr_bool r, ?_⟩
    rw [if_pos rfl]
    exact h4 σ H' α' ρ M1 w M' Q R' (er.ext x) e (P.after x)
  · rename_i M1 e1
    cases e
    refine h2 σ H α ρ M _ _ _ R er e1 fun v α' H' R' x r => ⟨false, vr_bool r, ?_⟩
    rw [if_neg (by decide)]
    exact P _ α' H' R' x (.dat (.bl false))
  · cases e
def eIf (c : MT) (m n : ME) : ME := fun ρ M => match c ρ M with
  | some (true, M1) => m ρ M1
  | some (false, M1) => n ρ M1
  | none => none
theorem qe_ifExp {c : Expr} (hc : QT X c mt) (ha : QE X a ma) (hb : QE X b mb) : QE X (.IfExp c a b pos) (eIf mt ma mb) := by
  obtain ⟨t, h1, h2⟩ := hc.ex
  obtain ⟨u, h3, h4⟩ := ha.ex
  obtain ⟨v, h5, h6⟩ := hb.ex
  refine ⟨_, pe_ifExp h1 h3 h5, ?_⟩
  intro σ H α ρ M w M' Q R er e P
  unfold eIf at e
  split at e
  · rename_i M1 e1
    refine h2 σ H α ρ M _ M1 _ R er e1 fun α' H' R' x => ?_
    rw [if_pos rfl]
    exact h4 σ H' α' ρ M1 w M' Q R' (er.ext x) e (P.after x)
  · rename_i M1 e1
    refine h2 σ H α ρ M _ M1 _ R er e1 fun α' H' R' x => ?_
    rw [if_neg (by decide)]
    exact h6 σ H' α' ρ M1 w M' Q R' (er.ext x) e (P.after x)
  · cases e
end

/-! ### argument lists, displays -/
section
variable {X : Cx} {e : Expr} {es : List Expr} {me : ME} {m : MA} {pos : Pos}
def aNil : MA := fun _ M => some ([], M)
def aCons (me : ME) (m : MA) : MA := fun ρ M => match me ρ M with
  | some (u, M1) => match m ρ M1 with
    | some (us, M2) => some (u :: us, M2)
    | none => none
  | none => none
theorem qa_nil : QA X [] aNil := ⟨_, pa_nil, fun σ H α ρ M us M' Q R er e P => by cases e; exact P [] α H R Ext.refl .nil⟩
theorem sim_cons {K : PySem.W.Frag} {te : TE} {t : TA} (ha : SimE K te me) (hr : SimA K t m) : SimA K (tCons te t) (aCons me m) := by
  intro σ H α ρ M us M' Q R er h P
  unfold aCons at h
  split at h
  · rename_i u M1 e1
    split at h
    · rename_i ws M2 e2
      cases h
      refine ha σ H α ρ M u M1 _ R er e1 fun v α1 H1 R1 x1 r1 => ?_
      refine hr σ H1 α1 ρ M1 ws _ _ R1 (er.ext x1) e2 fun vs α2 H2 R2 x2 r2 => ?_
      exact P _ α2 H2 R2 (x1.trans x2) (.cons (r1.ext x2) r2)
    · cases h
  · cases h
theorem qa_cons (ha : QE X e me) (hr : QA X es m) (hs : starEach (e :: es) X.env = (false, eval e X.env) :: starEach es X.env := by rfl) : QA X (e :: es) (aCons me m) := by
  obtain ⟨t, h1, h2⟩ := ha.ex
  obtain ⟨u, h3, h4⟩ := hr.ex
  exact ⟨_, pa_cons h1 h3 hs, sim_cons h2 h4⟩
/-- lists that go into other things change no more -/
def frzU (u : U) (M : Mem) : U × Mem := match u with
  | .cell i => match M[i]? with
    | some (.lst true us) => match allDat us with
      | some ds => (.dat (.list ds), M.set i (.fz ds))
      | none => (.cell i, M)
    | some (.fz ds) => (.dat (.list ds), M)
    | _ => (.cell i, M)
  | u => (u, M)
def frzAll : List U → Mem → List U × Mem
  | [], M => ([], M)
  | u :: us, M => let (u', M1) := frzU u M
    let (us', M2) := frzAll us M1
    (u' :: us', M2)
theorem D.fzAt {K : PySem.W.Frag} {α : List Addr} {M : Mem} {H : Hp} (R : Rp K α M H) {i : Nat} {a : Addr} {ds : List PyData} (hi : α[i]? = some a) (hc : M[i]? = some (.fz ds)) : D true (fzH α M H) (.ref a) (.list ds) := by
  obtain ⟨n, xs, hx, da⟩ := R.ok i a _ hi hc
  refine .lst ?_ (fun _ => n) da
  rw [fzH_of]
  · exact hx
  · rintro ⟨j, c, h1, h2, h3⟩
    have := nodup_at R h1 hi
    subst this
    rw [hc] at h2
    cases h2
    cases h3
theorem frzU_ok {K : PySem.W.Frag} {α : List Addr} {M : Mem} {H : Hp} {v : V} {u : U} (R : Rp K α M H) (r : VR K α (fzH α M H) v u) :
    Rp K α (frzU u M).2 H ∧ Ext α (fzH α M H) α (fzH α (frzU u M).2 H) ∧ VR K α (fzH α (frzU u M).2 H) v (frzU u M).1 := by
  have triv : Rp K α M H ∧ Ext α (fzH α M H) α (fzH α M H) ∧ VR K α (fzH α M H) v u := ⟨R, Ext.refl, r⟩
  cases u with
  | cell i =>
    cases r with
    | cell hi =>
      rename_i a
      unfold frzU
      simp only
      split
      · rename_i us hc
        split
        · rename_i ds e
          have := allDat_some e
          subst this
          obtain ⟨R', x, d⟩ := R.freeze hc
          exact ⟨R', x, .dat (d a hi)⟩
        · exact triv
      · rename_i ds hc
        exact ⟨R, Ext.refl, .dat (D.fzAt R hi hc)⟩
      · exact triv
  | _ => exact triv
theorem frzAll_ok {K : PySem.W.Frag} {α : List Addr} {H : Hp} : ∀ {us : List U} {M : Mem} {vs : List V}, Rp K α M H → VRs K α (fzH α M H) vs us →
    Rp K α (frzAll us M).2 H ∧ Ext α (fzH α M H) α (fzH α (frzAll us M).2 H) ∧ VRs K α (fzH α (frzAll us M).2 H) vs (frzAll us M).1
  | [], M, _, R, .nil => ⟨R, Ext.refl, .nil⟩
  | u :: us, M, _, R, .cons r t => by
    obtain ⟨R1, x1, r1⟩ := frzU_ok R r
    obtain ⟨R2, x2, r2⟩ := frzAll_ok (us := us) R1 (t.ext x1)
    exact ⟨R2, x1.trans x2, .cons (r1.ext x2) r2⟩
theorem frzAll_dat : ∀ (ds : List PyData) (M : Mem), frzAll (ds.map .dat) M = (ds.map .dat, M)
  | [], _ => rfl
  | d :: ds, M => by
    show (let (us', M2) := frzAll (ds.map .dat) M; (U.dat d :: us', M2)) = _
    rw [frzAll_dat ds M]
    rfl
noncomputable def eTup (m : MA) : ME := fun ρ M => match m ρ M with
  | some (us, M1) => if us.length ≤ sizeLine then some (mkTup (frzAll us M1).1, (frzAll us M1).2) else none
  | none => none
noncomputable def eLst (m : MA) : ME := fun ρ M => match m ρ M with
  | some (us, M1) => if us.length ≤ sizeLine then some (.cell (frzAll us M1).2.length, (frzAll us M1).2 ++ [.lst true (frzAll us M1).1]) else none
  | none => none
theorem qe_tup {x1} (h : QA X es m) : QE X (.Tuple es x1 pos) (eTup m) := by
  obtain ⟨t, h1, h2⟩ := h.ex
  refine ⟨_, pe_tupN h1, ?_⟩
  intro σ H α ρ M w M' Q R er e P
  unfold eTup at e
  split at e
  · rename_i us M1 e1
    split at e
    · rename_i hz
      cases e
      refine h2 σ H α ρ M _ M1 _ R er e1 fun vs α' H' R' x r => ⟨by rw [r.length]; exact hz, fun p o np hd => ?_⟩
      obtain ⟨R2, x2, r2⟩ := frzAll_ok R' r
      obtain ⟨R3, x3, e3⟩ := R2.newFix (o := .frz o (.tup vs)) np
      exact P _ α' _ R3 (x.trans (x2.trans x3)) (VR.mkTup ⟨o, e3, hd⟩ (r2.ext x3))
    · cases e
  · cases e
theorem qe_lst (h : QA X es m) : QE X (.List es pos) (eLst m) := by
  obtain ⟨t, h1, h2⟩ := h.ex
  refine ⟨_, pe_lstN h1, ?_⟩
  intro σ H α ρ M w M' Q R er e P
  unfold eLst at e
  split at e
  · rename_i us M1 e1
    split at e
    · rename_i hz
      cases e
      refine h2 σ H α ρ M _ M1 _ R er e1 fun vs α' H' R' x r => ⟨by rw [r.length]; exact hz, fun p np ns => ?_⟩
      obtain ⟨R2, x2, r2⟩ := frzAll_ok R' r
      obtain ⟨R3, x3, e3⟩ := R2.newMem (o := .lst vs) (c := .lst true (frzAll us M1).1) np rfl fun y => ⟨fun _ => ns, vs, upd_same, r2.ext y⟩
      exact P _ _ _ R3 (x.trans (x2.trans x3)) (.cell e3)
    · cases e
  · cases e
end

/-! ### a rule's ends -/
section
variable {K : PySem.W.Frag} {α : List Addr} {M : Mem} {H : Hp} {Q : VK}
theorem Post.tup {us : List U} {xs : List V} (P : Post K α (fzH α M H) (mkTup us) M Q) (R : Rp K α M H) (r : VRs K α (fzH α M H) xs us) {p : Addr} {o : Obj} (np : H p = none) (hd : o.dict = none) : Q (.ref p) (upd H p (.frz o (.tup xs))) := by
  obtain ⟨R3, x3, e3⟩ := R.newFix (o := .frz o (.tup xs)) np
  exact P _ α _ R3 x3 (VR.mkTup ⟨o, e3, hd⟩ (r.ext x3))
theorem Post.tupD {ds : List PyData} {xs : List V} (P : Post K α (fzH α M H) (.dat (.tuple ds)) M Q) (R : Rp K α M H) (r : DA true (fzH α M H) xs ds) {p : Addr} {o : Obj} (np : H p = none) (hd : o.dict = none) : Q (.ref p) (upd H p (.frz o (.tup xs))) := by
  rw [← mkTup_dat] at P
  exact P.tup R (VRs.ofDA r) np hd
theorem TupN.le {a : Addr} {xs : List V} (h : TupN (fzH α M H) a xs) : TupN H a xs := h.same fzH_le
theorem Post.lst {us : List U} {xs : List V} (P : Post K α (fzH α M H) (.cell M.length) (M ++ [.lst false us]) Q) (R : Rp K α M H) (r : VRs K α (fzH α M H) xs us) {p : Addr} (np : H p = none) : Q (.ref p) (upd H p (.lst xs)) := by
  obtain ⟨R3, x3, e3⟩ := R.newMem (o := .lst xs) (c := .lst false us) np rfl fun y => ⟨fun z => (by cases z), xs, upd_same, r.ext y⟩
  exact P _ _ _ R3 x3 (.cell e3)
theorem Post.lstN {us : List U} {xs : List V} (P : Post K α (fzH α M H) (.cell M.length) (M ++ [.lst true us]) Q) (R : Rp K α M H) (r : VRs K α (fzH α M H) xs us) {p : Addr} (np : H p = none) (ns : p ≠ sysModules) : Q (.ref p) (upd H p (.lst xs)) := by
  obtain ⟨R3, x3, e3⟩ := R.newMem (o := .lst xs) (c := .lst true us) np rfl fun y => ⟨fun _ => ns, xs, upd_same, r.ext y⟩
  exact P _ _ _ R3 x3 (.cell e3)
/-- the list at a cell is changed -/
theorem Post.write {i : Nat} {a : Addr} {f : Bool} {vs us : List U} {xs ys : List V} {w : U} {v : V} (P : Post K α (fzH α M H) w (M.set i (.lst f us)) Q) (R : Rp K α M H) (hi : α[i]? = some a) (hc : M[i]? = some (.lst f vs))
    (r : VRs K α (fzH α M H) ys us) (rv : VR K α (fzH α M H) v w) : Q v (upd H a (.lst ys)) := by
  obtain ⟨n, _⟩ := R.ok i a _ hi hc
  obtain ⟨R3, x3⟩ := R.write (d := .lst f us) (o := .lst ys) hi hc rfl rfl ⟨n, ys, upd_same, r⟩
  exact P _ _ _ R3 x3 (rv.ext x3)
end

/-! ### arithmetic -/
section
variable {X : Cx} {K : PySem.W.Frag}
def numD : PyData → Option Int
  | .int i => some i
  | .bool b => some (if b = true then 1 else 0)
  | _ => none
theorem numD_ok {α : List Addr} {G : Hp} {v : V} {d : PyData} {i : Int} (r : VR K α G v (.dat d)) (h : numD d = some i) : isN v i := by
  cases d with
  | int j => cases h; exact .inl (vr_int r)
  | bool b => cases h; exact .inr ⟨b, vr_bool r, rfl⟩
  | _ => cases h
/-- ints -/
noncomputable def fI (C : Int → Int → Prop) (g : Int → Int → PyData) : F2 := fun a b M => match a, b with
  | .dat (.int i), .dat (.int j) => if C i j then some (.dat (g i j), M) else none
  | _, _ => none
theorem sim_rI {C : Int → Int → Prop} {g : Int → Int → V} {g' : Int → Int → PyData} (hg : ∀ i j, vDat (g i j) = some (g' i j)) : SimOp K (rI C g) (fI C g') := by
  intro H α M x y a b u M' Q R rx ry e P
  unfold fI at e
  split at e
  · rename_i i j
    split at e
    · rename_i hc
      cases e
      exact ⟨i, j, vr_int rx, vr_int ry, hc, P.here R (vDat_ok (hg i j))⟩
    · cases e
  · cases e
def fNI (g : Int → Int → PyData) : F2 := fun a b M => match a, b with
  | .dat d, .dat (.int j) => (numD d).map fun i => (.dat (g i j), M)
  | _, _ => none
def fIN (g : Int → Int → PyData) : F2 := fun a b M => match a, b with
  | .dat (.int i), .dat d => (numD d).map fun j => (.dat (g i j), M)
  | _, _ => none
def fSS (g : Str → Str → Option PyData) : F2 := fun a b M => match a, b with
  | .dat (.str x), .dat (.str y) => (g x y).map fun d => (.dat d, M)
  | _, _ => none
def addS (x y : Str) : Option PyData := if x.length + y.length ≤ sizeLine then some (.str (x ++ y)) else none
theorem q_addNI : QOp X (binaryOp .Add) (fNI fun i j => .int (i + j)) := by
  refine ⟨_, Lw.op_addN, ?_⟩
  intro H α M x y a b u M' Q R rx ry e P
  unfold fNI at e
  split at e
  · obtain ⟨i, e1, e2⟩ := Option.map_eq_some_iff.mp e
    cases e2
    exact ⟨i, _, numD_ok rx e1, vr_int ry, P.here R (.dat (.int _))⟩
  · cases e
theorem q_addS : QOp X (binaryOp .Add) (fSS addS) := by
  refine ⟨_, op_add_str, ?_⟩
  intro H α M x y a b u M' Q R rx ry e P
  unfold fSS at e
  split at e
  · obtain ⟨i, e1, e2⟩ := Option.map_eq_some_iff.mp e
    cases e2
    unfold addS at e1
    split at e1
    · rename_i hz
      cases e1
      exact ⟨_, _, vr_str rx, vr_str ry, hz, P.here R (.dat (.str _))⟩
    · cases e1
  · cases e
def catT : F2 := fun a b M => match dtup a, dtup b with
  | some ds, some es => if ds.length + es.length ≤ sizeLine then some (.dat (.tuple (ds ++ es)), M) else none
  | _, _ => none
theorem q_catT : QOp X (binaryOp .Add) catT := by
  refine ⟨_, op_catN, ?_⟩
  intro H α M x y a b u M' Q R rx ry e P
  unfold catT at e
  split at e
  · rename_i ds es e1 e2
    split at e
    · rename_i hz
      cases e
      obtain ⟨p, xs, rfl, g1, r1⟩ := dtup_ok rx e1
      obtain ⟨q, ys, rfl, g2, r2⟩ := dtup_ok ry e2
      refine ⟨p, q, xs, ys, rfl, rfl, TupN.le g1, TupN.le g2, by rw [r1.length, r2.length]; exact hz, fun z => ?_, fun z => ?_, fun c o nc hd => P.tupD R (r1.append r2) nc hd⟩
      · subst z
        cases r1
        exact P.here R (.dat (.tup g2 r2))
      · subst z
        cases r2
        rw [List.append_nil] at P
        exact P.here R (.dat (.tup g1 r1))
    · cases e
  · cases e
def catL : F2 := fun a b M => match lstOf M a, lstOf M b with
  | some us, some ws => if us.length + ws.length ≤ sizeLine then some (.cell M.length, M ++ [.lst false (us ++ ws)]) else none
  | _, _ => none
theorem q_catL : QOp X (binaryOp .Add) catL := by
  refine ⟨_, op_cat, ?_⟩
  intro H α M x y a b u M' Q R rx ry e P
  unfold catL at e
  split at e
  · rename_i us ws e1 e2
    split at e
    · rename_i hz
      cases e
      obtain ⟨p, xs, rfl, g1, r1⟩ := lstOf_ok R rx e1
      obtain ⟨q, ys, rfl, g2, r2⟩ := lstOf_ok R ry e2
      exact ⟨p, q, xs, ys, rfl, rfl, g1, g2, by rw [r1.length, r2.length]; exact hz, fun c nc => P.lst R (r1.append r2) nc⟩
    · cases e
  · cases e
def addU : F2 := orF (fNI fun i j => .int (i + j)) (orF (fSS addS) (orF catT catL))
theorem q_add : QOp X (binaryOp .Add) addU := q_addNI.or (q_addS.or (q_catT.or q_catL))
theorem q_subNI : QOp X (binaryOp .Sub) (fNI fun i j => .int (i - j)) := by
  refine ⟨_, Lw.op_subN, ?_⟩
  intro H α M x y a b u M' Q R rx ry e P
  unfold fNI at e
  split at e
  · obtain ⟨i, e1, e2⟩ := Option.map_eq_some_iff.mp e
    cases e2
    exact ⟨i, _, numD_ok rx e1, vr_int ry, P.here R (.dat (.int _))⟩
  · cases e
theorem q_subIN : QOp X (binaryOp .Sub) (fIN fun i j => .int (i - j)) := by
  refine ⟨_, Lw.op_subM, ?_⟩
  intro H α M x y a b u M' Q R rx ry e P
  unfold fIN at e
  split at e
  · obtain ⟨i, e1, e2⟩ := Option.map_eq_some_iff.mp e
    cases e2
    exact ⟨_, i, vr_int rx, numD_ok ry e1, P.here R (.dat (.int _))⟩
  · cases e
def subU : F2 := orF (fNI fun i j => .int (i - j)) (fIN fun i j => .int (i - j))
theorem q_sub : QOp X (binaryOp .Sub) subU := q_subNI.or q_subIN
theorem q_mulI : QOp X (binaryOp .Mult) (fI CMulW fun i j => .int (i * j)) := ⟨_, op_mulW, sim_rI fun _ _ => rfl⟩
/-- a text, once or not at all -/
def mulS : F2 := fun a b M => match a, b with
  | .dat (.str z), .dat (.int j) => if j = 1 then some (.dat (.str z), M) else if j = 0 then some (.dat (.str Str.empty), M) else none
  | _, _ => none
theorem q_mulS : QOp X (binaryOp .Mult) mulS := by
  refine ⟨_, op_mulS, ?_⟩
  intro H α M x y a b u M' Q R rx ry e P
  unfold mulS at e
  split at e
  · rename_i z j
    split at e
    · rename_i hz
      cases e
      subst hz
      exact ⟨z, true, vr_str rx, vr_int ry, P.here R (.dat (.str _))⟩
    · split at e
      · rename_i hz
        cases e
        subst hz
        exact ⟨z, false, vr_str rx, vr_int ry, P.here R (.dat (.str _))⟩
      · cases e
  · cases e
def repL : F2 := fun a b M => match lstOf M a, b with
  | some us, .dat (.int k) => if -(2 ^ 63) ≤ k ∧ k < 2 ^ 63 ∧ us.length * k.toNat ≤ sizeLine then some (.cell M.length, M ++ [.lst false (List.replicate k.toNat us).flatten]) else none
  | _, _ => none
theorem q_repL : QOp X (binaryOp .Mult) repL := by
  refine ⟨_, op_rep, ?_⟩
  intro H α M x y a b u M' Q R rx ry e P
  unfold repL at e
  split at e
  · rename_i us k e1
    split at e
    · rename_i hz
      cases e
      obtain ⟨p, xs, rfl, g1, r1⟩ := lstOf_ok R rx e1
      exact ⟨p, k, xs, rfl, vr_int ry, g1, hz.1, hz.2.1, by rw [r1.length]; exact hz.2.2, fun c nc => P.lst R (r1.flat _) nc⟩
    · cases e
  · cases e
theorem tuple_mul0 (l : Addr) (items : Array Value) (n : Nat) (dd : Option Addr) (sl : Array (Option Value)) (u : Tok) (c1 : items.isEmpty = false) :
    Meets (Builtin.«tuple.__mul__» ⟨[.ref l, .int 0 u], []⟩) (fun _ R s => s.heap.get? l = some { cls := .type "tuple", dict := dd, data := .seq items n, slots := sl } ∧
      R (.ok (.ret (Value.ref s.heap.objs.size))) { s with heap := s.heap.push { cls := Value.type "tuple", data := Data.seq #[] }, toks := s.toks }) :=
  .of_wp fun prog w A R s h => by
    obtain ⟨hp, g, d, tk, os⟩ := s
    obtain ⟨hl, h⟩ := h
    have f1 := AutoSeq1.idx_int
    have c1' : (items.isEmpty || (0 : Int) == 1) = false := by rw [c1]; rfl
    wp_walk using wpAny_loadPart' hl
    exact ⟨_, rfl, h⟩
def rRepV (K : PySem.W.Frag) : R2 := fun x y H Q => ∃ l k xs, x = .ref l ∧ y = .int k ∧ SqT K H l xs ∧ xs ≠ [] ∧ 0 ≤ k ∧ k ≤ 1000 ∧ xs.length ≤ 1000 ∧
  (k = 1 → Q (.ref l) H) ∧ (k ≠ 1 → ∀ (p : Addr) (o : Obj), H p = none → o.dict = none → Q (.ref p) (upd H p (.frz o (.tup (List.replicate k.toNat xs).flatten))))
def rRepN (K : PySem.W.Frag) : R2 := fun x y H Q => ∃ l k xs, x = .ref l ∧ y = .int k ∧ SqT K H l xs ∧ xs ≠ [] ∧ 2 ≤ k ∧ k ≤ 1000 ∧ xs.length ≤ 1000 ∧ ∀ (p : Addr) (o : Obj), H p = none → o.dict = none → Q (.ref p) (upd H p (.frz o (.tup (List.replicate k.toNat xs).flatten)))
theorem op_repN : OpR X (binaryOp .Mult) (rRepN X.K) := by
  intro pins s σ H x y v u Q I rx ry h
  obtain ⟨l, k, xs, rfl, rfl, hT, hne, k2, k3, hz, q⟩ := h
  cases rx
  obtain ⟨t, rfl⟩ := ry
  obtain ⟨us, r, ⟨⟨cls, dd, data, sl⟩, ho, hc, n, hd⟩, hs⟩ := I.tuple hT
  dsimp only at hc hd
  subst hc hd
  have le := r.length
  have full : us.toArray.isEmpty = false := by
    cases r with
    | nil => exact absurd rfl hne
    | cons _ _ => rfl
  have sz : us.toArray.size = xs.length := by rw [List.size_toArray]; exact le.symm
  have prod : k.toNat * xs.length ≤ 1000 * 1000 := Nat.mul_le_mul (by omega) hz
  have flen : (List.replicate k.toNat us).flatten.length ≤ 1000000 := by
    rw [lm_len_rep_flat, ← le]
    exact Nat.le_trans prod (by decide)
  have line : 1000000 ≤ sizeLine := by decide
  have pk : ((us.toArray.size : Nat) : Int) * k ≤ 1000000 := by
    rw [sz]
    have h1 : ((xs.length : Nat) : Int) * k ≤ 1000 * k := Int.mul_le_mul_of_nonneg_right (Int.ofNat_le.mpr hz) (by omega)
    omega
  have c4 : Builtin.Tuple.tupleTooMany (((us.toArray.size : Nat) : Int) * k) = false := by
    refine (show decide (_ > _) = false from ?_)
    rw [sizeLine_eq, decide_eq_false_iff_not]
    omega
  have c0 : (decide (k < -(2 ^ 63)) || decide (k ≥ 2 ^ 63)) = false := by simp only [Bool.or_eq_false_iff, decide_eq_false_iff_not]; omega
  have c1 : (us.toArray.isEmpty || k == 1) = false := by simp only [full, Bool.false_or, beq_eq_false_iff_ne]; omega
  have c2 : (decide (k ≤ 0) || us.toArray.isEmpty) = false := by simp only [full, Bool.or_false, decide_eq_false_iff_not]; omega
  refine wpAny_binaryOp_repeat_ref (T := "tuple") (U := "int") (by decide) ⟨_, ho, rfl⟩ (fun s' => typeIs_int s' k t) noFill_tuple_mul F.fills_int_mul F.slot_int_rmul repeat_tuple F.slot_int_index.lookup
    (call_meets F.slot_int_rmul (typeIs_int s k t) F.entry_int_rmul (F.args_int_rmul_2 _ _) (int_rmul_tuple k t l us.toArray n dd sl)
      ⟨ho, rfl, ⟨_, ho, rfl⟩, call_meets F.slot_tuple_mul ⟨_, ho, rfl⟩ F.entry_tuple_mul (F.args_tuple_mul_2 _ _) (tuple_mulW l us.toArray n dd sl k t c0 c1 c2 (by omega) c4 (by rw [size_rep, List.size_toArray]; omega)) ⟨ho, ?_⟩⟩)
  rw [size_rep]
  exact laid_tup I (by rw [lm_len_rep_flat]; omega) (r.rep k.toNat) q
theorem op_repV : OpR X (binaryOp .Mult) (rRepV X.K) := by
  intro pins s σ H x y v u Q I rx ry h
  obtain ⟨l, k, xs, rfl, rfl, hT, hne, h0, h2, hz, q1, q⟩ := h
  by_cases hk : k = 1
  · subst hk
    cases rx
    obtain ⟨t, rfl⟩ := ry
    obtain ⟨its, r, ⟨⟨cls, dd, data, sl⟩, ho, hc, n, hd⟩, hs⟩ := I.tuple hT
    simp only at hc hd
    subst hc hd
    refine wpAny_binaryOp_repeat_ref (T := "tuple") (U := "int") (by decide) ⟨_, ho, rfl⟩ (fun s' => typeIs_int s' 1 t) noFill_tuple_mul F.fills_int_mul F.slot_int_rmul repeat_tuple F.slot_int_index.lookup
      (call_meets F.slot_int_rmul (typeIs_int s 1 t) F.entry_int_rmul (F.args_int_rmul_2 _ _) (int_rmul_tuple 1 t l its.toArray n dd sl)
        ⟨ho, rfl, ⟨_, ho, rfl⟩, call_meets F.slot_tuple_mul ⟨_, ho, rfl⟩ F.entry_tuple_mul (F.args_tuple_mul_2 _ _) (tuple_mul1 l its.toArray n dd sl t) ⟨ho, ?_⟩⟩)
    exact ⟨.ref l, H, I, rfl, q1 rfl⟩
  · by_cases hk0 : k = 0
    · subst hk0
      cases rx
      obtain ⟨t, rfl⟩ := ry
      obtain ⟨its, r, ⟨⟨cls, dd, data, sl⟩, ho, hc, n, hd⟩, hs⟩ := I.tuple hT
      simp only at hc hd
      subst hc hd
      have hi : its.toArray.isEmpty = false := by
        cases r with
        | nil => exact absurd rfl hne
        | cons _ _ => rfl
      refine wpAny_binaryOp_repeat_ref (T := "tuple") (U := "int") (by decide) ⟨_, ho, rfl⟩ (fun s' => typeIs_int s' 0 t) noFill_tuple_mul F.fills_int_mul F.slot_int_rmul repeat_tuple F.slot_int_index.lookup
        (call_meets F.slot_int_rmul (typeIs_int s 0 t) F.entry_int_rmul (F.args_int_rmul_2 _ _) (int_rmul_tuple 0 t l its.toArray n dd sl)
          ⟨ho, rfl, ⟨_, ho, rfl⟩, call_meets F.slot_tuple_mul ⟨_, ho, rfl⟩ F.entry_tuple_mul (F.args_tuple_mul_2 _ _) (tuple_mul0 l its.toArray n dd sl t hi) ⟨ho, ?_⟩⟩)
      exact laid_tup I (Nat.zero_le _) .nil (q hk)
    · refine op_repN pins s σ H _ _ v u Q I rx ry ⟨l, k, xs, rfl, rfl, hT, hne, by omega, h2, hz, q hk⟩
def repT : F2 := fun a b M => match dtup a, b with
  | some ds, .dat (.int k) => if ds ≠ [] ∧ 0 ≤ k ∧ k ≤ 1000 ∧ ds.length ≤ 1000 then some (.dat (.tuple (List.replicate k.toNat ds).flatten), M) else none
  | _, _ => none
theorem DA.flat {f : Bool} {H : Hp} : ∀ {xs : List V} {ds : List PyData} (k : Nat), DA f H xs ds → DA f H (List.replicate k xs).flatten (List.replicate k ds).flatten
  | _, _, 0, _ => .nil
  | _, _, k + 1, h => by
    rw [List.replicate_succ, List.replicate_succ, List.flatten_cons, List.flatten_cons]
    exact h.append (DA.flat k h)
theorem q_repT : QOp X (binaryOp .Mult) repT := by
  refine ⟨_, op_repV, ?_⟩
  intro H α M x y a b u M' Q R rx ry e P
  unfold repT at e
  split at e
  · rename_i ds k e1
    split at e
    · rename_i hz
      cases e
      obtain ⟨p, xs, rfl, g1, r1⟩ := dtup_ok rx e1
      have ne : xs ≠ [] := fun z => hz.1 (by subst z; cases r1; rfl)
      refine ⟨p, k, xs, rfl, vr_int ry, (TupN.le g1).sq, ne, hz.2.1, hz.2.2.1, by rw [r1.length]; exact hz.2.2.2, fun z => ?_, fun z c o nc hd => P.tupD R (DA.flat _ r1) nc hd⟩
      subst z
      have e0 : (List.replicate (1 : Int).toNat ds).flatten = ds := by
        show (List.replicate 1 ds).flatten = ds
        simp
      rw [e0] at P
      exact P.here R (.dat (.tup g1 r1))
    · cases e
  · cases e
noncomputable def mulU : F2 := orF (fI CMulW fun i j => .int (i * j)) (orF mulS (orF repT repL))
theorem q_mul : QOp X (binaryOp .Mult) mulU := q_mulI.or (q_mulS.or (q_repT.or q_repL))
noncomputable def fdivU : F2 := fI CDivW fun i j => .int (i / j)
theorem q_fdiv : QOp X (binaryOp .FloorDiv) fdivU := ⟨_, op_fdivW, sim_rI fun _ _ => rfl⟩
noncomputable def modU : F2 := fI (fun _ j => 0 < j) fun i j => .int (i % j)
theorem q_mod : QOp X (binaryOp .Mod) modU := ⟨_, op_mod, sim_rI fun _ _ => rfl⟩
noncomputable def powU : F2 := fI CPowW fun i j => .int (i ^ j.toNat)
theorem q_pow : QOp X (binaryOp .Pow) powU := ⟨_, op_powW, sim_rI fun _ _ => rfl⟩
end

/-! ### == and the like -/
mutual
theorem Dp.of {K : PySem.W.Frag} {f : Bool} {H : Hp} : ∀ {v : V} {d : PyData}, D f H v d → d.canLay0 = true → Dp K H v d
  | _, _, .non, _ => .non
  | _, _, .bl b, _ => .bl b
  | _, _, .int i, _ => .int i
  | _, _, .str x, _ => .str x
  | _, _, .lst e _ t, h => .lst (SqL.of e) (DpAll.of t (by simpa only [PyData.canLay0] using h))
  | _, _, .tup e t, h => .tup e.sq (DpAll.of t (by simpa only [PyData.canLay0] using h))
  | _, _, .dct e t, h => by simp only [PyData.canLay0] at h; cases h
theorem DpAll.of {K : PySem.W.Frag} {f : Bool} {H : Hp} : ∀ {vs : List V} {ds : List PyData}, DA f H vs ds → PyData.canLayAll0 ds = true → DpAll K H vs ds
  | _, _, .nil, _ => .nil
  | _, _, .cons a b, h => by
    simp only [PyData.canLayAll0, Bool.and_eq_true] at h
    exact .cons (Dp.of a h.1) (DpAll.of b h.2)
end
section
variable {X : Cx} {K : PySem.W.Frag}
def eqD : F2 := fun a b M => match datOf M a, datOf M b with
  | some d, some e => if SeqAt.shaped d = true ∧ SeqAt.shaped e = true then some (.dat (.bool (PyData.eqv d e)), M) else none
  | _, _ => none
def neD : F2 := fun a b M => match datOf M a, datOf M b with
  | some d, some e => if SeqAt.shaped d = true ∧ SeqAt.shaped e = true then some (.dat (.bool (!PyData.eqv d e)), M) else none
  | _, _ => none
theorem q_eqD {k : Nat} (room : Room k X.A) : QOp X (compareOp .Eq) eqD := by
  refine ⟨_, op_eqD (by have := room.un; omega), ?_⟩
  intro H α M x y a b u M' Q R rx ry e P
  unfold eqD at e
  split at e
  · rename_i d d' e1 e2
    split at e
    · rename_i hz
      cases e
      exact ⟨d, d', Dp.of (datOf_ok R rx e1) (SeqAt.canLay_of_shaped hz.1), Dp.of (datOf_ok R ry e2) (SeqAt.canLay_of_shaped hz.2), hz.1, hz.2, P.here R (.dat (.bl _))⟩
    · cases e
  · cases e
theorem q_neD {k : Nat} (room : Room k X.A) : QOp X (compareOp .NotEq) neD := by
  refine ⟨_, op_neD (by have := room.un; omega), ?_⟩
  intro H α M x y a b u M' Q R rx ry e P
  unfold neD at e
  split at e
  · rename_i d d' e1 e2
    split at e
    · rename_i hz
      cases e
      exact ⟨d, d', Dp.of (datOf_ok R rx e1) (SeqAt.canLay_of_shaped hz.1), Dp.of (datOf_ok R ry e2) (SeqAt.canLay_of_shaped hz.2), hz.1, hz.2, P.here R (.dat (.bl _))⟩
    · cases e
  · cases e
/-- anything and a text -/
def eqDS : F2 := fun a b M => match datOf M a, b with
  | some d, .dat (.str z) => some (.dat (.bool (strIs z d)), M)
  | _, _ => none
def eqSD : F2 := fun a b M => match a, datOf M b with
  | .dat (.str z), some d => some (.dat (.bool (strIs z d)), M)
  | _, _ => none
theorem q_eqDS {k : Nat} (room : Room k X.A) : QOp X (compareOp .Eq) eqDS := by
  refine ⟨_, op_eqDS room, ?_⟩
  intro H α M x y a b u M' Q R rx ry e P
  unfold eqDS at e
  split at e
  · rename_i d z e1
    cases e
    exact ⟨z, d, false, datOf_ok R rx e1, vr_str ry, P.here R (.dat (.bl _))⟩
  · cases e
theorem q_eqSD {k : Nat} (room : Room k X.A) : QOp X (compareOp .Eq) eqSD := by
  refine ⟨_, op_eqSD room, ?_⟩
  intro H α M x y a b u M' Q R rx ry e P
  unfold eqSD at e
  split at e
  · rename_i z d e1
    cases e
    exact ⟨z, d, false, vr_str rx, datOf_ok R ry e1, P.here R (.dat (.bl _))⟩
  · cases e
/-- a tuple and () -/
def eqT0 (neg : Bool) : F2 := fun a b M => match tupOf a, tupOf b with
  | some us, some [] => some (.dat (.bool (if neg = true then !decide (us.length = 0) else decide (us.length = 0))), M)
  | _, _ => none
theorem q_eqT0 {k : Nat} (room : Room k X.A) : QOp X (compareOp .Eq) (eqT0 false) := by
  refine ⟨_, op_eq0 room, ?_⟩
  intro H α M x y a b u M' Q R rx ry e P
  unfold eqT0 at e
  split at e
  · rename_i us e1 e2
    cases e
    obtain ⟨p, xs, rfl, g1, r1⟩ := tupOf_ok rx e1
    obtain ⟨q, ys, rfl, g2, r2⟩ := tupOf_ok ry e2
    cases r2
    refine ⟨p, q, xs, rfl, rfl, Rd.ext fzH_le g1, Rd.ext fzH_le g2, ?_⟩
    rw [r1.length]
    exact P.here R (.dat (.bl _))
  · cases e
theorem q_neT0 {k : Nat} (room : Room k X.A) : QOp X (compareOp .NotEq) (eqT0 true) := by
  refine ⟨_, op_ne0 room, ?_⟩
  intro H α M x y a b u M' Q R rx ry e P
  unfold eqT0 at e
  split at e
  · rename_i us e1 e2
    cases e
    obtain ⟨p, xs, rfl, g1, r1⟩ := tupOf_ok rx e1
    obtain ⟨q, ys, rfl, g2, r2⟩ := tupOf_ok ry e2
    cases r2
    refine ⟨p, q, xs, rfl, rfl, Rd.ext fzH_le g1, Rd.ext fzH_le g2, ?_⟩
    rw [r1.length]
    exact P.here R (.dat (.bl _))
  · cases e
def eqU : F2 := orF eqDS (orF eqSD (orF (eqT0 false) eqD))
theorem q_eq {k : Nat} (room : Room k X.A) : QOp X (compareOp .Eq) eqU := (q_eqDS room).or ((q_eqSD room).or ((q_eqT0 room).or (q_eqD room)))
def neSS : F2 := fun a b M => match a, b with
  | .dat (.str x), .dat (.str y) => some (.dat (.bool (!decide (x = y))), M)
  | _, _ => none
theorem q_neSS : QOp X (compareOp .NotEq) neSS := by
  refine ⟨_, op_ne, ?_⟩
  intro H α M x y a b u M' Q R rx ry e P
  unfold neSS at e
  split at e
  · rename_i z w
    cases e
    rw [vr_str rx, vr_str ry]
    refine ⟨rfl, ?_⟩
    have ed : decide (V.str z = V.str w) = decide (z = w) := by
      rw [decide_eq_decide]
      exact ⟨fun h => V.str.inj h, fun h => by rw [h]⟩
    rw [ed]
    exact P.here R (.dat (.bl _))
  · cases e
def neU : F2 := orF neSS (orF (eqT0 true) neD)
theorem q_ne {k : Nat} (room : Room k X.A) : QOp X (compareOp .NotEq) neU := q_neSS.or ((q_neT0 room).or (q_neD room))
/-- order -/
def cmpI (g : Int → Int → Bool) : F2 := fun a b M => match a, b with
  | .dat (.int i), .dat (.int j) => some (.dat (.bool (g i j)), M)
  | _, _ => none
theorem sim_cmpI {g : Int → Int → Bool} : SimOp K (rI0 fun i j => .bl (g i j)) (cmpI g) := by
  intro H α M x y a b u M' Q R rx ry e P
  unfold cmpI at e
  split at e
  · cases e
    exact ⟨_, _, vr_int rx, vr_int ry, P.here R (.dat (.bl _))⟩
  · cases e
def CmpOk (d e : PyData) : Prop := PySem.W.alike d e = true ∧ d ≠ .none ∧ d.depth ≤ 64
noncomputable def cmpD (g : PyData → PyData → Bool) : F2 := fun a b M => match datOf M a, datOf M b with
  | some d, some e => if CmpOk d e then some (.dat (.bool (g d e)), M) else none
  | _, _ => none
def rCmpD (g : PyData → PyData → Bool) : R2 := fun x y H Q => ∃ d e, D false H x d ∧ D false H y e ∧ CmpOk d e ∧ Q (.bl (g d e)) H
theorem sim_cmpD {g : PyData → PyData → Bool} : SimOp K (rCmpD g) (cmpD g) := by
  intro H α M x y a b u M' Q R rx ry e P
  unfold cmpD at e
  split at e
  · rename_i d d' e1 e2
    split at e
    · rename_i hz
      cases e
      exact ⟨d, d', datOf_ok R rx e1, datOf_ok R ry e2, hz, P.here R (.dat (.bl _))⟩
    · cases e
  · cases e
theorem opCmpD {op : CmpOp} {g : PyData → PyData → Bool} {k : Nat} (room : Room k X.A)
    (rule : ∀ (s : Shared) (a b : Value) (da db : PyData) (as bs : List Addr) (Q : Value → Shared → Prop) (E : Value → Shared → Prop), Reads s.heap a da as → Reads s.heap b db bs → PySem.W.alike da db = true → da ≠ .none → X.A.units + min da.depth db.depth < cLine → Q (.bool (g da db)) s → wpAny (model X.prog X.w) X.A (compareOp op a b) Q E s) :
    OpR X (compareOp op) (rCmpD g) := by
  intro pins s σ H x y v u Q I rx ry h
  obtain ⟨d, e, hd, he, hc, q⟩ := h
  obtain ⟨as, r1, _⟩ := D.reads I hd v rx
  obtain ⟨bs, r2, _⟩ := D.reads I he u ry
  exact rule s v u d e as bs _ _ r1 r2 hc.1 hc.2.1 (by have := room.un; have := hc.2.2; omega) ⟨.bl _, H, I, rfl, q⟩
theorem q_ltD {k : Nat} (room : Room k X.A) : QOp X (compareOp .Lt) (cmpD PySem.W.dataLt) := ⟨_, opCmpD room fun _ _ _ _ _ _ _ _ _ r1 r2 h hn hu q => PySem.W.lt_data r1 r2 h hn hu q, sim_cmpD⟩
theorem q_gtD {k : Nat} (room : Room k X.A) : QOp X (compareOp .Gt) (cmpD fun d e => PySem.W.dataLt e d) := ⟨_, opCmpD room fun _ _ _ _ _ _ _ _ _ r1 r2 h hn hu q => PySem.W.gt_data r1 r2 h hn hu q, sim_cmpD⟩
theorem q_leD {k : Nat} (room : Room k X.A) : QOp X (compareOp .LtE) (cmpD fun d e => !PySem.W.dataLt e d) := ⟨_, opCmpD room fun _ _ _ _ _ _ _ _ _ r1 r2 h hn hu q => PySem.W.le_data r1 r2 h hn hu q, sim_cmpD⟩
theorem q_geD {k : Nat} (room : Room k X.A) : QOp X (compareOp .GtE) (cmpD fun d e => !PySem.W.dataLt d e) := ⟨_, opCmpD room fun _ _ _ _ _ _ _ _ _ r1 r2 h hn hu q => PySem.W.ge_data r1 r2 h hn hu q, sim_cmpD⟩
noncomputable def ltU : F2 := orF (cmpI fun i j => decide (i < j)) (cmpD PySem.W.dataLt)
noncomputable def leU : F2 := orF (cmpI fun i j => decide (i ≤ j)) (cmpD fun d e => !PySem.W.dataLt e d)
noncomputable def gtU : F2 := orF (cmpI fun i j => decide (j < i)) (cmpD fun d e => PySem.W.dataLt e d)
noncomputable def geU : F2 := orF (cmpI fun i j => decide (j ≤ i)) (cmpD fun d e => !PySem.W.dataLt d e)
theorem q_lt {k : Nat} (room : Room k X.A) : QOp X (compareOp .Lt) ltU := QOp.or ⟨_, op_lt, sim_cmpI⟩ (q_ltD room)
theorem q_le {k : Nat} (room : Room k X.A) : QOp X (compareOp .LtE) leU := QOp.or ⟨_, op_le, sim_cmpI⟩ (q_leD room)
theorem q_gt {k : Nat} (room : Room k X.A) : QOp X (compareOp .Gt) gtU := QOp.or ⟨_, op_gt, sim_cmpI⟩ (q_gtD room)
theorem q_ge {k : Nat} (room : Room k X.A) : QOp X (compareOp .GtE) geU := QOp.or ⟨_, op_ge, sim_cmpI⟩ (q_geD room)
/-- is None -/
def isNonU : U → Bool
  | .dat .none => true
  | _ => false
theorem isNon_ok {α : List Addr} {G : Hp} {v : V} {u : U} (r : VR K α G v u) : decide (v = .non) = isNonU u := by
  cases r with
  | dat d => cases d <;> rfl
  | _ => rfl
def isF (neg : Bool) : F2 := fun a b M => match b with
  | .dat .none => some (.dat (.bool (if neg = true then !isNonU a else isNonU a)), M)
  | _ => none
theorem q_is : QOp X (compareOp .Is) (isF false) := by
  refine ⟨_, op_isN, ?_⟩
  intro H α M x y a b u M' Q R rx ry e P
  unfold isF at e
  split at e
  · cases e
    rw [← isNon_ok rx] at P
    exact ⟨vr_non ry, P.here R (.dat (.bl _))⟩
  · cases e
theorem q_isnot : QOp X (compareOp .IsNot) (isF true) := by
  refine ⟨_, op_notN, ?_⟩
  intro H α M x y a b u M' Q R rx ry e P
  unfold isF at e
  split at e
  · cases e
    rw [← isNon_ok rx] at P
    exact ⟨vr_non ry, P.here R (.dat (.bl _))⟩
  · cases e
/-- in -/
def rInR (neg : Bool) : R2 := fun x y H Q => ∃ (d : PyData) (ds : List PyData), D false H x d ∧ (D false H y (.list ds) ∨ D false H y (.tuple ds)) ∧ SeqAt.shaped d = true ∧ PyData.canLayAll0 ds = true ∧
  Q (.bl (if neg = true then !(ds.any fun z => PyData.eqv z d) else ds.any fun z => PyData.eqv z d)) H
theorem op_inR {k : Nat} (room : Room k X.A) : OpR X (compareOp .In) (rInR false) := by
  intro pins s σ H x y v u Q I rx ry h
  obtain ⟨d, ds, hd, he, sd, sl, q⟩ := h
  obtain ⟨as, r1, _⟩ := D.reads I hd v rx
  have hu : X.A.units + 1 + min (PyData.depthAll ds) d.depth < cLine := by
    have := room.un
    have := SeqAt.depth_of_shaped sd
    omega
  rcases he with he | he
  · obtain ⟨bs, r2, _⟩ := D.reads I he u ry
    exact SeqAt.in_list_reads r2 r1 sl (SeqAt.canLay_of_shaped sd) hu ⟨.bl _, H, I, rfl, q⟩
  · obtain ⟨bs, r2, _⟩ := D.reads I he u ry
    exact SeqAt.in_tuple_reads r2 r1 sl (SeqAt.canLay_of_shaped sd) hu ⟨.bl _, H, I, rfl, q⟩
theorem op_notInR {k : Nat} (room : Room k X.A) : OpR X (compareOp .NotIn) (rInR true) := by
  intro pins s σ H x y v u Q I rx ry h
  obtain ⟨d, ds, hd, he, sd, sl, q⟩ := h
  obtain ⟨as, r1, _⟩ := D.reads I hd v rx
  have hu : X.A.units + 1 + min (PyData.depthAll ds) d.depth < cLine := by
    have := room.un
    have := SeqAt.depth_of_shaped sd
    omega
  rcases he with he | he
  · obtain ⟨bs, r2, _⟩ := D.reads I he u ry
    exact SeqAt.notIn_list_reads r2 r1 sl (SeqAt.canLay_of_shaped sd) hu ⟨.bl _, H, I, rfl, q⟩
  · obtain ⟨bs, r2, _⟩ := D.reads I he u ry
    exact SeqAt.notIn_tuple_reads r2 r1 sl (SeqAt.canLay_of_shaped sd) hu ⟨.bl _, H, I, rfl, q⟩
def seqD : PyData → Option (List PyData)
  | .list ds => some ds
  | .tuple ds => some ds
  | _ => none
def inD (neg : Bool) : F2 := fun a b M => match datOf M a, (datOf M b).bind seqD with
  | some d, some ds => if SeqAt.shaped d = true ∧ PyData.canLayAll0 ds = true then some (.dat (.bool (if neg = true then !(ds.any fun z => PyData.eqv z d) else ds.any fun z => PyData.eqv z d)), M) else none
  | _, _ => none
theorem sim_inD {neg : Bool} : SimOp K (rInR neg) (inD neg) := by
  intro H α M x y a b u M' Q R rx ry e P
  unfold inD at e
  split at e
  · rename_i d ds e1 e2
    split at e
    · rename_i hz
      cases e
      obtain ⟨d2, e3, e4⟩ := Option.bind_eq_some_iff.mp e2
      have D2 := datOf_ok R ry e3
      refine ⟨d, ds, datOf_ok R rx e1, ?_, hz.1, hz.2, P.here R (.dat (.bl _))⟩
      cases d2 with
      | list l => cases e4; exact .inl D2
      | tuple l => cases e4; exact .inr D2
      | _ => cases e4
    · cases e
  · cases e
/-- .. a tuple of the module -/
def inK (neg : Bool) : F2 := fun a b M => match a, b with
  | .dat d, .kt xs => match D2V d with
    | some x => if xs.all flatV = true then some (.dat (.bool (if neg = true then !inV x xs else inV x xs)), M) else none
    | none => none
  | _, _ => none
where D2V : PyData → Option V
  | .none => some .non
  | .bool b => some (.bl b)
  | .int i => some (.int i)
  | .str z => some (.str z)
  | _ => none
theorem D2V_ok {α : List Addr} {G : Hp} {v x : V} {d : PyData} (r : VR K α G v (.dat d)) (h : inK.D2V d = some x) : v = x ∧ flatV v = true := by
  cases d with
  | none => cases h; exact ⟨vr_non r, by rw [vr_non r]; rfl⟩
  | bool b => cases h; exact ⟨vr_bool r, by rw [vr_bool r]; rfl⟩
  | int i => cases h; exact ⟨vr_int r, by rw [vr_int r]; rfl⟩
  | str z => cases h; exact ⟨vr_str r, by rw [vr_str r]; rfl⟩
  | _ => cases h
theorem sim_inK {neg : Bool} : SimOp K (rIn K neg) (inK neg) := by
  intro H α M x y a b u M' Q R rx ry e P
  unfold inK at e
  split at e
  · rename_i d xs
    split at e
    · rename_i z e1
      split at e
      · rename_i hz
        cases e
        obtain ⟨e2, e3⟩ := D2V_ok rx e1
        subst e2
        cases ry with
        | kt q => exact ⟨_, xs, rfl, .inr (SqT.ext fzH_le q), e3, hz, P.here R (by cases neg <;> exact .dat (.bl _))⟩
      · cases e
    · cases e
  · cases e
/-- .. a row of flat things -/
def allFl : List U → Option (List V)
  | [] => some []
  | .dat d :: us => match inK.D2V d, allFl us with
    | some v, some vs => some (v :: vs)
    | _, _ => none
  | _ => none
theorem allFl_ok {α : List Addr} {G : Hp} : ∀ {us : List U} {xs vs : List V}, VRs K α G xs us → allFl us = some vs → xs = vs ∧ vs.all flatV = true
  | [], _, _, .nil, h => by cases h; exact ⟨rfl, rfl⟩
  | u :: us, _, vs, .cons r t, h => by
    unfold allFl at h
    split at h
    · rename_i heq
      cases heq
    · rename_i d _ heq
      cases heq
      split at h
      · rename_i v ws e1 e2
        cases h
        obtain ⟨rfl, f1⟩ := D2V_ok r e1
        obtain ⟨rfl, f2⟩ := allFl_ok t e2
        refine ⟨rfl, ?_⟩
        rw [List.all_cons, f1, f2]
        rfl
      · cases h
    · cases h
def inFl (neg : Bool) : F2 := fun a b M => match a with
  | .dat d => match inK.D2V d, (seqOf M b).bind allFl with
    | some x, some xs => some (.dat (.bool (if neg = true then !inV x xs else inV x xs)), M)
    | _, _ => none
  | _ => none
theorem sim_inFl {neg : Bool} : SimOp K (rIn K neg) (inFl neg) := by
  intro H α M x y a b u M' Q R rx ry e P
  unfold inFl at e
  split at e
  · rename_i d
    split at e
    · rename_i z zs e1 e2
      cases e
      obtain ⟨us, e3, e4⟩ := Option.bind_eq_some_iff.mp e2
      obtain ⟨rfl, f1⟩ := D2V_ok rx e1
      obtain ⟨p, xs, rfl, hq, rs⟩ := seqOf_ok R ry e3
      obtain ⟨rfl, f2⟩ := allFl_ok rs e4
      exact ⟨p, xs, rfl, hq, f1, f2, P.here R (by cases neg <;> exact .dat (.bl _))⟩
    · cases e
  · cases e
/-- a sign in a text -/
def inS (neg : Bool) : F2 := fun a b M => match a, b with
  | .dat (.str x), .dat (.str z) => some (.dat (.bool (if neg = true then !(!(Builtin.Str.occurrences z x 0 z.length 1).isEmpty) else !(Builtin.Str.occurrences z x 0 z.length 1).isEmpty)), M)
  | _, _ => none
theorem q_inS : QOp X (compareOp .In) (inS false) := by
  refine ⟨_, op_in_str, ?_⟩
  intro H α M x y a b u M' Q R rx ry e P
  unfold inS at e
  split at e
  · cases e
    exact ⟨_, _, vr_str rx, vr_str ry, P.here R (.dat (.bl _))⟩
  · cases e
theorem q_notInS : QOp X (compareOp .NotIn) (inS true) := by
  refine ⟨_, op_notIn_str, ?_⟩
  intro H α M x y a b u M' Q R rx ry e P
  unfold inS at e
  split at e
  · cases e
    exact ⟨_, _, vr_str rx, vr_str ry, P.here R (.dat (.bl _))⟩
  · cases e
def inU (neg : Bool) : F2 := orF (inK neg) (orF (inFl neg) (orF (inD neg) (inS neg)))
theorem q_in {k : Nat} (room : Room k X.A) : QOp X (compareOp .In) (inU false) := QOp.or ⟨_, op_in_seq, sim_inK⟩ (QOp.or ⟨_, op_in_seq, sim_inFl⟩ (QOp.or ⟨_, op_inR room, sim_inD⟩ q_inS))
theorem q_notIn {k : Nat} (room : Room k X.A) : QOp X (compareOp .NotIn) (inU true) := QOp.or ⟨_, op_notIn_seq, sim_inK⟩ (QOp.or ⟨_, op_notIn_seq, sim_inFl⟩ (QOp.or ⟨_, op_notInR room, sim_inD⟩ q_notInS))
/-- -x -/
def eNeg (m : ME) : ME := fun ρ M => match m ρ M with
  | some (.dat (.int i), M1) => some (.dat (.int (-i)), M1)
  | _ => none
theorem qe_neg {a : Expr} {ma : ME} {pos : Pos} (ha : QE X a ma) : QE X (.UnaryOp .USub a pos) (eNeg ma) := by
  obtain ⟨t, h1, h2⟩ := ha.ex
  refine ⟨_, pe_un un_neg h1, ?_⟩
  intro σ H α ρ M w M' Q R er e P
  unfold eNeg at e
  split at e
  · rename_i c M1 e1
    cases e
    exact h2 σ H α ρ M _ _ _ R er e1 fun v α' H' R' x r => ⟨c, vr_int r, P _ α' H' R' x (.dat (.int _))⟩
  · cases e
/-- a op b op' c -/
def eChain (f g : F2) (ma mb mc : ME) : ME := fun ρ M => match ma ρ M with
  | some (x, M1) => match mb ρ M1 with
    | some (y, M2) => match f x y M2 with
      | some (.dat (.bool true), M3) => match mc ρ M3 with
        | some (z, M4) => g y z M4
        | none => none
      | some (.dat (.bool false), M3) => some (.dat (.bool false), M3)
      | _ => none
    | none => none
  | none => none
theorem sim_chain {r r' : R2} {f g : F2} {ta tb tc : TE} {ma mb mc : ME} (hf : SimOp K r f) (hg : SimOp K r' g) (ha : SimE K ta ma) (hb : SimE K tb mb) (hc : SimE K tc mc) : SimE K (tChain r r' ta tb tc) (eChain f g ma mb mc) := by
  intro σ H α ρ M u M' Q R er h P
  unfold eChain at h
  split at h
  · rename_i x M1 e1
    split at h
    · rename_i y M2 e2
      refine ha σ H α ρ M x M1 _ R er e1 fun v1 α1 H1 R1 x1 r1 => ?_
      refine hb σ H1 α1 ρ M1 y M2 _ R1 (er.ext x1) e2 fun v2 α2 H2 R2 x2 r2 => ?_
      split at h
      · rename_i M3 e3
        split at h
        · rename_i z M4 e4
          refine hf H2 α2 M2 v1 v2 x y _ M3 _ R2 (r1.ext x2) r2 e3 fun v3 α3 H3 R3 x3 r3 => ⟨true, vr_bool r3, ?_⟩
          rw [if_pos rfl]
          refine hc σ H3 α3 ρ M3 z M4 _ R3 (er.ext (x1.trans (x2.trans x3))) e4 fun v4 α4 H4 R4 x4 r4 => ?_
          exact hg H4 α4 M4 v2 v4 y z u M' Q R4 (r2.ext (x3.trans x4)) r4 h (P.after (x1.trans (x2.trans (x3.trans x4))))
        · cases h
      · rename_i M3 e3
        cases h
        refine hf H2 α2 M2 v1 v2 x y _ _ _ R2 (r1.ext x2) r2 e3 fun v3 α3 H3 R3 x3 r3 => ⟨false, vr_bool r3, ?_⟩
        rw [if_neg (by decide)]
        exact P _ α3 H3 R3 (x1.trans (x2.trans x3)) (.dat (.bl false))
      · cases h
    · cases h
  · cases h
theorem qt_chain {op op' : CmpOp} {f g : F2} {a b c : Expr} {ma mb mc : ME} {pos : Pos} (ho : QOp X (compareOp op) f) (ho' : QOp X (compareOp op') g) (ha : QE X a ma) (hb : QE X b mb) (hc : QE X c mc)
    (hm : lastMarks [op, op'] [b, c] = false := by with_unfolding_all rfl) : QT X (.Compare a [op, op'] [b, c] pos) (tOf (eChain f g ma mb mc)) := by
  obtain ⟨r, h1, h2⟩ := ho.ex
  obtain ⟨r', h3, h4⟩ := ho'.ex
  obtain ⟨ta, a1, a2⟩ := ha.ex
  obtain ⟨tb, b1, b2⟩ := hb.ex
  obtain ⟨tc, c1, c2⟩ := hc.ex
  exact ⟨_, pt_chain h1 h3 a1 b1 c1 hm, sim_tB (sim_chain h2 h4 a2 b2 c2)⟩
end
end Pu

namespace Pu
open PySem PySem.Spec PyProof.Rows L2 Lw
open Classical

/-! ### items and slices -/
section
variable {X : Cx} {K : PySem.W.Frag} {a b : Expr} {ma mb : ME} {pos : Pos}
theorem atI_vrs {α : List Addr} {G : Hp} {xs : List V} {us : List U} {i : Int} {u : U} (r : VRs K α G xs us) (h : atI us i = some u) : ∃ v, atI xs i = some v ∧ VR K α G v u := by
  unfold atI at h ⊢
  rw [r.length]
  obtain ⟨j, h1, h2⟩ := Option.bind_eq_some_iff.mp h
  obtain ⟨v, h3, h4⟩ := r.get j h2
  exact ⟨v, by rw [h1]; exact h3, h4⟩
def ixU : F2 := fun a b M => match b with
  | .dat (.int i) => match seqOf M a with
    | some us => (atI us i).map fun u => (u, M)
    | none => match a with
      | .dat (.str z) => if z.length ≤ sizeLine then (atI z.cps.toList i).map fun c => (.dat (.str ⟨#[c]⟩), M) else none
      | _ => none
  | _ => none
theorem q_ix : ∃ r, IxR X r ∧ SimOp X.K r ixU := by
  refine ⟨_, ix_seq, ?_⟩
  intro H α M x y a b u M' Q R rx ry e P
  unfold ixU at e
  split at e
  · rename_i i
    split at e
    · rename_i us e1
      obtain ⟨w, e2, e3⟩ := Option.map_eq_some_iff.mp e
      cases e3
      obtain ⟨p, xs, rfl, hq, r⟩ := seqOf_ok R rx e1
      obtain ⟨v, e4, r4⟩ := atI_vrs r e2
      rcases hq with hq | hq
      · exact .inl ⟨p, xs, i, v, rfl, vr_int ry, hq, e4, P.here R r4⟩
      · exact .inr (.inl ⟨p, xs, i, v, rfl, vr_int ry, hq, e4, P.here R r4⟩)
    · split at e
      · split at e
        · rename_i z _ hz
          obtain ⟨c, e2, e3⟩ := Option.map_eq_some_iff.mp e
          cases e3
          exact .inr (.inr ⟨_, i, c, vr_str rx, vr_int ry, hz, e2, P.here R (.dat (.str _))⟩)
        · cases e
      · cases e
  · cases e
theorem qe_ix (ha : QE X a ma) (hb : QE X b mb) (hs : PlainIx b := by intro _ _; rfl) : QE X (.Subscript a b pos) (eOp ixU ma mb) := by
  obtain ⟨r, h1, h2⟩ := q_ix (X := X)
  obtain ⟨ta, a1, a2⟩ := ha.ex
  obtain ⟨tb, b1, b2⟩ := hb.ex
  exact ⟨_, pe_ix h1 a1 b1 hs, sim_op2 h2 a2 b2⟩
/-- parts of a slice -/
abbrev MO := Env → Mem → Option (Option Int × Mem)
def PostO (K : PySem.W.Frag) (α : List Addr) (G : Hp) (b : Option Int) (M' : Mem) (Q : Option Int → Hp → Prop) : Prop :=
  ∀ (α' : List Addr) (H' : Hp), Rp K α' M' H' → Ext α G α' (fzH α' M' H') → Q b H'
def SimO (K : PySem.W.Frag) (t : TO) (m : MO) : Prop :=
  ∀ (σ : L2.St) (H : Hp) (α : List Addr) (ρ : Env) (M : Mem) (u : Option Int) (M' : Mem) (Q : Option Int → Hp → Prop), Rp K α M H → ER K α (fzH α M H) σ ρ → m ρ M = some (u, M') → PostO K α (fzH α M H) u M' Q → t σ H Q
structure QO (X : Cx) (e : Option Expr) (m : MO) : Prop where
  ex : ∃ t, PO X e t ∧ SimO X.K t m
def oNone : MO := fun _ M => some (none, M)
def oSome (m : ME) : MO := fun ρ M => match m ρ M with
  | some (.dat (.int i), M1) => some (some i, M1)
  | _ => none
theorem qo_none : QO X none oNone := ⟨_, po_none, fun σ H α ρ M u M' Q R er e P => by cases e; exact P α H R Ext.refl⟩
theorem qo_some (ha : QE X a ma) : QO X (some a) (oSome ma) := by
  obtain ⟨t, h1, h2⟩ := ha.ex
  refine ⟨_, po_some h1, ?_⟩
  intro σ H α ρ M u M' Q R er e P
  unfold oSome at e
  split at e
  · rename_i i M1 e1
    cases e
    exact h2 σ H α ρ M _ _ _ R er e1 fun v α' H' R' x r => ⟨i, vr_int r, P α' H' R' x⟩
  · cases e
def cutU (us : List U) (lo hi : Option Int) : List U := (us.drop (HT.sIx us.length 0 lo)).take (HT.sIx us.length us.length hi - HT.sIx us.length 0 lo)
theorem VRs.cut {α : List Addr} {G : Hp} {xs : List V} {us : List U} (r : VRs K α G xs us) (lo hi : Option Int) : VRs K α G (cutV xs lo hi) (cutU us lo hi) := by
  unfold cutV cutU
  rw [r.length]
  exact (r.drop _).take _
def slU (u : U) (lo hi : Option Int) (M : Mem) : Option (U × Mem) := match dtup u with
  | some ds => some (.dat (.tuple (Lw.cutD ds lo hi)), M)
  | none => match lstOf M u with
    | some us => some (.cell M.length, M ++ [.lst false (cutU us lo hi)])
    | none => match u with
      | .dat (.str z) => if z.length ≤ sizeLine then some (.dat (.str (cutS z lo hi)), M) else none
      | _ => none
def SimSl (K : PySem.W.Frag) (r : V → Option Int → Option Int → Hp → VK → Prop) (f : U → Option Int → Option Int → Mem → Option (U × Mem)) : Prop :=
  ∀ (H : Hp) (α : List Addr) (M : Mem) (x : V) (a u : U) (lo hi : Option Int) (M' : Mem) (Q : VK), Rp K α M H → VR K α (fzH α M H) x a → f a lo hi M = some (u, M') → Post K α (fzH α M H) u M' Q → r x lo hi H Q
theorem q_sl : ∃ r, SlR X r ∧ SimSl X.K r slU := by
  refine ⟨_, SlR.or sl_N (SlR.or sl_list sl_str), ?_⟩
  intro H α M x a u lo hi M' Q R rx e P
  unfold slU at e
  split at e
  · rename_i us e1
    cases e
    obtain ⟨p, xs, rfl, hq, r⟩ := dtup_ok rx e1
    refine .inl ⟨p, xs, rfl, TupN.le hq, fun hw => ?_, fun q o nq hd => P.tupD R (r.cut lo hi) nq hd⟩
    have e2 : Lw.cutD us lo hi = us := by
      have hw' := hw
      rw [r.length] at hw'
      unfold Lw.cutD
      rw [hw'.1, hw'.2]
      simp
    rw [e2] at P
    exact P.here R (.dat (.tup hq r))
  · split at e
    · rename_i us e1
      cases e
      obtain ⟨p, xs, rfl, hq, r⟩ := lstOf_ok R rx e1
      exact .inr (.inl ⟨p, xs, rfl, SqL.of hq, fun q nq => P.lst R (r.cut lo hi) nq⟩)
    · split at e
      · split at e
        · rename_i hz
          cases e
          exact .inr (.inr ⟨_, vr_str rx, hz, P.here R (.dat (.str _))⟩)
        · cases e
      · cases e
def eSl (ma : ME) (ml mh : MO) : ME := fun ρ M => match ma ρ M with
  | some (x, M1) => match ml ρ M1 with
    | some (l, M2) => match mh ρ M2 with
      | some (h, M3) => slU x l h M3
      | none => none
    | none => none
  | none => none
theorem qe_slice {lo hi : Option Expr} {ml mh : MO} {p2 : Pos} (ha : QE X a ma) (hl : QO X lo ml) (hh : QO X hi mh) : QE X (.Subscript a (.Slice lo hi none p2) pos) (eSl ma ml mh) := by
  obtain ⟨r, h1, h2⟩ := q_sl (X := X)
  obtain ⟨ta, a1, a2⟩ := ha.ex
  obtain ⟨tl, l1, l2⟩ := hl.ex
  obtain ⟨th, u1, u2⟩ := hh.ex
  refine ⟨_, pe_slice h1 a1 l1 u1, ?_⟩
  intro σ H α ρ M u M' Q R er e P
  unfold eSl at e
  split at e
  · rename_i x M1 e1
    split at e
    · rename_i l M2 e2
      split at e
      · rename_i h M3 e3
        refine a2 σ H α ρ M x M1 _ R er e1 fun v1 α1 H1 R1 x1 r1 => ?_
        refine l2 σ H1 α1 ρ M1 l M2 _ R1 (er.ext x1) e2 fun α2 H2 R2 x2 => ?_
        refine u2 σ H2 α2 ρ M2 h M3 _ R2 (er.ext (x1.trans x2)) e3 fun α3 H3 R3 x3 => ?_
        exact h2 H3 α3 M3 v1 x u l h M' Q R3 (r1.ext (x2.trans x3)) e (P.after (x1.trans (x2.trans x3)))
      · cases e
    · cases e
  · cases e
/-- t[::-1] -/
def eRev (ma : ME) : ME := fun ρ M => match ma ρ M with
  | some (x, M1) => (dtup x).map fun ds => (.dat (.tuple ds.reverse), M1)
  | none => none
end

/-! ### calls of built-ins -/
abbrev FA := List U → Mem → Option (U × Mem)
def SimC (K : PySem.W.Frag) (r : List V → Hp → VK → Prop) (f : FA) : Prop :=
  ∀ (H : Hp) (α : List Addr) (M : Mem) (xs : List V) (us : List U) (u : U) (M' : Mem) (Q : VK), Rp K α M H → VRs K α (fzH α M H) xs us → f us M = some (u, M') → Post K α (fzH α M H) u M' Q → r xs H Q
structure QC (X : Cx) (f : Value) (g : FA) : Prop where
  ex : ∃ r, CallR X f r ∧ SimC X.K r g
def orC (f g : FA) : FA := fun us M => match f us M with
  | some r => some r
  | none => g us M
theorem QC.or {X : Cx} {f : Value} {g g' : FA} (h : QC X f g) (h' : QC X f g') : QC X f (orC g g') := by
  obtain ⟨r, h1, h2⟩ := h.ex
  obtain ⟨r', h3, h4⟩ := h'.ex
  refine ⟨fun xs H Q => r xs H Q ∨ r' xs H Q, fun pins s σ H xs us Q I rs q => ?_, fun H α M xs us u M' Q R rx e P => ?_⟩
  · rcases q with q | q
    · exact h1 pins s σ H xs us Q I rs q
    · exact h3 pins s σ H xs us Q I rs q
  · unfold orC at e
    split at e
    · rename_i q
      cases e
      exact .inl (h2 H α M xs us u M' Q R rx q P)
    · exact .inr (h4 H α M xs us u M' Q R rx e P)
def eCB (f : FA) (m : MA) : ME := fun ρ M => match m ρ M with
  | some (us, M1) => f us M1
  | none => none
theorem sim_cb {K : PySem.W.Frag} {r : List V → Hp → VK → Prop} {f : FA} {t : TA} {m : MA} (hs : SimC K r f) (ha : SimA K t m) : SimE K (tCB r t) (eCB f m) := by
  intro σ H α ρ M u M' Q R er e P
  unfold eCB at e
  split at e
  · rename_i us M1 e1
    refine ha σ H α ρ M us M1 _ R er e1 fun vs α' H' R' x r => ?_
    exact hs H' α' M1 vs us u M' Q R' r e (P.after x)
  · cases e
section
variable {X : Cx} {x : Str} {p pos : Pos} {e : Expr} {es : List Expr} {m : MA} {id T : String} {f : FA}
theorem qe_callB (hc : QC X (.builtin id) f) (hg : Gl X x) (hm : X.mg x = none) (hv : bootBuiltins x = some (.builtin id)) (ha : QA X (e :: es) m) (hn : x ≠ "__name__" := by decide) (hdb : (x == ("__debug__" : Str)) = false := by decide)
    (he : starEach (e :: es) X.env = (false, eval e X.env) :: starEach es X.env := by rfl) (hpl : (backTo pos (starEach es X.env)).any (·.1) = false := by rfl) : QE X (.Call (.Name x p) (e :: es) [] pos) (eCB f m) := by
  obtain ⟨r, h1, h2⟩ := hc.ex
  obtain ⟨t, h3, h4⟩ := ha.ex
  exact ⟨_, pe_callB h1 hg hm hv h3 hn hdb he hpl, sim_cb h2 h4⟩
theorem qe_callTy (hc : QC X (.type T) f) (hg : Gl X x) (hm : X.mg x = none) (hv : bootBuiltins x = some (.type T)) (ha : QA X (e :: es) m) (hn : x ≠ "__name__" := by decide) (hdb : (x == ("__debug__" : Str)) = false := by decide)
    (he : starEach (e :: es) X.env = (false, eval e X.env) :: starEach es X.env := by rfl) (hpl : (backTo pos (starEach es X.env)).any (·.1) = false := by rfl) : QE X (.Call (.Name x p) (e :: es) [] pos) (eCB f m) := by
  obtain ⟨r, h1, h2⟩ := hc.ex
  obtain ⟨t, h3, h4⟩ := ha.ex
  exact ⟨_, pe_callTy h1 hg hm hv h3 hn hdb he hpl, sim_cb h2 h4⟩
end
theorem vrs1 {K : PySem.W.Frag} {α : List Addr} {G : Hp} {xs : List V} {a : U} (r : VRs K α G xs [a]) : ∃ v, xs = [v] ∧ VR K α G v a := by
  cases r with
  | cons h t => cases t; exact ⟨_, rfl, h⟩
theorem vrs2 {K : PySem.W.Frag} {α : List Addr} {G : Hp} {xs : List V} {a b : U} (r : VRs K α G xs [a, b]) : ∃ v w, xs = [v, w] ∧ VR K α G v a ∧ VR K α G w b := by
  cases r with
  | cons h t =>
    cases t with
    | cons h2 t2 => cases t2; exact ⟨_, _, rfl, h, h2⟩
section
variable {X : Cx}
def lenF : FA := fun us M => match us with
  | [u] => match seqOf M u with
    | some ws => some (.dat (.int ws.length), M)
    | none => match u with
      | .dat (.str z) => if z.length ≤ sizeLine then some (.dat (.int z.length), M) else none
      | _ => none
  | _ => none
theorem q_len : QC X (.builtin "len") lenF := by
  refine ⟨fun xs H Q => (∃ p ys, xs = [.ref p] ∧ (SqL X.K H p ys ∨ SqT X.K H p ys) ∧ Q (.int ys.length) H) ∨ (∃ z, xs = [.str z] ∧ z.length ≤ sizeLine ∧ Q (.int z.length) H), fun pins s σ H xs us Q I rs q => ?_, fun H α M xs us u M' Q R rx e P => ?_⟩
  · rcases q with q | q
    · exact call_len_seq pins s σ H xs us Q I rs q
    · exact call_len_str pins s σ H xs us Q I rs q
  · unfold lenF at e
    split at e
    · rename_i w
      obtain ⟨v, rfl, rv⟩ := vrs1 rx
      split at e
      · rename_i ws e1
        cases e
        obtain ⟨p, ys, rfl, hq, r⟩ := seqOf_ok R rv e1
        refine .inl ⟨p, ys, rfl, hq, ?_⟩
        rw [r.length]
        exact P.here R (.dat (.int _))
      · split at e
        · split at e
          · rename_i hz
            cases e
            exact .inr ⟨_, by rw [vr_str rv], hz, P.here R (.dat (.int _))⟩
          · cases e
        · cases e
    · cases e
def absF : FA := fun us M => match us with
  | [.dat (.int i)] => some (.dat (.int (if i < 0 then -i else i)), M)
  | _ => none
theorem q_abs : QC X (.builtin "abs") absF := by
  refine ⟨_, call_abs, fun H α M xs us u M' Q R rx e P => ?_⟩
  unfold absF at e
  split at e
  · cases e
    obtain ⟨v, rfl, rv⟩ := vrs1 rx
    exact ⟨_, by rw [vr_int rv], P.here R (.dat (.int _))⟩
  · cases e
def min2F : FA := fun us M => match us with
  | [.dat (.int i), .dat (.int j)] => some (.dat (.int (if j < i then j else i)), M)
  | _ => none
def max2F : FA := fun us M => match us with
  | [.dat (.int i), .dat (.int j)] => some (.dat (.int (if j > i then j else i)), M)
  | _ => none
theorem q_min2 (hc : X.calm = true) : QC X (.builtin "min") min2F := by
  refine ⟨_, call_min2 hc, fun H α M xs us u M' Q R rx e P => ?_⟩
  unfold min2F at e
  split at e
  · cases e
    obtain ⟨v, w, rfl, rv, rw'⟩ := vrs2 rx
    exact ⟨_, _, by rw [vr_int rv, vr_int rw'], P.here R (.dat (.int _))⟩
  · cases e
def intF : FA := fun us M => match us with
  | [.dat (.int i)] => some (.dat (.int i), M)
  | [.dat (.bool k)] => some (.dat (.int (if k = true then 1 else 0)), M)
  | _ => none
theorem q_int : QC X (.type "int") intF := by
  refine ⟨_, call_int1, fun H α M xs us u M' Q R rx e P => ?_⟩
  unfold intF at e
  split at e
  · cases e
    obtain ⟨v, rfl, rv⟩ := vrs1 rx
    exact .inl ⟨_, by rw [vr_int rv], P.here R (.dat (.int _))⟩
  · cases e
    obtain ⟨v, rfl, rv⟩ := vrs1 rx
    exact .inr ⟨_, by rw [vr_bool rv], P.here R (.dat (.int _))⟩
  · cases e
def strD : PyData → Str
  | .int i => strN (.int i)
  | .bool b => strN (.bl b)
  | _ => Str.empty
def strF : FA := fun us M => match us with
  | [.dat d] => match numD d with
    | some i => if i.natAbs.log2 < 1920 then some (.dat (.str (strD d)), M) else none
    | none => none
  | _ => none
theorem q_str : QC X (.type "str") strF := by
  refine ⟨_, call_strN, fun H α M xs us u M' Q R rx e P => ?_⟩
  unfold strF at e
  split at e
  · rename_i d
    split at e
    · rename_i i e1
      split at e
      · rename_i hz
        cases e
        obtain ⟨v, rfl, rv⟩ := vrs1 rx
        refine ⟨v, i, rfl, numD_ok rv e1, hz, ?_⟩
        have es : strN v = strD d := by
          cases d with
          | int j => rw [vr_int rv]; rfl
          | bool b => rw [vr_bool rv]; rfl
          | _ => cases e1
        rw [es]
        exact P.here R (.dat (.str _))
      · cases e
    · cases e
  · cases e
/-- list(..) -/
def listF : FA := fun us M => match us with
  | [u] => match tupOf u with
    | some ws => some (.cell M.length, M ++ [.lst true ws])
    | none => match seqOf M u with
      | some ws => some (.cell M.length, M ++ [.lst false ws])
      | none => none
  | _ => none
theorem q_list : QC X (.type "list") listF := by
  refine ⟨fun vs H Q => (∃ b ys, vs = [.ref b] ∧ Rd H b (.tup ys) ∧ ∀ l, H l = none → l ≠ sysModules → Q (.ref l) (upd H l (.lst ys))) ∨ (∃ p ys, vs = [.ref p] ∧ (SqL X.K H p ys ∨ SqT X.K H p ys) ∧ ∀ l, H l = none → Q (.ref l) (upd H l (.lst ys))), fun pins s σ H xs us Q I rs q => ?_, fun H α M xs us u M' Q R rx e P => ?_⟩
  · rcases q with q | q
    · exact call_listN pins s σ H xs us Q I rs q
    · exact call_list_of pins s σ H xs us Q I rs q
  · unfold listF at e
    split at e
    · rename_i w
      obtain ⟨v, rfl, rv⟩ := vrs1 rx
      split at e
      · rename_i ws e1
        cases e
        obtain ⟨p, ys, rfl, hq, r⟩ := tupOf_ok rv e1
        exact .inl ⟨p, ys, rfl, Rd.ext fzH_le hq, fun l nl ns => P.lstN R r nl ns⟩
      · split at e
        · rename_i ws e1
          cases e
          obtain ⟨p, ys, rfl, hq, r⟩ := seqOf_ok R rv e1
          exact .inr ⟨p, ys, rfl, hq, fun l nl => P.lst R r nl⟩
        · cases e
    · cases e
/-- tuple(..) -/
def tupleF : FA := fun us M => match us with
  | [u] => match tupOf u with
    | some _ => some (u, M)
    | none => match lstOf M u with
      | some ws => some (mkTup (frzAll ws M).1, (frzAll ws M).2)
      | none => none
  | _ => none
theorem q_tuple : QC X (.type "tuple") tupleF := by
  refine ⟨_, call_tupleN, fun H α M xs us u M' Q R rx e P => ?_⟩
  unfold tupleF at e
  split at e
  · rename_i w
    obtain ⟨v, rfl, rv⟩ := vrs1 rx
    split at e
    · rename_i ws e1
      cases e
      obtain ⟨p, ys, rfl, hq, r⟩ := tupOf_ok rv e1
      exact ⟨p, ys, rfl, .inr ⟨.inl (Rd.ext fzH_le hq), P.here R rv⟩⟩
    · split at e
      · rename_i ws e1
        cases e
        obtain ⟨p, ys, rfl, hq, r⟩ := lstOf_ok R rv e1
        obtain ⟨R2, x2, r2⟩ := frzAll_ok R r
        exact ⟨p, ys, rfl, .inl ⟨SqL.of hq, fun l o nl hd => (P.after x2).tup R2 r2 nl hd⟩⟩
      · cases e
  · cases e
/-- all, any, sum -/
def boolsOf : List U → Option (List Bool)
  | [] => some []
  | .dat (.bool b) :: us => (boolsOf us).map (b :: ·)
  | _ => none
def intsOf : List U → Option (List Int)
  | [] => some []
  | .dat (.int b) :: us => (intsOf us).map (b :: ·)
  | _ => none
def strsOf : List U → Option (List Str)
  | [] => some []
  | .dat (.str b) :: us => (strsOf us).map (b :: ·)
  | _ => none
theorem boolsOf_ok {K : PySem.W.Frag} {α : List Addr} {G : Hp} : ∀ {us : List U} {bs : List Bool} {xs : List V}, VRs K α G xs us → boolsOf us = some bs → xs = bs.map V.bl
  | [], _, _, .nil, h => by cases h; rfl
  | u :: us, bs, _, .cons h t, e => by
    unfold boolsOf at e
    split at e
    · rename_i heq
      cases heq
    · rename_i heq
      cases heq
      obtain ⟨cs, e1, e2⟩ := Option.map_eq_some_iff.mp e
      subst e2
      rw [List.map_cons, vr_bool h, boolsOf_ok t e1]
    · cases e
theorem strsOf_ok {K : PySem.W.Frag} {α : List Addr} {G : Hp} : ∀ {us : List U} {bs : List Str} {xs : List V}, VRs K α G xs us → strsOf us = some bs → xs = bs.map V.str
  | [], _, _, .nil, h => by cases h; rfl
  | u :: us, bs, _, .cons h t, e => by
    unfold strsOf at e
    split at e
    · rename_i heq
      cases heq
    · rename_i heq
      cases heq
      obtain ⟨cs, e1, e2⟩ := Option.map_eq_some_iff.mp e
      subst e2
      rw [List.map_cons, vr_str h, strsOf_ok t e1]
    · cases e
def bsF (g : List Bool → Bool) : FA := fun us M => match us with
  | [u] => match (lstOf M u).bind boolsOf with
    | some bs => some (.dat (.bool (g bs)), M)
    | none => none
  | _ => none
def allF : FA := bsF fun bs => bs.all id
theorem q_all (hc : X.calm = true) : QC X (.builtin "all") allF := by
  refine ⟨_, cr_all hc, fun H α M xs us u M' Q R rx e P => ?_⟩
  unfold allF bsF at e
  split at e
  · obtain ⟨v, rfl, rv⟩ := vrs1 rx
    split at e
    · rename_i bs e1
      cases e
      obtain ⟨ws, e2, e3⟩ := Option.bind_eq_some_iff.mp e1
      obtain ⟨p, ys, rfl, hq, r⟩ := lstOf_ok R rv e2
      have := boolsOf_ok r e3
      subst this
      exact ⟨p, bs, rfl, SqL.of hq, P.here R (.dat (.bl _))⟩
    · cases e
  · cases e
/-- repr -/
noncomputable def reprF : FA := fun us M => match us with
  | [.dat d] => if Ok d then some (.dat (.str d.shown), M) else none
  | [u] => match datOf M u with
    | some d => if Ok d ∧ d.hasDict = false then some (.dat (.str d.shown), M) else none
    | none => none
  | _ => none
theorem q_repr {k : Nat} (hgd : X.A.guards = some []) (room : Room k X.A) : QC X (.builtin "repr") reprF := by
  refine ⟨_, call_repr hgd room, fun H α M xs us u M' Q R rx e P => ?_⟩
  unfold reprF at e
  split at e
  · rename_i d
    obtain ⟨v, rfl, rv⟩ := vrs1 rx
    split at e
    · rename_i hz
      cases e
      cases rv with
      | dat q => exact ⟨v, d, true, rfl, q.same fzH_le, fun _ => rfl, hz, P.here R (.dat (.str _))⟩
    · cases e
  · obtain ⟨v, rfl, rv⟩ := vrs1 rx
    split at e
    · rename_i d e1
      split at e
      · rename_i hz
        cases e
        exact ⟨v, d, false, rfl, datOf_ok R rv e1, (fun z => by rw [hz.2] at z; cases z), hz.1, P.here R (.dat (.str _))⟩
      · cases e
    · cases e
  · cases e
/-- isinstance -/
def tyOf (M : Mem) : U → Option String
  | .dat d => some (tyD d)
  | .lv _ => some "list"
  | .tupc _ => some "tuple"
  | .cell i => match M[i]? with
    | some (.lst _ _) => some "list"
    | some (.fz _) => some "list"
    | _ => none
  | _ => none
theorem tyOf_ok {K : PySem.W.Frag} {α : List Addr} {M : Mem} {H : Hp} {v : V} {u : U} {n : String} (R : Rp K α M H) (r : VR K α (fzH α M H) v u) (h : tyOf M u = some n) : TyX K H v (.type n) := by
  cases r with
  | dat d =>
    cases h
    exact (d.same fzH_le).ty
  | tupc e t =>
    cases h
    rcases e with e | ⟨o, e⟩
    · exact .base (.tup (fzH_le _ _ e))
    · exact .fTuple (fzH_le _ _ e)
  | cell e =>
    rename_i a i
    obtain ⟨c, hc⟩ := R.cellAt e
    have ok := R.ok i a c e hc
    have h' : (match M[i]? with
      | some (.lst _ _) => some "list"
      | some (.fz _) => some "list"
      | _ => none) = some n := h
    rw [hc] at h'
    cases c with
    | lst f ws =>
      cases h'
      obtain ⟨_, xs, q, _⟩ := ok
      exact .base (.lst q)
    | fz ds =>
      cases h'
      obtain ⟨_, xs, q, _⟩ := ok
      exact .base (.lst q)
    | dk _ => cases h'
    | ins _ _ => cases h'
  | _ => cases h
def isT (n m : String) : Option Bool := if (n = "NoneType" ∨ n = "bool" ∨ n = "int" ∨ n = "str" ∨ n = "list" ∨ n = "tuple" ∨ n = "dict") ∧ (m = "int" ∨ m = "bool" ∨ m = "str" ∨ m = "tuple" ∨ m = "list" ∨ m = "dict") then some (decide (n = m) || (decide (n = "bool") && decide (m = "int"))) else none
theorem isT_ok {K : PySem.W.Frag} {n m : String} {b : Bool} (h : isT n m = some b) : PySem.W.kitOne K (.type n) (.type m) = some b := by
  unfold isT at h
  split at h
  · rename_i hz
    cases h
    obtain ⟨h1, h2⟩ := hz
    rcases h1 with rfl | rfl | rfl | rfl | rfl | rfl | rfl <;> rcases h2 with rfl | rfl | rfl | rfl | rfl | rfl <;> exact kit_ty (by decide +kernel)
  · cases h
def isiF : FA := fun us M => match us with
  | [u, .ty m] => match tyOf M u with
    | some n => (isT n m).map fun b => (.dat (.bool b), M)
    | none => none
  | _ => none
theorem q_isi : QC X (.builtin "isinstance") isiF := by
  refine ⟨_, call_isi, fun H α M xs us u M' Q R rx e P => ?_⟩
  unfold isiF at e
  split at e
  · rename_i w m
    split at e
    · rename_i n e1
      obtain ⟨b, e2, e3⟩ := Option.map_eq_some_iff.mp e
      cases e3
      obtain ⟨v, c, rfl, rv, rc⟩ := vrs2 rx
      cases rc
      exact ⟨v, .ty m, .type n, .type m, b, rfl, .ty m, tyOf_ok R rv e1, isT_ok e2, P.here R (.dat (.bl _))⟩
    · cases e
  · cases e
end
end Pu

namespace Pu
open PySem PySem.Spec PyProof.Rows L2 Lw
open Classical

/-! ### methods -/
abbrev FM := U → List U → Mem → Option (U × Mem)
def SimM (K : PySem.W.Frag) (r : V → List V → Hp → VK → Prop) (f : FM) : Prop :=
  ∀ (H : Hp) (α : List Addr) (M : Mem) (x : V) (xs : List V) (a : U) (us : List U) (u : U) (M' : Mem) (Q : VK), Rp K α M H → VR K α (fzH α M H) x a → VRs K α (fzH α M H) xs us → f a us M = some (u, M') → Post K α (fzH α M H) u M' Q → r x xs H Q
structure QM (X : Cx) (id : String) (f : FM) : Prop where
  ex : ∃ r, MtR X id r ∧ SimM X.K r f
def isTyM (T : String) (M : Mem) (u : U) : Bool :=
  if T = "list" then (lstOf M u).isSome else if T = "str" then (match u with
    | .dat (.str _) => true
    | _ => false) else false
theorem isTyM_ok {K : PySem.W.Frag} {α : List Addr} {M : Mem} {H : Hp} {v : V} {u : U} {T : String} (R : Rp K α M H) (r : VR K α (fzH α M H) v u) (h : isTyM T M u = true) : tyV K T v H := by
  unfold isTyM at h
  split at h
  · rename_i e
    subst e
    cases e : lstOf M u with
    | none => rw [e] at h; cases h
    | some us =>
      obtain ⟨a, xs, rfl, hq, _⟩ := lstOf_ok R r e
      exact .inl ⟨rfl, xs, SqL.of hq⟩
  · split at h
    · rename_i e
      subst e
      split at h
      · rw [vr_str r]
        exact rfl
      · cases h
    · cases h
noncomputable def eMt (T : String) (f : FM) (mo : ME) (m : MA) : ME := fun ρ M => match mo ρ M with
  | some (x, M1) => if isTyM T M1 x = true then (match m ρ M1 with
    | some (us, M2) => f x us M2
    | none => none) else none
  | none => none
section
variable {X : Cx} {o e : Expr} {es : List Expr} {mo : ME} {m : MA} {name : Str} {apos cpos : Pos} {T id : String} {f : FM}
theorem sim_bm {K : PySem.W.Frag} {r : V → List V → Hp → VK → Prop} {to : TE} {t : TA} (hs : SimM K r f) (ho : SimE K to mo) (ha : SimA K t m) : SimE K (tBM K T r to t) (eMt T f mo m) := by
  intro σ H α ρ M u M' Q R er h P
  unfold eMt at h
  split at h
  · rename_i x M1 e1
    split at h
    · rename_i hty
      split at h
      · rename_i us M2 e2
        refine ho σ H α ρ M x M1 _ R er e1 fun v1 α1 H1 R1 x1 r1 => ⟨isTyM_ok R1 r1 hty, ?_⟩
        refine ha σ H1 α1 ρ M1 us M2 _ R1 (er.ext x1) e2 fun vs α2 H2 R2 x2 r2 => ?_
        exact hs H2 α2 M2 v1 vs x us u M' Q R2 (r1.ext x2) r2 h (P.after (x1.trans x2))
      · cases h
    · cases h
  · cases h
theorem qe_bm (pa : PlainAttrs T) (slot : Slot T name id) (hty : typeOf (.builtin id) = pure (.type "method_descriptor")) (hm : QM X id f) (ho : QE X o mo) (ha : QA X (e :: es) m)
    (hbase : attributeBase o name X.env (eval o X.env) = eval o X.env := by rfl)
    (hfew : ((backTo cpos (starEach (e :: es) X.env)).all (fun x => !x.1) && (backToKw cpos (keywordEach [] X.env)).all (fun x => x.1.isSome)
      && decide ((e :: es).length + ([] : List Keyword).length + (if ([] : List Keyword).isEmpty then 0 else 1) < 30)) = true := by rfl)
    (hline : (apos.endLine == cpos.line) = true := by rfl) (hs : starEach (e :: es) X.env = (false, eval e X.env) :: starEach es X.env := by rfl) (hplain : (backTo cpos (starEach es X.env)).any (·.1) = false := by rfl) :
    QE X (.Call (.Attribute o name apos) (e :: es) [] cpos) (eMt T f mo m) := by
  obtain ⟨r, h1, h2⟩ := hm.ex
  obtain ⟨to, o1, o2⟩ := ho.ex
  obtain ⟨t, a1, a2⟩ := ha.ex
  exact ⟨_, pe_bm pa slot hty h1 o1 a1 hbase hfew hline hs hplain, sim_bm h2 o2 a2⟩
def appendF : FM := fun a us M => match a, us with
  | .cell i, [y] => match (frzU y M).2[i]? with
    | some (.lst f ws) => if ws.length < sizeLine then some (.dat .none, (frzU y M).2.set i (.lst f (ws ++ [(frzU y M).1]))) else none
    | _ => none
  | _, _ => none
theorem q_append : QM X "list.append" appendF := by
  refine ⟨_, mt_append, fun H α M x xs a us u M' Q R rx rs e P => ?_⟩
  unfold appendF at e
  split at e
  · rename_i i y
    split at e
    · rename_i f ws hc
      split at e
      · rename_i hz
        cases e
        obtain ⟨v, rfl, rv⟩ := vrs1 rs
        obtain ⟨R1, x1, r1⟩ := frzU_ok R rv
        cases rx with
        | cell hi =>
          rename_i p
          obtain ⟨_, ys, hy, ry⟩ := R1.ok i p _ hi hc
          refine ⟨p, ys, v, rfl, rfl, hy, by rw [ry.length]; exact hz, ?_⟩
          exact Post.write (xs := ys) (P.after x1) R1 hi hc (ry.append (.cons r1 .nil)) (.dat .non)
      · cases e
    · cases e
  · cases e
def joinF : FM := fun a us M => match a, us with
  | .dat (.str z), [y] => match (seqOf M y).bind strsOf with
    | some ss => if (ss.map (·.length)).sum + ss.length * z.length ≤ 16777216 then some (.dat (.str (Txt.join z ss)), M) else none
    | none => none
  | _, _ => none
theorem q_join : QM X "str.join" joinF := by
  refine ⟨_, mt_join, fun H α M x xs a us u M' Q R rx rs e P => ?_⟩
  unfold joinF at e
  split at e
  · rename_i z y
    split at e
    · rename_i ss e1
      split at e
      · rename_i hz
        cases e
        obtain ⟨ws, e2, e3⟩ := Option.bind_eq_some_iff.mp e1
        obtain ⟨v, rfl, rv⟩ := vrs1 rs
        obtain ⟨p, ys, rfl, hq, r⟩ := seqOf_ok R rv e2
        have := strsOf_ok r e3
        subst this
        exact ⟨z, p, ss, vr_str rx, rfl, hq, hz, P.here R (.dat (.str _))⟩
      · cases e
    · cases e
  · cases e
end

/-! ### calls of the text's own defs -/
def spOf (K : PySem.W.Frag) (f : FA) : Sp := fun vs H Q _ => ∃ (α : List Addr) (M : Mem) (us : List U) (u : U) (M' : Mem), Rp K α M H ∧ VRs K α (fzH α M H) vs us ∧ f us M = some (u, M') ∧ Post K α (fzH α M H) u M' Q
theorem sim_call {K : PySem.W.Frag} {f : FA} {t : TA} {m : MA} (ha : SimA K t m) : SimE K (tCall (spOf K f) [] E0 t) (eCB f m) := by
  intro σ H α ρ M u M' Q R er e P
  unfold eCB at e
  split at e
  · rename_i us M1 e1
    refine ha σ H α ρ M us M1 _ R er e1 fun vs α' H' R' x r => ?_
    refine ⟨α', M1, us, u, M', R', ?_, e, P.after x⟩
    rw [List.append_nil]
    exact r
  · cases e
section
variable {X : Cx} {k : Nat} {g : Addr} {fd : FuncData} {ps : List Str} {f : FA} {x : Str} {p pos : Pos} {e : Expr} {es : List Expr} {m : MA}
theorem qe_call (F : FnOk X.prog X.w X.K X.mg X.base CX0 k g fd ps (spOf X.K f)) (hr : Room k X.A) (hg : Gl X x) (hm : X.mg x = some (.ref g)) (hk : PySem.W.keepIn X.K (.ref g) = true) (hb : Binds X.K fd ps [])
    (ha : QA X (e :: es) m) (hdb : (x == ("__debug__" : Str)) = false := by decide) (he : starEach (e :: es) X.env = (false, eval e X.env) :: starEach es X.env := by rfl) (hpl : (backTo pos (starEach es X.env)).any (·.1) = false := by rfl) :
    QE X (.Call (.Name x p) (e :: es) [] pos) (eCB f m) := by
  obtain ⟨t, h3, h4⟩ := ha.ex
  exact ⟨_, pe_call (E := E0) F hr hg hm hk hb .nil pass0 h3 hdb he hpl, sim_call h4⟩
/-- keywords -/
structure QK (X : Cx) (kws : List Keyword) (m : MA) : Prop where
  ex : ∃ t, PK X kws t ∧ SimA X.K t m
theorem qk_nil : QK X [] aNil := ⟨_, pk_nil, fun σ H α ρ M us M' Q R er e P => by cases e; exact P [] α H R Ext.refl .nil⟩
theorem qk_cons {nm : Option Str} {kpos : Pos} {kws : List Keyword} {me : ME} (ha : QE X e me) (hr : QK X kws m) : QK X (⟨nm, e, kpos⟩ :: kws) (aCons me m) := by
  obtain ⟨t, h1, h2⟩ := ha.ex
  obtain ⟨u, h3, h4⟩ := hr.ex
  exact ⟨_, pk_cons h1 h3, sim_cons h2 h4⟩
def eCK (f : FA) (gU : List U → List U → List U) (m mk : MA) : ME := fun ρ M => match m ρ M with
  | some (us, M1) => match mk ρ M1 with
    | some (ws, M2) => f (gU us ws) M2
    | none => none
  | none => none
theorem sim_callK {K : PySem.W.Frag} {t tk : TA} {m mk : MA} {gV : List V → List V → List V} {gU : List U → List U → List U}
    (hgg : ∀ {α : List Addr} {G : Hp} {vs zs : List V} {us ws : List U}, VRs K α G vs us → VRs K α G zs ws → VRs K α G (gV vs zs) (gU us ws)) (ha : SimA K t m) (hk : SimA K tk mk) :
    SimE K (tCallK (spOf K f) gV E0 t tk) (eCK f gU m mk) := by
  intro σ H α ρ M u M' Q R er e P
  unfold eCK at e
  split at e
  · rename_i us M1 e1
    split at e
    · rename_i ws M2 e2
      refine ha σ H α ρ M us M1 _ R er e1 fun vs α1 H1 R1 x1 r1 => ?_
      refine hk σ H1 α1 ρ M1 ws M2 _ R1 (er.ext x1) e2 fun zs α2 H2 R2 x2 r2 => ?_
      exact ⟨α2, M2, _, u, M', R2, hgg (r1.ext x2) r2, e, P.after (x1.trans x2)⟩
    · cases e
  · cases e
theorem qe_kw0 {kws : List Keyword} {ks : List Str} {mk : MA} {gg : List Value → List Value → List Value} {gV : List V → List V → List V} {gU : List U → List U → List U}
    (F : FnOk X.prog X.w X.K X.mg X.base CX0 k g fd ps (spOf X.K f)) (room : Room k X.A) (hg : Gl X x) (hm : X.mg x = some (.ref g)) (hk : PySem.W.keepIn X.K (.ref g) = true)
    (hb : KBinds X.K fd ps ks gg gV) (hgg : ∀ {α : List Addr} {G : Hp} {vs zs : List V} {us ws : List U}, VRs X.K α G vs us → VRs X.K α G zs ws → VRs X.K α G (gV vs zs) (gU us ws)) (hkw : QK X kws mk) (hall : (backToKw pos (keywordEach kws X.env)).all (·.1.isSome) = true := by rfl)
    (hks : (backToKw pos (keywordEach kws X.env)).filterMap (·.1) = ks := by rfl) (hdb : (x == ("__debug__" : Str)) = false := by decide)
    (hpl : ((backTo pos (starEach [] X.env)).any (·.1) || (backToKw pos (keywordEach kws X.env)).any (·.1.isNone)) = false := by rfl) :
    QE X (.Call (.Name x p) [] kws pos) (eCK f gU aNil mk) := by
  obtain ⟨t, h1, h2⟩ := hkw.ex
  refine ⟨_, pe_kw0 F room hg hm hk hb h1 hall hks hdb hpl, sim_callK hgg ?_ h2⟩
  intro σ H α ρ M us M' Q R er e P
  cases e
  exact P [] α H R Ext.refl .nil
end
end Pu

namespace Pu
open PySem PySem.Spec PyProof.Rows L2 Lw
open Classical

/-! ### the readings that the plain functions give -/
def tmE (K : PySem.W.Frag) (m : ME) : TE := fun σ H Q => ∃ (α : List Addr) (ρ : Env) (M : Mem) (u : U) (M' : Mem), Rp K α M H ∧ ER K α (fzH α M H) σ ρ ∧ m ρ M = some (u, M') ∧ Post K α (fzH α M H) u M' Q
def tmT (K : PySem.W.Frag) (m : MT) : TT := fun σ H Q => ∃ (α : List Addr) (ρ : Env) (M : Mem) (u : Bool) (M' : Mem), Rp K α M H ∧ ER K α (fzH α M H) σ ρ ∧ m ρ M = some (u, M') ∧ PostB K α (fzH α M H) u M' Q
theorem QE.can {X : Cx} {e : Expr} {m : ME} (h : QE X e m) : PE X e (tmE X.K m) := by
  obtain ⟨t, h1, h2⟩ := h.ex
  exact ⟨fun pins s σ H Q I ⟨α, ρ, M, u, M', R, er, e, P⟩ => h1.run pins s σ H Q I (h2 σ H α ρ M u M' Q R er e P)⟩
theorem sim_tmE {K : PySem.W.Frag} (m : ME) : SimE K (tmE K m) m := fun σ H α ρ M u M' Q R er e P => ⟨α, ρ, M, u, M', R, er, e, P⟩
theorem QT.can {X : Cx} {e : Expr} {m : MT} (h : QT X e m) : PT X e (tmT X.K m) := by
  obtain ⟨t, h1, h2⟩ := h.ex
  exact ⟨fun pins s σ H Q I ⟨α, ρ, M, u, M', R, er, e, P⟩ => h1.run pins s σ H Q I (h2 σ H α ρ M u M' Q R er e P)⟩
theorem sim_tmT {K : PySem.W.Frag} (m : MT) : SimT K (tmT K m) m := fun σ H α ρ M u M' Q R er e P => ⟨α, ρ, M, u, M', R, er, e, P⟩

/-! ### targets -/
abbrev MG := U → Env → Mem → Option (Env × Mem)
def PostG (K : PySem.W.Frag) (α : List Addr) (G : Hp) (σ : L2.St) (sl : List Nat) (ρ' : Env) (M' : Mem) (Q : L2.St → Hp → Prop) : Prop :=
  ∀ (σ' : L2.St) (α' : List Addr) (H' : Hp), Rp K α' M' H' → Ext α G α' (fzH α' M' H') → ER K α' (fzH α' M' H') σ' ρ' → (∀ i, i ∉ sl → σ'[i]? = σ[i]?) → Q σ' H'
def SimG (K : PySem.W.Frag) (t : TG) (sl : List Nat) (m : MG) : Prop :=
  ∀ (σ : L2.St) (H : Hp) (α : List Addr) (ρ : Env) (M : Mem) (v : V) (u : U) (ρ' : Env) (M' : Mem) (Q : L2.St → Hp → Prop), Rp K α M H → ER K α (fzH α M H) σ ρ → VR K α (fzH α M H) v u → m u ρ M = some (ρ', M') → PostG K α (fzH α M H) σ sl ρ' M' Q → t v σ H Q
structure QG (X : Cx) (tg : Expr) (sl : List Nat) (m : MG) : Prop where
  ex : ∃ t, PG X tg t ∧ SimG X.K t sl m
def tmG (K : PySem.W.Frag) (sl : List Nat) (m : MG) : TG := fun v σ H Q => ∃ (α : List Addr) (ρ : Env) (M : Mem) (u : U) (ρ' : Env) (M' : Mem), Rp K α M H ∧ ER K α (fzH α M H) σ ρ ∧ VR K α (fzH α M H) v u ∧ m u ρ M = some (ρ', M') ∧ PostG K α (fzH α M H) σ sl ρ' M' Q
theorem QG.can {X : Cx} {e : Expr} {sl : List Nat} {m : MG} (h : QG X e sl m) : PG X e (tmG X.K sl m) := by
  obtain ⟨t, h1, h2⟩ := h.ex
  exact ⟨fun pins s σ H v u Q I rv ⟨α, ρ, M, u', ρ', M', R, er, r, e, P⟩ => h1.run pins s σ H v u Q I rv (h2 σ H α ρ M v u' ρ' M' Q R er r e P)⟩
theorem sim_tmG {K : PySem.W.Frag} (sl : List Nat) (m : MG) : SimG K (tmG K sl m) sl m := fun σ H α ρ M v u ρ' M' Q R er r e P => ⟨α, ρ, M, u, ρ', M', R, er, r, e, P⟩
abbrev MGs := List U → Env → Mem → Option (Env × Mem)
def SimGs (K : PySem.W.Frag) (t : TGs) (sl : List Nat) (m : MGs) : Prop :=
  ∀ (σ : L2.St) (H : Hp) (α : List Addr) (ρ : Env) (M : Mem) (vs : List V) (us : List U) (ρ' : Env) (M' : Mem) (Q : L2.St → Hp → Prop), Rp K α M H → ER K α (fzH α M H) σ ρ → VRs K α (fzH α M H) vs us → m us ρ M = some (ρ', M') → PostG K α (fzH α M H) σ sl ρ' M' Q → t vs σ H Q
structure QGs (X : Cx) (tgs : List Expr) (sl : List Nat) (m : MGs) : Prop where
  ex : ∃ t, PGs X tgs t ∧ SimGs X.K t sl m
section
variable {X : Cx} {K : PySem.W.Frag} {pos : Pos}
def gNm (i : Nat) : MG := fun u ρ M => some (ρ.set i (some u), M)
theorem sim_gname {i : Nat} : SimG K (gName i) [i] (gNm i) := by
  intro σ H α ρ M v u ρ' M' Q R er r e P
  cases e
  refine P _ α H R Ext.refl (er.set r) fun j hj => ?_
  rw [List.getElem?_set_ne]
  simpa using fun z : i = j => hj (by simp [z])
theorem qg_name {i : Nat} {x : Str} (hN : X.N.Nodup) (hi : X.N[i]? = some x) (hx : Loc X.env.scope x) (hf : X.fn x = true ∨ X.env.scope.names.lookup x = some .local := by first | exact .inl rfl | exact .inr rfl | assumption) : QG X (.Name x pos) [i] (gNm i) :=
  ⟨_, pg_name hN hi hx hf, sim_gname⟩
def gN0 : MGs := fun us ρ M => match us with
  | [] => some (ρ, M)
  | _ => none
def gCn (m : MG) (n : MGs) : MGs := fun us ρ M => match us with
  | u :: us => match m u ρ M with
    | some (ρ1, M1) => n us ρ1 M1
    | none => none
  | [] => none
theorem qgs_nil : QGs X [] [] gN0 := ⟨_, pgs_nil, fun σ H α ρ M vs us ρ' M' Q R er r e P => by
  unfold gN0 at e
  split at e
  · cases e
    cases r
    exact ⟨rfl, P _ α H R Ext.refl er fun _ _ => rfl⟩
  · cases e⟩
theorem qgs_cons {e : Expr} {es : List Expr} {sl sl' : List Nat} {m : MG} {n : MGs} (h1 : QG X e sl m) (h2 : QGs X es sl' n)
    (hs : (assignEach (e :: es) X.env).map (·.2) = assign e X.env :: (assignEach es X.env).map (·.2) := by rfl) : QGs X (e :: es) (sl ++ sl') (gCn m n) := by
  obtain ⟨t, a1, a2⟩ := h1.ex
  obtain ⟨u, b1, b2⟩ := h2.ex
  refine ⟨_, pgs_cons a1 b1 hs, ?_⟩
  intro σ H α ρ M vs us ρ' M' Q R er r e P
  unfold gCn at e
  split at e
  · rename_i w ws
    split at e
    · rename_i ρ1 M1 e1
      cases r with
      | cons r1 r2 =>
        refine ⟨_, _, rfl, ?_⟩
        refine a2 σ H α ρ M _ w ρ1 M1 _ R er r1 e1 fun σ1 α1 H1 R1 x1 er1 k1 => ?_
        refine b2 σ1 H1 α1 ρ1 M1 _ ws ρ' M' Q R1 er1 (r2.ext x1) e fun σ2 α2 H2 R2 x2 er2 k2 => ?_
        refine P σ2 α2 H2 R2 (x1.trans x2) er2 fun i hi => ?_
        rw [k2 i fun z => hi (List.mem_append_right _ z), k1 i fun z => hi (List.mem_append_left _ z)]
    · cases e
  · cases e
def tupK : U → Option (List U)
  | .kt xs => allV xs
  | u => tupOf u
def gTp (n : Nat) (m : MGs) : MG := fun u ρ M => match tupK u with
  | some us => if us.length = n then m us ρ M else none
  | none => none
theorem tupK_ok {α : List Addr} {M : Mem} {H : Hp} {v : V} {u : U} {us : List U} (r : VR K α (fzH α M H) v u) (h : tupK u = some us) : ∃ a xs, v = .ref a ∧ SqT K H a xs ∧ VRs K α (fzH α M H) xs us := by
  unfold tupK at h
  split at h
  · cases r with
    | kt e => exact ⟨_, _, rfl, SqT.ext fzH_le e, allV_ok h⟩
  · obtain ⟨a, xs, e1, e2, e3⟩ := tupOf_ok r h
    exact ⟨a, xs, e1, .inl (Rd.ext fzH_le e2), e3⟩
theorem qg_tup {es : List Expr} {k : Nat} {sl : List Nat} {m : MGs} {n : Nat} (hc : X.calm = true) (h : QGs X es sl m)
    (hn : (assignEach es X.env).length = n := by rfl) (hst : (assignEach es X.env).findIdx? (·.1) = none := by rfl) : QG X (.Tuple es k pos) sl (gTp n m) := by
  obtain ⟨t, a1, a2⟩ := h.ex
  refine ⟨_, pg_tup hc a1 hn hst, ?_⟩
  intro σ H α ρ M v u ρ' M' Q R er r e P
  unfold gTp at e
  split at e
  · rename_i us e1
    split at e
    · rename_i hl
      obtain ⟨a, xs, rfl, hq, rs⟩ := tupK_ok r e1
      exact ⟨a, xs, rfl, hq, by rw [rs.length]; exact hl, a2 σ H α ρ M xs us ρ' M' Q R er rs e P⟩
    · cases e
  · cases e
/-- o[i] = .. -/
def gSb (mo mi : ME) : MG := fun u ρ M => match mo ρ M with
  | some (o, M1) => match mi ρ M1 with
    | some (.dat (.int k), M2) => match o with
      | .cell c => match (frzU u M2).2[c]? with
        | some (.lst f ws) => match ixN ws.length k with
          | some j => some (ρ, (frzU u M2).2.set c (.lst f (ws.set j (frzU u M2).1)))
          | none => none
        | _ => none
      | _ => none
    | _ => none
  | none => none
theorem qg_sub {o i : Expr} {mo mi : ME} (ho : QE X o mo) (hi : QE X i mi)
    (ha : ∀ v, assign (.Subscript o i pos) X.env v = (do
      let ov ← holding [v] (eval o X.env)
      let iv ← holding [v, ov] (eval i X.env)
      standAt pos
      holding [v, ov, iv] (setItem ov iv v)
      release [v, ov, iv] []) := by intro _; rfl) : QG X (.Subscript o i pos) [] (gSb mo mi) := by
  obtain ⟨to, o1, o2⟩ := ho.ex
  obtain ⟨ti, i1, i2⟩ := hi.ex
  refine ⟨_, pg_sub o1 i1 set_list ha, ?_⟩
  intro σ H α ρ M v u ρ' M' Q R er r e P
  unfold gSb at e
  split at e
  · rename_i w M1 e1
    split at e
    · rename_i k M2 e2
      split at e
      · rename_i c
        split at e
        · rename_i f ws hc
          split at e
          · rename_i j hj
            cases e
            refine o2 σ H α ρ M _ M1 _ R er e1 fun v1 α1 H1 R1 x1 r1 => ?_
            refine i2 σ H1 α1 ρ M1 _ M2 _ R1 (er.ext x1) e2 fun v2 α2 H2 R2 x2 r2 => ?_
            obtain ⟨R3, x3, r3⟩ := frzU_ok R2 (r.ext (x1.trans x2))
            have r1' := r1.ext (x2.trans x3)
            cases r1' with
            | cell hi =>
              rename_i p
              obtain ⟨hf, ys, hy, ry⟩ := R3.ok c p _ hi hc
              refine ⟨p, ys, k, j, rfl, vr_int r2, hy, by rw [ry.length]; exact hj, ?_⟩
              obtain ⟨R4, x4⟩ := R3.write (d := .lst f (ws.set j (frzU u M2).1)) (o := .lst (ys.set j v)) hi hc rfl rfl ⟨hf, _, upd_same, ry.set j r3⟩
              exact P _ _ _ R4 (x1.trans (x2.trans (x3.trans x4))) (er.ext (x1.trans (x2.trans (x3.trans x4)))) fun _ _ => rfl
          · cases e
        · cases e
      · cases e
    · cases e
  · cases e
end

/-! ### statements -/
inductive Out where
  | nx (ρ : Env)
  | rt (u : U)
  | bk (ρ : Env)
  | ct (ρ : Env)
abbrev MS := Env → Mem → Option (Out × Mem)
def PostS (K : PySem.W.Frag) (α : List Addr) (G : Hp) (o : Out) (M' : Mem) (D : Ends) : Prop :=
  ∀ (α' : List Addr) (H' : Hp), Rp K α' M' H' → Ext α G α' (fzH α' M' H') → match o with
    | .nx ρ' => ∀ σ', ER K α' (fzH α' M' H') σ' ρ' → D.nx σ' H'
    | .rt u => ∀ v, VR K α' (fzH α' M' H') v u → D.rt v H'
    | .bk ρ' => ∀ σ', ER K α' (fzH α' M' H') σ' ρ' → D.bk σ' H'
    | .ct ρ' => ∀ σ', ER K α' (fzH α' M' H') σ' ρ' → D.ct σ' H'
theorem PostS.after {K : PySem.W.Frag} {α α1 : List Addr} {G G1 : Hp} {o : Out} {M' : Mem} {D : Ends} (P : PostS K α G o M' D) (x : Ext α G α1 G1) : PostS K α1 G1 o M' D := fun α' H' R y => P α' H' R (x.trans y)
def SimS (K : PySem.W.Frag) (t : TS) (m : MS) : Prop :=
  ∀ (σ : L2.St) (H : Hp) (α : List Addr) (ρ : Env) (M : Mem) (o : Out) (M' : Mem) (D : Ends), Rp K α M H → ER K α (fzH α M H) σ ρ → m ρ M = some (o, M') → PostS K α (fzH α M H) o M' D → t D σ H
structure QS (X : Cx) (st : Stmt) (m : MS) : Prop where
  ex : ∃ t, PS X st t ∧ SimS X.K t m
structure QSs (X : Cx) (sts : List Stmt) (m : MS) : Prop where
  ex : ∃ t, PSs X sts t ∧ SimS X.K t m
def sNil : MS := fun ρ M => some (.nx ρ, M)
def sSeq (m n : MS) : MS := fun ρ M => match m ρ M with
  | some (.nx ρ1, M1) => n ρ1 M1
  | r => r
section
variable {X : Cx} {st : Stmt} {rest : List Stmt} {m n : MS} {e : Expr} {me : ME} {pos : Pos}
theorem qss_nil : QSs X [] sNil := ⟨_, pss_nil, fun σ H α ρ M o M' D R er e P => by cases e; exact P α H R Ext.refl σ er⟩
theorem qss_one (h : QS X st m) : QSs X [st] m := let ⟨t, h1, h2⟩ := h.ex; ⟨t, pss_one h1, h2⟩
theorem qss_cons (h1 : QS X st m) (h2 : QSs X rest n) : QSs X (st :: rest) (sSeq m n) := by
  obtain ⟨t, a1, a2⟩ := h1.ex
  obtain ⟨u, b1, b2⟩ := h2.ex
  refine ⟨_, pss_cons a1 b1, ?_⟩
  intro σ H α ρ M o M' D R er e P
  unfold sSeq at e
  split at e
  · rename_i ρ1 M1 e1
    refine a2 σ H α ρ M _ M1 _ R er e1 fun α' H' R' x σ' er' => ?_
    exact b2 σ' H' α' ρ1 M1 o M' D R' er' e (P.after x)
  · rename_i hne
    refine a2 σ H α ρ M o M' _ R er e fun α' H' R' x => ?_
    have q := P α' H' R' x
    cases o with
    | nx ρ' => exact (hne _ _ e).elim
    | rt u => exact q
    | bk ρ' => exact q
    | ct ρ' => exact q
def sRet (me : ME) : MS := fun ρ M => match me ρ M with
  | some (u, M1) => some (.rt u, M1)
  | none => none
theorem qs_ret (h : QE X e me) : QS X (.Return (some e) pos) (sRet me) := by
  obtain ⟨t, a1, a2⟩ := h.ex
  refine ⟨_, ps_ret a1, ?_⟩
  intro σ H α ρ M o M' D R er e P
  unfold sRet at e
  split at e
  · rename_i u M1 e1
    cases e
    exact a2 σ H α ρ M u _ _ R er e1 fun v α' H' R' x r => P α' H' R' x v r
  · cases e
def sRetN : MS := fun _ M => some (.rt (.dat .none), M)
def sDrop (me : ME) : MS := fun ρ M => match me ρ M with
  | some (_, M1) => some (.nx ρ, M1)
  | none => none
theorem qs_expr (h : QE X e me) (hs : swapsWith e none pos.line X.env = pure false := by rfl) : QS X (.Expr e pos) (sDrop me) := by
  obtain ⟨t, a1, a2⟩ := h.ex
  refine ⟨_, ps_expr a1 hs, ?_⟩
  intro σ H α ρ M o M' D R er e P
  unfold sDrop at e
  split at e
  · rename_i u M1 e1
    cases e
    exact a2 σ H α ρ M u _ _ R er e1 fun v α' H' R' x r => P α' H' R' x σ (er.ext x)
  · cases e
def sPass : MS := fun ρ M => some (.nx ρ, M)
def sIf (c : MT) (m n : MS) : MS := fun ρ M => match c ρ M with
  | some (true, M1) => m ρ M1
  | some (false, M1) => n ρ M1
  | none => none
theorem qs_if {c : Expr} {a b : List Stmt} {mc : MT} (hc : QT X c mc) (ha : QSs X a m) (hb : QSs X b n) : QS X (.If c a b pos) (sIf mc m n) := by
  obtain ⟨t, c1, c2⟩ := hc.ex
  obtain ⟨u, a1, a2⟩ := ha.ex
  obtain ⟨v, b1, b2⟩ := hb.ex
  refine ⟨_, ps_if c1 a1 b1, ?_⟩
  intro σ H α ρ M o M' D R er e P
  unfold sIf at e
  split at e
  · rename_i M1 e1
    refine c2 σ H α ρ M _ M1 _ R er e1 fun α' H' R' x => ?_
    rw [if_pos rfl]
    exact a2 σ H' α' ρ M1 o M' D R' (er.ext x) e (P.after x)
  · rename_i M1 e1
    refine c2 σ H α ρ M _ M1 _ R er e1 fun α' H' R' x => ?_
    rw [if_neg (by decide)]
    exact b2 σ H' α' ρ M1 o M' D R' (er.ext x) e (P.after x)
  · cases e
def sAsg (me : ME) (g : MG) : MS := fun ρ M => match me ρ M with
  | some (u, M1) => match g u ρ M1 with
    | some (ρ', M2) => some (.nx ρ', M2)
    | none => none
  | none => none
theorem sim_asg {K : PySem.W.Frag} {te : TE} {tg : TG} {sl : List Nat} {g : MG} (a2 : SimE K te me) (b2 : SimG K tg sl g) : SimS K (tAsg te tg) (sAsg me g) := by
  intro σ H α ρ M o M' D R er e P
  unfold sAsg at e
  split at e
  · rename_i u M1 e1
    split at e
    · rename_i ρ' M2 e2
      cases e
      refine a2 σ H α ρ M u M1 _ R er e1 fun v α' H' R' x r => ?_
      exact b2 σ H' α' ρ M1 v u ρ' _ _ R' (er.ext x) r e2 fun σ2 α2 H2 R2 x2 er2 _ => P α2 H2 R2 (x.trans x2) σ2 er2
    · cases e
  · cases e
theorem qs_set {i : Nat} {x : Str} {pos' : Pos} (hN : X.N.Nodup) (hi : X.N[i]? = some x) (hx : Loc X.env.scope x) (he : QE X e me) (hs : swapsWith e (some (.Name x pos')) pos.line X.env = pure false := by rfl) (hf : X.fn x = true ∨ X.env.scope.names.lookup x = some .local := by first | exact .inl rfl | exact .inr rfl | assumption) :
    QS X (.Assign [.Name x pos'] e pos) (sAsg me (gNm i)) := by
  obtain ⟨t, a1, a2⟩ := he.ex
  exact ⟨_, ps_set hN hi hx a1 hs hf, sim_asg a2 sim_gname⟩
theorem qs_asg {tg : Expr} {sl : List Nat} {g : MG} (he : QE X e me) (hg : QG X tg sl g) (hs : swapsWithSole [tg] e pos.line X.env = pure false := by rfl) (hw : swappedStores [tg] e X.env = pure none := by rfl)
    (h1 : (assignEach [tg] X.env).map (·.2) = [assign tg X.env] := by rfl) : QS X (.Assign [tg] e pos) (sAsg me g) := by
  obtain ⟨t, a1, a2⟩ := he.ex
  obtain ⟨u, b1, b2⟩ := hg.ex
  exact ⟨_, ps_asg a1 b1 hs hw h1, sim_asg a2 b2⟩
/-- a, b = x, y -/
def sPar (i j : Nat) (m : MA) : MS := fun ρ M => match m ρ M with
  | some ([u, w], M1) => some (.nx ((ρ.set i (some u)).set j (some w)), M1)
  | _ => none
theorem qs_par {i j : Nat} {x y : Str} {a b : Expr} {ma : MA} {px py pt : Pos} {kt k2 pt2} (hc : X.calm = true) (hN : X.N.Nodup) (hi : X.N[i]? = some x) (hj : X.N[j]? = some y) (hij : i ≠ j)
    (hx : X.env.scope.names.lookup x = some .local) (hy : X.env.scope.names.lookup y = some .local) (ha : QA X [a, b] ma)
    (hw : swappedStores [.Tuple [.Name x px, .Name y py] kt pt] (.Tuple [a, b] k2 pt2) X.env = pure (some [x, y]))
    (hs : swapsWithSole [.Tuple [.Name x px, .Name y py] kt pt] (.Tuple [a, b] k2 pt2) pos.line X.env = pure false := by rfl) :
    QS X (.Assign [.Tuple [.Name x px, .Name y py] kt pt] (.Tuple [a, b] k2 pt2) pos) (sPar i j ma) := by
  obtain ⟨t, a1, a2⟩ := ha.ex
  refine ⟨_, ps_par hc hN hi hj hij hx hy a1 hw hs, ?_⟩
  intro σ H α ρ M o M' D R er e P
  unfold sPar at e
  split at e
  · rename_i u w M1 e1
    cases e
    refine a2 σ H α ρ M _ _ _ R er e1 fun vs α' H' R' x r => ?_
    obtain ⟨v1, v2, rfl, r1, r2⟩ := vrs2 r
    exact ⟨v1, v2, rfl, P α' H' R' x _ (((er.ext x).set r1).set r2)⟩
  · cases e
/-- x += e -/
def sAug (i : Nat) (me : ME) : MS := fun ρ M => match ρ[i]? with
  | some (some (.dat (.int a))) => match me ρ M with
    | some (.dat (.int b), M1) => some (.nx (ρ.set i (some (.dat (.int (a + b))))), M1)
    | _ => none
  | _ => none
end

/-! ### what is walked -/
abbrev MI := Env → Mem → Option ((List U × List Nat) × Mem)
def Wt (M0 : Mem) (ws : List Nat) (M : Mem) : Prop := ∀ c ∈ ws, M[c]? = M0[c]?
def IterOk (K : PySem.W.Frag) (J : It) (α0 : List Addr) (G0 : Hp) (M0 : Mem) (items : List U) (ws : List Nat) : Prop :=
  ∀ (i : Nat) (α : List Addr) (M : Mem) (H : Hp), Rp K α M H → Ext α0 G0 α (fzH α M H) → Wt M0 ws M →
    (∀ u, items[i]? = some u → J.go i H ∧ ∀ x H', J.yld i H x H' → Rp K α M H' ∧ Ext α (fzH α M H) α (fzH α M H') ∧ VR K α (fzH α M H') x u) ∧ (items.length ≤ i → J.stop i H)
def PostI (K : PySem.W.Frag) (α : List Addr) (G : Hp) (items : List U) (ws : List Nat) (M' : Mem) (R : It → Hp → Prop) : Prop :=
  ∀ (J : It) (α' : List Addr) (H' : Hp), Rp K α' M' H' → Ext α G α' (fzH α' M' H') → IterOk K J α' (fzH α' M' H') M' items ws → R J H'
def SimI (K : PySem.W.Frag) (t : L2.TI) (m : MI) : Prop :=
  ∀ (σ : L2.St) (H : Hp) (α : List Addr) (ρ : Env) (M : Mem) (items : List U) (ws : List Nat) (M' : Mem) (R : It → Hp → Prop), Rp K α M H → ER K α (fzH α M H) σ ρ → m ρ M = some ((items, ws), M') → PostI K α (fzH α M H) items ws M' R → t σ H R
structure QI (X : Cx) (tg e : Expr) (m : MI) : Prop where
  ex : ∃ t, PI X tg e t ∧ SimI X.K t m
def tmI (K : PySem.W.Frag) (m : MI) : L2.TI := fun σ H R => ∃ (α : List Addr) (ρ : Env) (M : Mem) (items : List U) (ws : List Nat) (M' : Mem), Rp K α M H ∧ ER K α (fzH α M H) σ ρ ∧ m ρ M = some ((items, ws), M') ∧ PostI K α (fzH α M H) items ws M' R
theorem QI.can {X : Cx} {tg e : Expr} {m : MI} (h : QI X tg e m) : PI X tg e (tmI X.K m) := by
  obtain ⟨t, h1, h2⟩ := h.ex
  exact ⟨fun pins s σ H R I ⟨α, ρ, M, items, ws, M', Rr, er, e, P⟩ => h1.run pins s σ H R I (h2 σ H α ρ M items ws M' R Rr er e P)⟩
/-- the cells of a value that is walked -/
def cellsOf : U → List Nat
  | .cell c => [c]
  | _ => []
theorem seqOf_wt {M0 M : Mem} {u : U} (w : Wt M0 (cellsOf u) M) : seqOf M u = seqOf M0 u := by
  cases u with
  | cell c =>
    have e : M[c]? = M0[c]? := w c (by simp [cellsOf])
    show (match tupOf (.cell c) with
      | some us => some us
      | none => lstOf M (.cell c)) = (match tupOf (.cell c) with
      | some us => some us
      | none => lstOf M0 (.cell c))
    simp only [tupOf, lstOf, e]
  | dat d => cases d <;> rfl
  | _ => rfl
theorem SqL.inj {X : Cx} : True := trivial
def iSeq (me : ME) : MI := fun ρ M => match me ρ M with
  | some (u, M1) => match seqOf M1 u with
    | some us => some ((us, cellsOf u), M1)
    | none => none
  | none => none
section
variable {X : Cx} {tg e : Expr} {me : ME}
theorem PI.or {w w' : L2.TI} (h : PI X tg e w) (h' : PI X tg e w') : PI X tg e (fun σ H R => w σ H R ∨ w' σ H R) :=
  ⟨fun pins s σ H R I q => q.elim (h.run pins s σ H R I) (h'.run pins s σ H R I)⟩
theorem qi_seq (h : QE X e me) : QI X tg e (iSeq me) := by
  obtain ⟨t, h1, h2⟩ := h.ex
  refine ⟨_, PI.or (pi_list h1) (pi_tup h1), ?_⟩
  intro σ H α ρ M items ws M' R Rr er e P
  unfold iSeq at e
  split at e
  · rename_i u M1 e1
    split at e
    · rename_i us e2
      cases e
      by_cases hk : (tupOf u).isSome = true ∨ ∃ xs, u = .kt xs
      · refine .inr (h2 σ H α ρ M u _ _ Rr er e1 fun v α' H' R' x r => ?_)
        have tp : ∀ (α2 : List Addr) (M2 : Mem) (H2 : Hp), Rp X.K α2 M2 H2 → ∀ {v2 : V}, VR X.K α2 (fzH α2 M2 H2) v2 u → ∃ a xs, v2 = .ref a ∧ SqT X.K H2 a xs ∧ VRs X.K α2 (fzH α2 M2 H2) xs items := by
          intro α2 M2 H2 R2 v2 r2
          rcases hk with hk | ⟨xs, rfl⟩
          · obtain ⟨zs, hz⟩ := Option.isSome_iff_exists.mp hk
            have ez : zs = items := by
              have q := e2
              unfold seqOf at q
              split at q
              · cases hz
              · cases hz
              · rw [hz] at q
                exact Option.some.inj q
            subst ez
            obtain ⟨a, xs, q1, q2, q3⟩ := tupOf_ok r2 hz
            exact ⟨a, xs, q1, .inl (Rd.ext fzH_le q2), q3⟩
          · cases r2 with
            | kt q => exact ⟨_, xs, rfl, SqT.ext fzH_le q, allV_ok e2⟩
        obtain ⟨a, xs, rfl, hq, rs⟩ := tp α' _ H' R' r
        refine ⟨a, rfl, ⟨xs, hq⟩, P _ α' H' R' x fun i α2 M2 H2 R2 x2 w2 => ?_⟩
        obtain ⟨a', ys, ea, hq2, rs2⟩ := tp α2 M2 H2 R2 (r.ext x2)
        cases ea
        refine ⟨fun w hw => ?_, fun hl => ⟨ys, hq2, by rw [rs2.length]; exact hl⟩⟩
        obtain ⟨y, hy, ry⟩ := rs2.get i hw
        refine ⟨⟨ys, y, hq2, hy⟩, fun z H3 hz => ?_⟩
        obtain ⟨rfl, hz⟩ := hz
        have := hz ys hq2
        rw [hy] at this
        cases this
        exact ⟨R2, Ext.refl, ry⟩
      · refine .inl (h2 σ H α ρ M u _ _ Rr er e1 fun v α' H' R' x r => ?_)
        have tp : ∀ (α2 : List Addr) (M2 : Mem) (H2 : Hp), Rp X.K α2 M2 H2 → seqOf M2 u = some items → ∀ {v2 : V}, VR X.K α2 (fzH α2 M2 H2) v2 u → ∃ a xs, v2 = .ref a ∧ SqL X.K H2 a xs ∧ VRs X.K α2 (fzH α2 M2 H2) xs items := by
          intro α2 M2 H2 R2 q v2 r2
          unfold seqOf at q
          split at q
          · cases q
            cases r2 with
            | scr z => exact ⟨_, _, rfl, SqL.ext fzH_le z, vrs_ints _⟩
          · exact absurd (.inr ⟨_, rfl⟩) hk
          · split at q
            · rename_i hz
              exact absurd (.inl (by rw [hz]; rfl)) hk
            · obtain ⟨a, xs, q1, q2, q3⟩ := lstOf_ok R2 r2 q
              exact ⟨a, xs, q1, SqL.of q2, q3⟩
        obtain ⟨a, xs, rfl, hq, rs⟩ := tp α' _ H' R' e2 r
        refine ⟨a, rfl, ⟨xs, hq⟩, P _ α' H' R' x fun i α2 M2 H2 R2 x2 w2 => ?_⟩
        obtain ⟨a', ys, ea, hq2, rs2⟩ := tp α2 M2 H2 R2 (by rw [seqOf_wt w2]; exact e2) (r.ext x2)
        cases ea
        refine ⟨fun w hw => ?_, fun hl => ⟨ys, hq2, by rw [rs2.length]; exact hl⟩⟩
        obtain ⟨y, hy, ry⟩ := rs2.get i hw
        refine ⟨⟨ys, y, hq2, hy⟩, fun z H3 hz => ?_⟩
        obtain ⟨rfl, hz⟩ := hz
        have := hz ys hq2
        rw [hy] at this
        cases this
        exact ⟨R2, Ext.refl, ry⟩
    · cases e
  · cases e
/-- the signs of a text -/
def signsOf (z : Str) : List U := z.cps.toList.map fun c => .dat (.str ⟨#[c]⟩)
def iTxt (me : ME) : MI := fun ρ M => match me ρ M with
  | some (.dat (.str z), M1) => some ((signsOf z, []), M1)
  | _ => none
/-- range -/
def rangeU (lo : Int) (n : Nat) : List U := (List.range n).map fun (k : Nat) => .dat (.int (lo + (k : Int)))
def iRg1 (m : MA) : MI := fun ρ M => match m ρ M with
  | some ([.dat (.int j)], M1) => if -(2 ^ 62) ≤ j ∧ j < 2 ^ 62 then some ((rangeU 0 j.toNat, []), M1) else none
  | _ => none
def iRg2 (m : MA) : MI := fun ρ M => match m ρ M with
  | some ([.dat (.int i), .dat (.int j)], M1) => if -(2 ^ 62) ≤ i ∧ i < 2 ^ 62 ∧ -(2 ^ 62) ≤ j ∧ j < 2 ^ 62 then some ((rangeU i (j - i).toNat, []), M1) else none
  | _ => none
theorem iter_range {K : PySem.W.Frag} {lo : Int} {n : Nat} {α0 : List Addr} {G0 : Hp} {M0 : Mem} : IterOk K (Itr lo n) α0 G0 M0 (rangeU lo n) [] := by
  intro i α M H R x w
  refine ⟨fun u hu => ?_, fun hl => ?_⟩
  · unfold rangeU at hu
    rw [List.getElem?_map] at hu
    obtain ⟨k, h1, h2⟩ := Option.map_eq_some_iff.mp hu
    obtain ⟨h3, h4⟩ := List.getElem?_eq_some_iff.mp h1
    rw [List.length_range] at h3
    rw [List.getElem_range] at h4
    subst h4 h2
    refine ⟨h3, fun y H' hy => ?_⟩
    obtain ⟨rfl, rfl⟩ := hy
    exact ⟨R, Ext.refl, .dat (.int _)⟩
  · unfold rangeU at hl
    rw [List.length_map, List.length_range] at hl
    exact hl
theorem qi_range1 {a : Expr} {m : MA} {p pos : Pos} (hg : Gl X "range") (hm : X.mg "range" = none) (ha : QA X [a] m) (hs : starEach [a] X.env = [(false, eval a X.env)] := by rfl) : QI X tg (.Call (.Name "range" p) [a] [] pos) (iRg1 m) := by
  obtain ⟨t, h1, h2⟩ := ha.ex
  refine ⟨_, pi_range1 hg hm h1 hs, ?_⟩
  intro σ H α ρ M items ws M' R Rr er e P
  unfold iRg1 at e
  split at e
  · rename_i j M1 e1
    split at e
    · rename_i hz
      cases e
      refine h2 σ H α ρ M _ _ _ Rr er e1 fun vs α' H' R' x r => ?_
      obtain ⟨v, rfl, rv⟩ := vrs1 r
      exact ⟨j, by rw [vr_int rv], hz.1, hz.2, P _ α' H' R' x iter_range⟩
    · cases e
  · cases e
end

/-! ### for -/
noncomputable def forM (wt : Mem → Prop) (g : MG) (b : MS) : List U → MS
  | [], ρ, M => some (.nx ρ, M)
  | u :: us, ρ, M => match g u ρ M with
    | some (ρ1, M1) => match b ρ1 M1 with
      | some (.nx ρ2, M2) => if wt M2 then forM wt g b us ρ2 M2 else none
      | some (.ct ρ2, M2) => if wt M2 then forM wt g b us ρ2 M2 else none
      | some (.bk ρ2, M2) => some (.nx ρ2, M2)
      | some (.rt v, M2) => some (.rt v, M2)
      | none => none
    | none => none
noncomputable def sFor (mi : MI) (g : MG) (b : MS) : MS := fun ρ M => match mi ρ M with
  | some ((items, ws), M1) => forM (Wt M1 ws) g b items ρ M1
  | none => none
theorem sim_for {K : PySem.W.Frag} {wi : L2.TI} {tg : TG} {tb : TS} {sl : List Nat} {mi : MI} {g : MG} {b : MS} (hi : SimI K wi mi) (hg : SimG K tg sl g) (hb : SimS K tb b) : SimS K (tFor wi tg tb) (sFor mi g b) := by
  intro σ H α ρ M o M' D R er e P
  unfold sFor at e
  split at e
  · rename_i items ws M1 e1
    refine hi σ H α ρ M items ws M1 _ R er e1 fun J α1 H1 R1 x1 ok => ?_
    refine ⟨fun i m σ' H' => m = items.length - i ∧ i ≤ items.length ∧ ∃ (α' : List Addr) (ρ' : Env) (M2 : Mem), Rp K α' M2 H' ∧ ER K α' (fzH α' M2 H') σ' ρ' ∧ Ext α1 (fzH α1 M1 H1) α' (fzH α' M2 H') ∧ Wt M1 ws M2 ∧ forM (Wt M1 ws) g b (items.drop i) ρ' M2 = some (o, M'), ⟨items.length, by simp, Nat.zero_le _, α1, ρ, M1, R1, er.ext x1, Ext.refl, fun _ _ => rfl, e⟩, ?_⟩
    rintro i m σ' H' ⟨rfl, hle, α', ρ', M2, R2, er2, x2, w2, e2⟩
    by_cases hlt : i < items.length
    · have hd : items.drop i = items[i] :: items.drop (i + 1) := List.drop_eq_getElem_cons hlt
      rw [hd] at e2
      unfold forM at e2
      split at e2
      · rename_i ρ3 M3 e3
        obtain ⟨ok1, _⟩ := ok i α' M2 H' R2 x2 w2
        obtain ⟨go, yl⟩ := ok1 items[i] (List.getElem?_eq_getElem hlt)
        refine .inr ⟨go, fun σ4 H4 => ∃ m', m' < items.length - i ∧ m' = items.length - (i + 1) ∧ i + 1 ≤ items.length ∧ ∃ (α' : List Addr) (ρ' : Env) (M2 : Mem), Rp K α' M2 H4 ∧ ER K α' (fzH α' M2 H4) σ4 ρ' ∧ Ext α1 (fzH α1 M1 H1) α' (fzH α' M2 H4) ∧ Wt M1 ws M2 ∧ forM (Wt M1 ws) g b (items.drop (i + 1)) ρ' M2 = some (o, M'), fun _ _ z => z, fun y H3 hy => ?_⟩
        obtain ⟨R3, x3, r3⟩ := yl y H3 hy
        refine hg σ' H3 α' ρ' M2 y items[i] ρ3 M3 _ R3 (er2.ext x3) r3 e3 fun σ4 α4 H4 R4 x4 er4 _ => ?_
        have x14 := x1.trans (x2.trans (x3.trans x4))
        have x24 := x2.trans (x3.trans x4)
        have go2 : ∀ (o2 : Out) (M5 : Mem), b ρ3 M3 = some (o2, M5) → (∀ ρ5, (o2 = .nx ρ5 ∨ o2 = .ct ρ5) → Wt M1 ws M5 ∧ forM (Wt M1 ws) g b (items.drop (i + 1)) ρ5 M5 = some (o, M')) →
            (∀ ρ5, o2 = .bk ρ5 → o = .nx ρ5 ∧ M' = M5) → (∀ v, o2 = .rt v → o = .rt v ∧ M' = M5) → tb { D with
              nx := fun σ4 H4 => ∃ m', m' < items.length - i ∧ m' = items.length - (i + 1) ∧ i + 1 ≤ items.length ∧ ∃ (α' : List Addr) (ρ' : Env) (M2 : Mem), Rp K α' M2 H4 ∧ ER K α' (fzH α' M2 H4) σ4 ρ' ∧ Ext α1 (fzH α1 M1 H1) α' (fzH α' M2 H4) ∧ Wt M1 ws M2 ∧ forM (Wt M1 ws) g b (items.drop (i + 1)) ρ' M2 = some (o, M'),
              ct := fun σ4 H4 => ∃ m', m' < items.length - i ∧ m' = items.length - (i + 1) ∧ i + 1 ≤ items.length ∧ ∃ (α' : List Addr) (ρ' : Env) (M2 : Mem), Rp K α' M2 H4 ∧ ER K α' (fzH α' M2 H4) σ4 ρ' ∧ Ext α1 (fzH α1 M1 H1) α' (fzH α' M2 H4) ∧ Wt M1 ws M2 ∧ forM (Wt M1 ws) g b (items.drop (i + 1)) ρ' M2 = some (o, M'),
              bk := D.nx } σ4 H4 := by
          intro o2 M5 e5 hn hbk hrt
          refine hb σ4 H4 α4 ρ3 M3 o2 M5 _ R4 er4 e5 fun α5 H5 R5 x5 => ?_
          cases o2 with
          | nx ρ5 =>
            intro σ5 er5
            obtain ⟨w5, e6⟩ := hn ρ5 (.inl rfl)
            exact ⟨_, by omega, rfl, hlt, α5, ρ5, M5, R5, er5, x24.trans x5, w5, e6⟩
          | ct ρ5 =>
            intro σ5 er5
            obtain ⟨w5, e6⟩ := hn ρ5 (.inr rfl)
            exact ⟨_, by omega, rfl, hlt, α5, ρ5, M5, R5, er5, x24.trans x5, w5, e6⟩
          | bk ρ5 =>
            obtain ⟨rfl, rfl⟩ := hbk ρ5 rfl
            exact P α5 H5 R5 (x14.trans x5)
          | rt v =>
            obtain ⟨rfl, rfl⟩ := hrt v rfl
            exact P α5 H5 R5 (x14.trans x5)
        split at e2
        · rename_i ρ5 M5 e5
          split at e2
          · rename_i hw
            exact go2 _ M5 e5 (fun ρ6 z => by rcases z with z | z <;> cases z; exact ⟨hw, e2⟩) (fun _ z => by cases z) (fun _ z => by cases z)
          · cases e2
        · rename_i ρ5 M5 e5
          split at e2
          · rename_i hw
            exact go2 _ M5 e5 (fun ρ6 z => by rcases z with z | z <;> cases z; exact ⟨hw, e2⟩) (fun _ z => by cases z) (fun _ z => by cases z)
          · cases e2
        · rename_i ρ5 M5 e5
          cases e2
          exact go2 _ _ e5 (fun ρ6 z => by rcases z with z | z <;> cases z) (fun _ z => by cases z; exact ⟨rfl, rfl⟩) (fun _ z => by cases z)
        · rename_i v M5 e5
          cases e2
          exact go2 _ _ e5 (fun ρ6 z => by rcases z with z | z <;> cases z) (fun _ z => by cases z) (fun _ z => by cases z; exact ⟨rfl, rfl⟩)
        · cases e2
      · cases e2
    · have hi' : i = items.length := by omega
      subst hi'
      rw [List.drop_length] at e2
      cases e2
      obtain ⟨_, st⟩ := ok items.length α' _ H' R2 x2 w2
      exact .inl ⟨st (Nat.le_refl _), P α' H' R2 (x1.trans x2) σ' er2⟩
  · cases e
theorem qs_for {X : Cx} {tg iter : Expr} {body : List Stmt} {sl : List Nat} {mi : MI} {g : MG} {b : MS} {pos : Pos} (hp : PassesOwn (model X.prog X.w) X.A X.env X.xe) (hc : X.calm = true) (hi : QI X tg iter mi) (hg : QG X tg sl g) (hb : QSs X body b)
    (hs : ∀ x, foldedSetIterable iter X.env x = pure x := by intro _; rfl) : QS X (.For tg iter body [] pos) (sFor mi g b) := by
  obtain ⟨t, h1, h2⟩ := hi.ex
  obtain ⟨u, h3, h4⟩ := hg.ex
  obtain ⟨v, h5, h6⟩ := hb.ex
  exact ⟨_, ps_for hp hc h1 h3 h5 hs, sim_for h2 h4 h6⟩
end Pu

namespace Pu
open PySem PySem.Spec PyProof.Rows L2 Lw
open Classical

/-! ### more that is walked -/
def isTp (u : U) : Bool := (tupK u).isSome
section
variable {X : Cx} {tg e e2 : Expr} {me : ME} {m : MA} {p pos tpos : Pos} {elts : List Expr} {kk : Nat}
theorem qi_txt (h : QE X e me) : QI X tg e (iTxt me) := by
  obtain ⟨t, h1, h2⟩ := h.ex
  refine ⟨_, pi_str h1, ?_⟩
  intro σ H α ρ M items ws M' R Rr er e P
  unfold iTxt at e
  split at e
  · rename_i z M1 e1
    cases e
    refine h2 σ H α ρ M _ _ _ Rr er e1 fun v α' H' R' x r => ⟨z, vr_str r, P _ α' H' R' x fun i α2 M2 H2 R2 x2 w2 => ⟨fun u hu => ?_, fun hl => ?_⟩⟩
    · unfold signsOf at hu
      rw [List.getElem?_map] at hu
      obtain ⟨c, h3, h4⟩ := Option.map_eq_some_iff.mp hu
      subst h4
      have hc : z.cps[i]? = some c := by rw [← Array.getElem?_toList]; exact h3
      refine ⟨(Array.getElem?_eq_some_iff.mp hc).1, fun y H3 hy => ?_⟩
      obtain ⟨rfl, c', hc', rfl⟩ := hy
      rw [hc] at hc'
      cases hc'
      exact ⟨R2, Ext.refl, .dat (.str _)⟩
    · unfold signsOf at hl
      rw [List.length_map, Array.length_toList] at hl
      exact hl
  · cases e
/-- enumerate -/
def enumU : List U → Nat → List U
  | [], _ => []
  | u :: us, n => .tupc [.dat (.int (n : Nat)), u] :: enumU us (n + 1)
/-- zip -/
def zipU : List U → List U → List U
  | a :: as, b :: bs => .tupc [a, b] :: zipU as bs
  | _, _ => []
end

/-! ### while -/
/-! ### comprehensions -/
theorem wipe_get {σ : L2.St} : ∀ {vs : List Nat} (i : Nat), (wipe σ vs)[i]? = if i ∈ vs ∧ i < σ.length then some none else σ[i]?
  | [], i => by simp [wipe]
  | v :: vs, i => by
    unfold wipe
    by_cases hv : i = v
    · subst hv
      by_cases hl : i < σ.length
      · rw [List.getElem?_set_self (by rw [wipe_length]; exact hl), if_pos ⟨List.mem_cons_self, hl⟩]
      · rw [List.getElem?_eq_none (by rw [List.length_set, wipe_length]; omega), if_neg fun z => hl z.2, List.getElem?_eq_none (by omega)]
    · rw [List.getElem?_set_ne (Ne.symm hv), wipe_get i]
      simp only [List.mem_cons, hv, false_or]
def wipeR (ρ : Env) : List Nat → Env
  | [] => ρ
  | v :: vs => (wipeR ρ vs).set v none
theorem wipeR_length (ρ : Env) : ∀ vs : List Nat, (wipeR ρ vs).length = ρ.length
  | [] => rfl
  | v :: vs => by unfold wipeR; rw [List.length_set, wipeR_length ρ vs]
theorem wipeR_some {ρ : Env} {i : Nat} {x : U} : ∀ {vs : List Nat}, (wipeR ρ vs)[i]? = some (some x) → ρ[i]? = some (some x) ∧ i ∉ vs
  | [], h => ⟨h, by simp⟩
  | v :: vs, h => by
    unfold wipeR at h
    by_cases hi : v = i
    · subst hi
      by_cases hv : v < (wipeR ρ vs).length
      · rw [List.getElem?_set_self hv] at h; cases h
      · rw [List.getElem?_eq_none (by simpa using hv)] at h; cases h
    · rw [List.getElem?_set_ne hi] at h
      obtain ⟨h1, h2⟩ := wipeR_some h
      exact ⟨h1, by simp only [List.mem_cons, not_or]; exact ⟨fun e => hi e.symm, h2⟩⟩
theorem ER.wipe {K : PySem.W.Frag} {α : List Addr} {G : Hp} {σ : L2.St} {ρ : Env} {vs : List Nat} (h : ER K α G σ ρ) : ER K α G (L2.wipe σ vs) (wipeR ρ vs) := by
  refine ⟨by rw [wipe_length, wipeR_length]; exact h.1, fun i u e => ?_⟩
  obtain ⟨e1, n⟩ := wipeR_some e
  obtain ⟨v, e2, r⟩ := h.2 i u e1
  exact ⟨v, by rw [wipe_get, if_neg fun z => n z.1]; exact e2, r⟩
theorem wipe_keep {σ σ2 : L2.St} {vs sl : List Nat} (hl : σ2.length = σ.length) (hs : ∀ i ∈ sl, i ∈ vs) (k : ∀ i, i ∉ sl → σ2[i]? = (wipe σ vs)[i]?) : wipe σ2 vs = wipe σ vs := by
  apply List.ext_getElem?
  intro i
  rw [wipe_get, wipe_get]
  by_cases hi : i ∈ vs
  · by_cases hl2 : i < σ.length
    · rw [if_pos ⟨hi, by omega⟩, if_pos ⟨hi, hl2⟩]
    · rw [if_neg fun z => hl2 (by omega), if_neg fun z => hl2 z.2, List.getElem?_eq_none (by omega), List.getElem?_eq_none (by omega)]
  · rw [if_neg fun z => hi z.1, if_neg fun z => hi z.1, k i fun z => hi (hs i z), wipe_get, if_neg fun z => hi z.1]
noncomputable def lcM (wt : Mem → Prop) (g : MG) (c : MT) (e : ME) (n : Nat) (ρ : Env) : List U → Mem → Option Mem
  | [], M => some M
  | u :: us, M => match g u ρ M with
    | some (ρ1, M1) => match c ρ1 M1 with
      | some (true, M2) => match e ρ1 M2 with
        | some (y, M3) => match appendF (.cell n) [y] M3 with
          | some (_, M4) => if wt M4 then lcM wt g c e n ρ us M4 else none
          | none => none
        | none => none
      | some (false, M2) => if wt M2 then lcM wt g c e n ρ us M2 else none
      | none => none
    | none => none
noncomputable def eLc (mi : MI) (g : MG) (c : MT) (e : ME) (vs : List Nat) : ME := fun ρ M => match mi ρ M with
  | some ((items, ws), M1) => match lcM (Wt M1 ws) g c e M1.length (wipeR ρ vs) items (M1 ++ [.lst false []]) with
    | some M2 => some (.cell M1.length, M2)
    | none => none
  | none => none
theorem wt_app {M0 : Mem} {c : Cell} {ws : List Nat} (hw : ∀ i ∈ ws, i < M0.length) : Wt M0 ws (M0 ++ [c]) := fun i hi => List.getElem?_append_left (hw i hi)
theorem append_app {M : Mem} {n : Nat} {y w : U} {M4 : Mem} (h : appendF (.cell n) [y] M = some (w, M4)) : ∃ f ws, (frzU y M).2[n]? = some (.lst f ws) ∧ ws.length < sizeLine ∧ M4 = (frzU y M).2.set n (.lst f (ws ++ [(frzU y M).1])) := by
  unfold appendF at h
  simp only at h
  split at h
  · rename_i f ws hc
    split at h
    · rename_i hz
      cases h
      exact ⟨f, ws, hc, hz, rfl⟩
    · cases h
  · cases h
end Pu

namespace Pu
open PySem PySem.Spec PyProof.Rows L2 Lw
open Classical
theorem ER.len {K : PySem.W.Frag} {α : List Addr} {G : Hp} {σ : L2.St} {ρ : Env} (h : ER K α G σ ρ) : σ.length = ρ.length := h.1
/-- targets leave the number of slots -/
def LenG (g : MG) : Prop := ∀ u ρ M ρ' M', g u ρ M = some (ρ', M') → ρ'.length = ρ.length
theorem len_nm (i : Nat) : LenG (gNm i) := fun u ρ M ρ' M' h => by
  cases h
  rw [List.length_set]
section
variable {K : PySem.W.Frag}
/-- one turn's end: y is put behind -/
theorem lc_put {α : List Addr} {M4 M3 : Mem} {H : Hp} {n : Nat} {a : Addr} {y : V} {u w : U} (R : Rp K α M3 H) (ha : α[n]? = some a) (ry : VR K α (fzH α M3 H) y u) (h : appendF (.cell n) [u] M3 = some (w, M4)) :
    ∃ acc, H a = some (.lst acc) ∧ acc.length < sizeLine ∧ Rp K α M4 (upd H a (.lst (acc ++ [y]))) ∧ Ext α (fzH α M3 H) α (fzH α M4 (upd H a (.lst (acc ++ [y])))) := by
  obtain ⟨f, ws, hc, hz, rfl⟩ := append_app h
  obtain ⟨R1, x1, r1⟩ := frzU_ok R ry
  obtain ⟨hf, ys, hy, rs⟩ := R1.ok n a _ ha hc
  obtain ⟨R2, x2⟩ := R1.write (d := .lst f (ws ++ [(frzU u M3).1])) (o := .lst (ys ++ [y])) ha hc rfl rfl ⟨hf, _, upd_same, rs.append (.cons r1 .nil)⟩
  exact ⟨ys, hy, by rw [rs.length]; exact hz, R2, x1.trans x2⟩
theorem sim_lc {wi : L2.TI} {tg : TG} {tt : TT} {te : TE} {sl vs : List Nat} {mi : MI} {g : MG} {c : MT} {e : ME} (hi : SimI K wi mi) (hg : SimG K tg sl g) (hlg : LenG g) (hc : SimT K tt c) (he : SimE K te e) (hsl : ∀ i ∈ sl, i ∈ vs)
    (hws : ∀ ρ M items ws M', mi ρ M = some ((items, ws), M') → ∀ i ∈ ws, i < M'.length) : SimE K (tLc wi tg tt te vs) (eLc mi g c e vs) := by
  intro σ H α ρ M u M' Q R er h P
  unfold eLc at h
  split at h
  · rename_i items ws M1 e1
    split at h
    · rename_i M2 e2
      cases h
      refine hi σ H α ρ M items ws M1 _ R er e1 fun J α1 H1 R1 x1 ok => ?_
      intro D hD
      obtain ⟨R1', x1', hD'⟩ := R1.newMem (o := .lst []) (c := .lst false []) hD rfl fun y => ⟨fun z => (by cases z), [], upd_same, .nil⟩
      refine ⟨fun i m H' => m = items.length - i ∧ i ≤ items.length ∧ ∃ (α' : List Addr) (M3 : Mem), Rp K α' M3 H' ∧ Ext (α1 ++ [D]) (fzH (α1 ++ [D]) (M1 ++ [.lst false []]) (upd H1 D (.lst []))) α' (fzH α' M3 H') ∧ Wt M1 ws M3 ∧ lcM (Wt M1 ws) g c e M1.length (wipeR ρ vs) (items.drop i) M3 = some M', ⟨items.length, by simp, Nat.zero_le _, _, _, R1', Ext.refl, wt_app (hws _ _ _ _ _ e1), e2⟩, ?_⟩
      rintro i m H' ⟨rfl, hle, α', M3, R3, x3, w3, e3⟩
      have x13 := x1'.trans x3
      by_cases hlt : i < items.length
      · have hd : items.drop i = items[i] :: items.drop (i + 1) := List.drop_eq_getElem_cons hlt
        rw [hd] at e3
        unfold lcM at e3
        split at e3
        · rename_i ρ4 M4 e4
          obtain ⟨ok1, _⟩ := ok i α' M3 H' R3 x13 w3
          obtain ⟨go, yl⟩ := ok1 items[i] (List.getElem?_eq_getElem hlt)
          refine .inr ⟨go, fun H4 => ∃ m', m' < items.length - i ∧ m' = items.length - (i + 1) ∧ i + 1 ≤ items.length ∧ ∃ (α' : List Addr) (M3 : Mem), Rp K α' M3 H4 ∧ Ext (α1 ++ [D]) (fzH (α1 ++ [D]) (M1 ++ [.lst false []]) (upd H1 D (.lst []))) α' (fzH α' M3 H4) ∧ Wt M1 ws M3 ∧ lcM (Wt M1 ws) g c e M1.length (wipeR ρ vs) (items.drop (i + 1)) M3 = some M', fun _ z => z, fun y H3' hy => ?_⟩
          obtain ⟨R4, x4, r4⟩ := yl y H3' hy
          have er4 := (er.ext (x1.trans (x13.trans x4))).wipe (vs := vs)
          refine hg _ H3' α' _ M3 y items[i] ρ4 M4 _ R4 er4 r4 e4 fun σ5 α5 H5 R5 x5 er5 k5 => ⟨?_, ?_⟩
          · refine wipe_keep ?_ hsl k5
            rw [er5.1, hlg _ _ _ _ _ e4, wipeR_length, er.1]
          · split at e3
            · rename_i M6 e6
              split at e3
              · rename_i yv M7 e7
                split at e3
                · rename_i w8 M8 e8
                  split at e3
                  · rename_i hw
                    refine hc σ5 H5 α5 ρ4 M4 true M6 _ R5 er5 e6 fun α6 H6 R6 x6 => ?_
                    rw [if_pos rfl]
                    refine he σ5 H6 α6 ρ4 M6 yv M7 _ R6 (er5.ext x6) e7 fun v7 α7 H7 R7 x7 r7 => ?_
                    have xx := x3.trans (x4.trans (x5.trans (x6.trans x7)))
                    obtain ⟨acc, ha, hz, R8, x8⟩ := lc_put R7 (xx.pre _ _ hD') r7 e8
                    exact ⟨acc, ha, hz, _, by omega, rfl, hlt, α7, M8, R8, xx.trans x8, hw, e3⟩
                  · cases e3
                · cases e3
              · cases e3
            · rename_i M6 e6
              split at e3
              · rename_i hw
                refine hc σ5 H5 α5 ρ4 M4 false M6 _ R5 er5 e6 fun α6 H6 R6 x6 => ?_
                rw [if_neg (by decide)]
                exact ⟨_, by omega, rfl, hlt, α6, M6, R6, x3.trans (x4.trans (x5.trans x6)), hw, e3⟩
              · cases e3
            · cases e3
        · cases e3
      · have hi' : i = items.length := by omega
        subst hi'
        rw [List.drop_length] at e3
        cases e3
        obtain ⟨_, st⟩ := ok items.length α' _ H' R3 x13 w3
        exact .inl ⟨st (Nat.le_refl _), P _ α' H' R3 (x1.trans x13) (.cell (x3.pre _ _ hD'))⟩
    · cases h
  · cases h
end
def tYesM : MT := fun _ M => some (true, M)
structure QTs (X : Cx) (es : List Expr) (m : MT) : Prop where
  ex : ∃ t, PTs X es t ∧ SimT X.K t m
theorem QTs.can {X : Cx} {es : List Expr} {m : MT} (h : QTs X es m) : PTs X es (tmT X.K m) := by
  obtain ⟨t, h1, h2⟩ := h.ex
  exact ⟨fun pins s σ H Q I ⟨α, ρ, M, u, M', R, er, e, P⟩ => h1.run pins s σ H Q I (h2 σ H α ρ M u M' Q R er e P)⟩
section
variable {X : Cx}
theorem qts_nil : QTs X [] tYesM := ⟨_, pts_nil, fun σ H α ρ M u M' Q R er e P => by cases e; exact P α H R Ext.refl⟩
theorem qts_one {c : Expr} {m : MT} (h : QT X c m) : QTs X [c] m := let ⟨t, h1, h2⟩ := h.ex; ⟨t, pts_one h1, h2⟩
theorem cells_lt {u : U} {M : Mem} {us : List U} (h : seqOf M u = some us) : ∀ i ∈ cellsOf u, i < M.length := by
  intro i hi
  cases u with
  | cell c =>
    have : i = c := by simpa [cellsOf] using hi
    subst this
    unfold seqOf at h
    simp only [tupOf, lstOf] at h
    by_cases hl : i < M.length
    · exact hl
    · rw [List.getElem?_eq_none (by omega)] at h
      cases h
  | _ => cases hi
/-- what is walked watches cells that are there -/
def WsOk (mi : MI) : Prop := ∀ ρ M items ws M', mi ρ M = some ((items, ws), M') → ∀ i ∈ ws, i < M'.length
theorem ws_seq {me : ME} : WsOk (iSeq me) := fun ρ M items ws M' h => by
  unfold iSeq at h
  split at h
  · split at h
    · rename_i e
      cases h
      exact cells_lt e
    · cases h
  · cases h
theorem ws_txt {me : ME} : WsOk (iTxt me) := fun ρ M items ws M' h => by
  unfold iTxt at h
  split at h
  · cases h
    exact fun i hi => by cases hi
  · cases h
theorem ws_rg1 {m : MA} : WsOk (iRg1 m) := fun ρ M items ws M' h => by
  unfold iRg1 at h
  split at h
  · split at h
    · cases h
      exact fun i hi => by cases hi
    · cases h
  · cases h
theorem qe_lc {elt tg iter : Expr} {ifs : List Expr} {scope : Scope} {own : List (Str × Nat)} {pos : Pos} {mi : MI} {sl : List Nat} {g : MG} {c : MT} {e : ME} (hc : X.calm = true) (hN : X.N.Nodup) (hi : QI X tg iter mi) (hw : WsOk mi) (ok : BlkOk X.N X.env.scope scope own) (hlg : LenG g) (hsl : ∀ i ∈ sl, i ∈ own.map (·.2))
    (hg : ∀ (s : Shared) (H : Hp) (C : Addr) (cl : List (Str × Addr)) (fp : List Addr), QG (X.blk s H scope (compEnvC scope cl C X.env) fp) tg sl g) (ht : ∀ (s : Shared) (H : Hp) (C : Addr) (cl : List (Str × Addr)) (fp : List Addr), QTs (X.blk s H scope (compEnvC scope cl C X.env) fp) ifs c)
    (he : ∀ (s : Shared) (H : Hp) (C : Addr) (cl : List (Str × Addr)) (fp : List Addr), QE (X.blk s H scope (compEnvC scope cl C X.env) fp) elt e) (hs : ∀ x, foldedSetIterable iter X.env x = pure x := by intro _; rfl) :
    QE X (.ListComp elt [⟨tg, iter, ifs, 0⟩] scope pos) (eLc mi g c e (own.map (·.2))) := by
  obtain ⟨t, h1, h2⟩ := hi.ex
  exact ⟨_, pe_lc (g := tmG X.K sl g) (tt := tmT X.K c) (te := tmE X.K e) hc hN h1 ok (fun s H C cl fp => (hg s H C cl fp).can) (fun s H C cl fp => (ht s H C cl fp).can) (fun s H C cl fp => (he s H C cl fp).can) hs,
    sim_lc h2 (sim_tmG sl g) hlg (sim_tmT c) (sim_tmE e) hsl hw⟩
theorem qs_setLc {i : Nat} {y : Str} {py : Pos} {elt tg iter : Expr} {ifs : List Expr} {scope : Scope} {own : List (Str × Nat)} {pos spos : Pos} {mi : MI} {sl : List Nat} {g : MG} {c : MT} {e : ME} (hc : X.calm = true) (hN : X.N.Nodup) (hy : X.N[i]? = some y) (hyl : X.env.scope.names.lookup y = some .local)
    (hsw : swapsWith (.ListComp elt [⟨tg, iter, ifs, 0⟩] scope pos) (some (.Name y py)) spos.line X.env = pure true) (hi : QI X tg iter mi) (hw : WsOk mi) (ok : BlkOk X.N X.env.scope scope own) (hlg : LenG g) (hsl : ∀ i ∈ sl, i ∈ own.map (·.2))
    (hg : ∀ (s : Shared) (H : Hp) (C : Addr) (cl : List (Str × Addr)) (fp : List Addr), QG (X.blk s H scope (compEnvC scope cl C X.env) fp) tg sl g) (ht : ∀ (s : Shared) (H : Hp) (C : Addr) (cl : List (Str × Addr)) (fp : List Addr), QTs (X.blk s H scope (compEnvC scope cl C X.env) fp) ifs c)
    (he : ∀ (s : Shared) (H : Hp) (C : Addr) (cl : List (Str × Addr)) (fp : List Addr), QE (X.blk s H scope (compEnvC scope cl C X.env) fp) elt e) (hs : ∀ x, foldedSetIterable iter X.env x = pure x := by intro _; rfl) :
    QS X (.Assign [.Name y py] (.ListComp elt [⟨tg, iter, ifs, 0⟩] scope pos) spos) (sAsg (eLc mi g c e (own.map (·.2))) (gNm i)) := by
  obtain ⟨t, h1, h2⟩ := hi.ex
  exact ⟨_, ps_setLc (g := tmG X.K sl g) (tt := tmT X.K c) (te := tmE X.K e) hc hN hy hyl hsw h1 ok (fun s H C cl fp => (hg s H C cl fp).can) (fun s H C cl fp => (ht s H C cl fp).can) (fun s H C cl fp => (he s H C cl fp).can) hs,
    sim_asg (sim_lc h2 (sim_tmG sl g) hlg (sim_tmT c) (sim_tmE e) hsl hw) sim_gname⟩
end

/-! ### defs -/
/-- what a def does: k parameters, n names in all -/
def mkFn (k n : Nat) (m : MS) : FA := fun us M => if us.length = k then (match m (us.map some ++ List.replicate (n - k) none) M with
  | some (.rt u, M') => some (u, M')
  | some (.nx _, M') => some (.dat .none, M')
  | _ => none) else none
theorem er_start {K : PySem.W.Frag} {α : List Addr} {G : Hp} {N : List Str} {vs : List V} {us : List U} {k : Nat} (hk : us.length = k) (r : VRs K α G vs us) : ER K α G (start N vs) (us.map some ++ List.replicate (N.length - k) none) := by
  have hl := r.length
  refine ⟨by unfold L2.start; simp [hl, hk], fun i u e => ?_⟩
  by_cases hi : i < us.length
  · rw [List.getElem?_append_left (by simpa using hi), List.getElem?_map] at e
    obtain ⟨w, h1, h2⟩ := Option.map_eq_some_iff.mp e
    cases h2
    obtain ⟨v, h3, h4⟩ := r.get i h1
    refine ⟨v, ?_, h4⟩
    unfold L2.start
    rw [List.getElem?_append_left (by simp; omega), List.getElem?_map, h3]
    rfl
  · rw [List.getElem?_append_right (by simpa using hi), List.getElem?_replicate] at e
    split at e <;> cases e
section
variable {P : Program} {w : World} {K : PySem.W.Frag} {mg : Str → Option Value} {base : Heap}
theorem body_of {X : Cx} {N : List Str} {n k : Nat} {st : List Stmt} {m : MS} {vs : List V} {H : Hp} {Q : VK} {E : XK} (hK : X.K = K) (hn : N.length = n) (h : QSs X st m) (hs : spOf K (mkFn k n m) vs H Q E) :
    ∃ t, PSs X st t ∧ t { nx := fun _ H' => Q .non H', rt := Q } (start N vs) H := by
  subst hK hn
  obtain ⟨α, M, us, u, M', R, rv, e, Pq⟩ := hs
  obtain ⟨t, h1, h2⟩ := h.ex
  refine ⟨t, h1, ?_⟩
  unfold mkFn at e
  split at e
  · rename_i hk
    have er := er_start (N := N) hk rv
    split at e
    · rename_i u' M1 e1
      cases e
      exact h2 _ H α _ M _ _ _ R er e1 fun α' H' R' x v r => Pq v α' H' R' x r
    · rename_i ρ' M1 e1
      cases e
      exact h2 _ H α _ M _ _ _ R er e1 fun α' H' R' x σ' _ => Pq .non α' H' R' x (.dat .non)
    · cases e
  · cases e
theorem sp_len {k n : Nat} {m : MS} {vs : List V} {H : Hp} {Q : VK} {E : XK} (hs : spOf K (mkFn k n m) vs H Q E) : vs.length = k := by
  obtain ⟨α, M, us, u, M', R, rv, e, _⟩ := hs
  unfold mkFn at e
  split at e
  · rename_i hk
    rw [rv.length]
    exact hk
  · cases e
theorem fn_ok {x qual : Str} {st : Stmt} {f : Addr} {fd : FuncData} {N ps : List Str} {k n np : Nat} {m : MS} (F : Fun K x qual st f fd) (S : FnScope N ps (defScope st)) (hn : N.length = n) (hp : ps.length = np)
    (body : ∀ (cdv : Value) (A : Around) (outer : List PySem.Env) (s : Shared) (H : Hp) (E : XK), Room k (A.deeper (envOfC qual (defScope st) s.heap.objs.size f cdv)) →
      QSs (cxOf CX0 P w K mg base N qual (defScope st) f cdv A outer s H E).nox (defBody st) m) :
    FnOk P w K mg base CX0 (k + 1) f fd ps (spOf K (mkFn np n m)) := by
  refine F.ok S (fun vs H Q E h => by rw [hp]; exact sp_len h) fun cdv A outer s H vs Q E hr h => ?_
  exact body_of rfl hn (body cdv A outer s H E hr) h
theorem fn_okG {x qual : Str} {st : Stmt} {f : Addr} {fd : FuncData} {N ps : List Str} {k n np : Nat} {m : MS} (F : Fun K x qual st f fd) (S : FnScope N ps (defScope st)) (hn : N.length = n) (hp : ps.length = np)
    (body : ∀ (cdv : Value) (A : Around) (outer : List PySem.Env) (s : Shared) (H : Hp) (E : XK), A.guards = some [] → Room k (A.deeper (envOfC qual (defScope st) s.heap.objs.size f cdv)) →
      QSs (cxOf CX0 P w K mg base N qual (defScope st) f cdv A outer s H E).nox (defBody st) m) :
    FnG P w K mg base (k + 1) f fd ps (spOf K (mkFn np n m)) := by
  refine okG F S (fun vs H Q E h => by rw [hp]; exact sp_len h) fun cdv A outer s H vs Q E hg hr h => ?_
  exact body_of rfl hn (body cdv A outer s H E hg hr) h
end
/-- the law itself -/
def sp_law (f : FA) (K : PySem.W.Frag) : Sp := fun vs H Q _ => ∃ (a : Addr) (ns : List Int), vs = [.ref a] ∧ SqL K H a (ns.map V.int) ∧ ns.length ≤ 63 ∧ f [.scr ns] [] ≠ none ∧ ∀ u M', f [.scr ns] [] = some (u, M') → u = .dat (.bool true) ∧ ∀ H', Q (.bl true) H'
theorem rp_nil {K : PySem.W.Frag} {H : Hp} : Rp K [] [] H := ⟨rfl, List.nodup_nil, fun i a c h => by simp at h⟩
theorem lv_nil {b : Addr} : ¬ Lv [] [] b := by
  rintro ⟨i, c, h, _⟩
  simp at h
theorem fz_nil {H : Hp} : fzH [] [] H = H := funext fun b => fzH_of lv_nil
theorem sp_law_imp {f : FA} {K : PySem.W.Frag} {vs : List V} {H : Hp} {Q : VK} {E : XK} (h : sp_law f K vs H Q E) : spOf K f vs H Q E := by
  obtain ⟨a, ns, rfl, hs, hl, hne, q⟩ := h
  cases e : f [.scr ns] [] with
  | none => exact absurd e hne
  | some r =>
    obtain ⟨u, M'⟩ := r
    obtain ⟨rfl, q2⟩ := q u M' e
    refine ⟨[], [], _, _, M', rp_nil, .cons (.scr (by rw [fz_nil]; exact hs)) .nil, e, fun v α' H' R' x r => ?_⟩
    rw [vr_bool r]
    exact q2 H'
end Pu

namespace Pu
open PySem PySem.Spec PyProof.Rows L2 Lw
open Classical
section
variable {K : PySem.W.Frag}
noncomputable def lc2M (wt : Mem → Prop) (g : MG) (c : MT) (mi1 : MI) (g1 : MG) (c1 : MT) (e : ME) (vs1 : List Nat) (n : Nat) (ρ : Env) : List U → Mem → Option Mem
  | [], M => some M
  | u :: us, M => match g u ρ M with
    | some (ρ1, M1) => match c ρ1 M1 with
      | some (true, M2) => match mi1 ρ1 M2 with
        | some ((items1, ws1), M3) => match lcM (Wt M3 ws1) g1 c1 e n (wipeR ρ1 vs1) items1 M3 with
          | some M4 => if wt M4 then lc2M wt g c mi1 g1 c1 e vs1 n ρ us M4 else none
          | none => none
        | none => none
      | some (false, M2) => if wt M2 then lc2M wt g c mi1 g1 c1 e vs1 n ρ us M2 else none
      | none => none
    | none => none
noncomputable def eLc2 (mi : MI) (g : MG) (c : MT) (mi1 : MI) (g1 : MG) (c1 : MT) (e : ME) (vs vs1 : List Nat) : ME := fun ρ M => match mi ρ M with
  | some ((items, ws), M1) => match lc2M (Wt M1 ws) g c mi1 g1 c1 e vs1 M1.length (wipeR ρ vs) items (M1 ++ [.lst false []]) with
    | some M2 => some (.cell M1.length, M2)
    | none => none
  | none => none
end
section
variable {X : Cx}
/-- {} as a thing that never changes -/
def eDct0 : ME := fun _ M => some (.dat (.dict []), M)
end
end Pu

namespace Pu
open PySem PySem.Spec PyProof.Rows L2 Lw
open Classical
/-! ### what a plain run gives -/
def W {α : Type} (r : Option (α × Mem)) (Q : α → Mem → Prop) : Prop := ∃ u M', r = some (u, M') ∧ Q u M'
theorem W.mono {α : Type} {r : Option (α × Mem)} {Q Q' : α → Mem → Prop} (h : W r Q) (f : ∀ u M, Q u M → Q' u M) : W r Q' := by
  obtain ⟨u, M, e, q⟩ := h
  exact ⟨u, M, e, f u M q⟩
section
variable {α : Type} {Q : α → Mem → Prop} {QU : U → Mem → Prop} {QB : Bool → Mem → Prop} {QS : Out → Mem → Prop} {QA : List U → Mem → Prop} {ρ : Env} {M : Mem}
theorem w_some {u : α} : W (some (u, M)) Q ↔ Q u M := ⟨fun ⟨_, _, e, q⟩ => by cases e; exact q, fun q => ⟨u, M, rfl, q⟩⟩
theorem w_none : W (none : Option (α × Mem)) Q ↔ False := ⟨fun ⟨_, _, e, _⟩ => (by cases e), fun z => False.elim z⟩
theorem w_if {c : Prop} [Decidable c] {r : Option (α × Mem)} : W (if c then r else none) Q ↔ c ∧ W r Q := by
  by_cases h : c
  · simp [h]
  · simp [h, w_none]
theorem w_var {i : Nat} : W (eVar i ρ M) QU ↔ ∃ u, ρ[i]? = some (some u) ∧ QU u M := by
  unfold eVar
  constructor
  · rintro ⟨u, M', e, q⟩
    split at e
    · rename_i w h
      cases e
      exact ⟨_, h, q⟩
    · cases e
  · rintro ⟨u, e, q⟩
    rw [e]
    exact ⟨u, M, rfl, q⟩
theorem w_c {d : PyData} : W (eC d ρ M) QU ↔ QU (.dat d) M := w_some
theorem w_k {u : U} : W (eK u ρ M) QU ↔ QU u M := w_some
theorem w_op {f : F2} {ma mb : ME} : W (eOp f ma mb ρ M) QU ↔ W (ma ρ M) fun x M1 => W (mb ρ M1) fun y M2 => W (f x y M2) QU := by
  unfold eOp
  constructor
  · rintro ⟨u, M', e, q⟩
    split at e
    · rename_i x M1 e1
      split at e
      · rename_i y M2 e2
        exact ⟨x, M1, e1, y, M2, e2, u, M', e, q⟩
      · cases e
    · cases e
  · rintro ⟨x, M1, e1, y, M2, e2, u, M', e, q⟩
    rw [e1]
    simp only
    rw [e2]
    exact ⟨u, M', e, q⟩
theorem w_of {m : ME} : W (tOf m ρ M) QB ↔ W (m ρ M) fun u M1 => ∃ b, u = .dat (.bool b) ∧ QB b M1 := by
  unfold tOf
  constructor
  · rintro ⟨u, M', e, q⟩
    exact ⟨_, _, asB_some e, u, rfl, q⟩
  · rintro ⟨u, M', e, b, rfl, q⟩
    rw [e]
    exact ⟨b, M', rfl, q⟩
theorem w_trn {m : ME} : W (tTrN m ρ M) QB ↔ W (m ρ M) fun u M1 => ∃ b, truthN M1 u = some b ∧ QB b M1 := by
  unfold tTrN
  constructor
  · rintro ⟨u, M', e, q⟩
    split at e
    · rename_i w M1 e1
      obtain ⟨b, e2, e3⟩ := Option.map_eq_some_iff.mp e
      cases e3
      exact ⟨_, _, e1, _, e2, q⟩
    · cases e
  · rintro ⟨u, M', e, b, e2, q⟩
    rw [e]
    exact ⟨b, M', by simp only [e2]; rfl, q⟩
theorem w_tand {m n : MT} : W (tAndM m n ρ M) QB ↔ W (m ρ M) fun b M1 => match b with
    | true => W (n ρ M1) QB
    | false => QB false M1 := by
  unfold tAndM
  constructor
  · rintro ⟨u, M', e, q⟩
    split at e
    · rename_i M1 e1
      exact ⟨true, M1, e1, u, M', e, q⟩
    · rename_i M1 e1
      cases e
      exact ⟨false, _, e1, q⟩
    · cases e
  · rintro ⟨b, M1, e1, h⟩
    rw [e1]
    cases b with
    | true => exact h
    | false => exact ⟨false, M1, rfl, h⟩
theorem w_tor {m n : MT} : W (tOrM m n ρ M) QB ↔ W (m ρ M) fun b M1 => match b with
    | true => QB true M1
    | false => W (n ρ M1) QB := by
  unfold tOrM
  constructor
  · rintro ⟨u, M', e, q⟩
    split at e
    · rename_i M1 e1
      cases e
      exact ⟨true, _, e1, q⟩
    · rename_i M1 e1
      exact ⟨false, M1, e1, u, M', e, q⟩
    · cases e
  · rintro ⟨b, M1, e1, h⟩
    rw [e1]
    cases b with
    | true => exact ⟨true, M1, rfl, h⟩
    | false => exact h
theorem w_tnot {m : MT} : W (tNotM m ρ M) QB ↔ W (m ρ M) fun b M1 => QB (!b) M1 := by
  unfold tNotM
  constructor
  · rintro ⟨u, M', e, q⟩
    split at e
    · rename_i b M1 e1
      cases e
      exact ⟨b, _, e1, q⟩
    · cases e
  · rintro ⟨b, M1, e1, h⟩
    rw [e1]
    exact ⟨_, M1, rfl, h⟩
theorem w_and {m n : ME} : W (eAnd m n ρ M) QU ↔ W (m ρ M) fun u M1 => ∃ b, u = .dat (.bool b) ∧ match b with
    | true => W (n ρ M1) QU
    | false => QU (.dat (.bool false)) M1 := by
  unfold eAnd
  constructor
  · rintro ⟨u, M', e, q⟩
    split at e
    · rename_i M1 e1
      exact ⟨_, M1, e1, true, rfl, u, M', e, q⟩
    · rename_i M1 e1
      cases e
      exact ⟨_, _, e1, false, rfl, q⟩
    · cases e
  · rintro ⟨w, M1, e1, b, rfl, h⟩
    rw [e1]
    cases b with
    | true => exact h
    | false => exact ⟨_, M1, rfl, h⟩
theorem w_or {m n : ME} : W (eOr m n ρ M) QU ↔ W (m ρ M) fun u M1 => ∃ b, u = .dat (.bool b) ∧ match b with
    | true => QU (.dat (.bool true)) M1
    | false => W (n ρ M1) QU := by
  unfold eOr
  constructor
  · rintro ⟨u, M', e, q⟩
    split at e
    · rename_i M1 e1
      cases e
      exact ⟨_, _, e1, true, rfl, q⟩
    · rename_i M1 e1
      exact ⟨_, M1, e1, false, rfl, u, M', e, q⟩
    · cases e
  · rintro ⟨w, M1, e1, b, rfl, h⟩
    rw [e1]
    cases b with
    | true => exact ⟨_, M1, rfl, h⟩
    | false => exact h
theorem w_not {m : ME} : W (eNot m ρ M) QU ↔ W (m ρ M) fun u M1 => ∃ b, u = .dat (.bool b) ∧ QU (.dat (.bool (!b))) M1 := by
  unfold eNot
  constructor
  · rintro ⟨u, M', e, q⟩
    split at e
    · rename_i b M1 e1
      cases e
      exact ⟨_, _, e1, b, rfl, q⟩
    · cases e
  · rintro ⟨w, M1, e1, b, rfl, h⟩
    rw [e1]
    exact ⟨_, M1, rfl, h⟩
theorem w_neg {m : ME} : W (eNeg m ρ M) QU ↔ W (m ρ M) fun u M1 => ∃ i, u = .dat (.int i) ∧ QU (.dat (.int (-i))) M1 := by
  unfold eNeg
  constructor
  · rintro ⟨u, M', e, q⟩
    split at e
    · rename_i b M1 e1
      cases e
      exact ⟨_, _, e1, b, rfl, q⟩
    · cases e
  · rintro ⟨w, M1, e1, b, rfl, h⟩
    rw [e1]
    exact ⟨_, M1, rfl, h⟩
theorem w_ifx {c : MT} {m n : ME} : W (eIf c m n ρ M) QU ↔ W (c ρ M) fun b M1 => match b with
    | true => W (m ρ M1) QU
    | false => W (n ρ M1) QU := by
  unfold eIf
  constructor
  · rintro ⟨u, M', e, q⟩
    split at e
    · rename_i M1 e1
      exact ⟨true, M1, e1, u, M', e, q⟩
    · rename_i M1 e1
      exact ⟨false, M1, e1, u, M', e, q⟩
    · cases e
  · rintro ⟨b, M1, e1, h⟩
    rw [e1]
    cases b with
    | true => exact h
    | false => exact h
theorem w_nil : W (aNil ρ M) QA ↔ QA [] M := w_some
theorem w_cons {me : ME} {m : MA} : W (aCons me m ρ M) QA ↔ W (me ρ M) fun u M1 => W (m ρ M1) fun us M2 => QA (u :: us) M2 := by
  unfold aCons
  constructor
  · rintro ⟨u, M', e, q⟩
    split at e
    · rename_i x M1 e1
      split at e
      · rename_i y M2 e2
        cases e
        exact ⟨x, M1, e1, y, _, e2, q⟩
      · cases e
    · cases e
  · rintro ⟨x, M1, e1, y, M2, e2, q⟩
    rw [e1]
    simp only
    rw [e2]
    exact ⟨_, _, rfl, q⟩
theorem w_tup {m : MA} : W (eTup m ρ M) QU ↔ W (m ρ M) fun us M1 => us.length ≤ sizeLine ∧ QU (mkTup (frzAll us M1).1) (frzAll us M1).2 := by
  unfold eTup
  constructor
  · rintro ⟨u, M', e, q⟩
    split at e
    · rename_i us M1 e1
      split at e
      · rename_i h
        cases e
        exact ⟨us, M1, e1, h, q⟩
      · cases e
    · cases e
  · rintro ⟨us, M1, e1, h, q⟩
    rw [e1]
    simp only [if_pos h]
    exact ⟨_, _, rfl, q⟩
theorem w_lst {m : MA} : W (eLst m ρ M) QU ↔ W (m ρ M) fun us M1 => us.length ≤ sizeLine ∧ QU (.cell (frzAll us M1).2.length) ((frzAll us M1).2 ++ [.lst true (frzAll us M1).1]) := by
  unfold eLst
  constructor
  · rintro ⟨u, M', e, q⟩
    split at e
    · rename_i us M1 e1
      split at e
      · rename_i h
        cases e
        exact ⟨us, M1, e1, h, q⟩
      · cases e
    · cases e
  · rintro ⟨us, M1, e1, h, q⟩
    rw [e1]
    simp only [if_pos h]
    exact ⟨_, _, rfl, q⟩
theorem w_cb {f : FA} {m : MA} : W (eCB f m ρ M) QU ↔ W (m ρ M) fun us M1 => W (f us M1) QU := by
  unfold eCB
  constructor
  · rintro ⟨u, M', e, q⟩
    split at e
    · rename_i us M1 e1
      exact ⟨us, M1, e1, u, M', e, q⟩
    · cases e
  · rintro ⟨us, M1, e1, u, M', e, q⟩
    rw [e1]
    exact ⟨u, M', e, q⟩
theorem w_ck {f : FA} {g : List U → List U → List U} {m mk : MA} : W (eCK f g m mk ρ M) QU ↔ W (m ρ M) fun us M1 => W (mk ρ M1) fun ws M2 => W (f (g us ws) M2) QU := by
  unfold eCK
  constructor
  · rintro ⟨u, M', e, q⟩
    split at e
    · rename_i x M1 e1
      split at e
      · rename_i y M2 e2
        exact ⟨x, M1, e1, y, M2, e2, u, M', e, q⟩
      · cases e
    · cases e
  · rintro ⟨x, M1, e1, y, M2, e2, u, M', e, q⟩
    rw [e1]
    simp only
    rw [e2]
    exact ⟨u, M', e, q⟩
theorem w_mt {T : String} {f : FM} {mo : ME} {m : MA} : W (eMt T f mo m ρ M) QU ↔ W (mo ρ M) fun x M1 => isTyM T M1 x = true ∧ W (m ρ M1) fun us M2 => W (f x us M2) QU := by
  unfold eMt
  constructor
  · rintro ⟨u, M', e, q⟩
    split at e
    · rename_i x M1 e1
      split at e
      · rename_i h
        split at e
        · rename_i y M2 e2
          exact ⟨x, M1, e1, h, y, M2, e2, u, M', e, q⟩
        · cases e
      · cases e
    · cases e
  · rintro ⟨x, M1, e1, h, y, M2, e2, u, M', e, q⟩
    rw [e1]
    simp only [if_pos h]
    rw [e2]
    exact ⟨u, M', e, q⟩
theorem w_chain {f g : F2} {ma mb mc : ME} : W (eChain f g ma mb mc ρ M) QU ↔ W (ma ρ M) fun x M1 => W (mb ρ M1) fun y M2 => W (f x y M2) fun t M3 => ∃ b, t = .dat (.bool b) ∧ match b with
    | true => W (mc ρ M3) fun z M4 => W (g y z M4) QU
    | false => QU (.dat (.bool false)) M3 := by
  unfold eChain
  constructor
  · rintro ⟨u, M', e, q⟩
    split at e
    · rename_i x M1 e1
      split at e
      · rename_i y M2 e2
        refine ⟨x, M1, e1, y, M2, e2, ?_⟩
        split at e
        · rename_i M3 e3
          split at e
          · rename_i z M4 e4
            exact ⟨_, M3, e3, true, rfl, z, M4, e4, u, M', e, q⟩
          · cases e
        · rename_i M3 e3
          cases e
          exact ⟨_, _, e3, false, rfl, q⟩
        · cases e
      · cases e
    · cases e
  · rintro ⟨x, M1, e1, y, M2, e2, t, M3, e3, b, rfl, h⟩
    rw [e1]
    simp only
    rw [e2]
    simp only
    rw [e3]
    cases b with
    | true =>
      obtain ⟨z, M4, e4, u, M', e, q⟩ := h
      simp only
      rw [e4]
      exact ⟨u, M', e, q⟩
    | false => exact ⟨_, M3, rfl, h⟩
/-- slices -/
theorem w_onone {Q : Option Int → Mem → Prop} : W (oNone ρ M) Q ↔ Q none M := w_some
theorem w_osome {m : ME} {Q : Option Int → Mem → Prop} : W (oSome m ρ M) Q ↔ W (m ρ M) fun u M1 => ∃ i, u = .dat (.int i) ∧ Q (some i) M1 := by
  unfold oSome
  constructor
  · rintro ⟨u, M', e, q⟩
    split at e
    · rename_i b M1 e1
      cases e
      exact ⟨_, _, e1, b, rfl, q⟩
    · cases e
  · rintro ⟨w, M1, e1, b, rfl, h⟩
    rw [e1]
    exact ⟨_, M1, rfl, h⟩
theorem w_sl {ma : ME} {ml mh : MO} : W (eSl ma ml mh ρ M) QU ↔ W (ma ρ M) fun x M1 => W (ml ρ M1) fun l M2 => W (mh ρ M2) fun h M3 => W (slU x l h M3) QU := by
  unfold eSl
  constructor
  · rintro ⟨u, M', e, q⟩
    split at e
    · rename_i x M1 e1
      split at e
      · rename_i y M2 e2
        split at e
        · rename_i z M3 e3
          exact ⟨x, M1, e1, y, M2, e2, z, M3, e3, u, M', e, q⟩
        · cases e
      · cases e
    · cases e
  · rintro ⟨x, M1, e1, y, M2, e2, z, M3, e3, u, M', e, q⟩
    rw [e1]
    simp only
    rw [e2]
    simp only
    rw [e3]
    exact ⟨u, M', e, q⟩
theorem w_rev {ma : ME} : W (eRev ma ρ M) QU ↔ W (ma ρ M) fun x M1 => ∃ us, dtup x = some us ∧ QU (.dat (.tuple us.reverse)) M1 := by
  unfold eRev
  constructor
  · rintro ⟨u, M', e, q⟩
    split at e
    · rename_i x M1 e1
      obtain ⟨us, e2, e3⟩ := Option.map_eq_some_iff.mp e
      cases e3
      exact ⟨x, _, e1, us, e2, q⟩
    · cases e
  · rintro ⟨x, M1, e1, us, e2, q⟩
    rw [e1]
    simp only [e2, Option.map_some]
    exact ⟨_, _, rfl, q⟩
theorem w_dct0 : W (eDct0 ρ M) QU ↔ QU (.dat (.dict [])) M := w_some
/-- statements -/
theorem w_snil : W (sNil ρ M) QS ↔ QS (.nx ρ) M := w_some
theorem w_pass : W (sPass ρ M) QS ↔ QS (.nx ρ) M := w_some
theorem w_retn : W (sRetN ρ M) QS ↔ QS (.rt (.dat .none)) M := w_some
theorem w_seq {m n : MS} : W (sSeq m n ρ M) QS ↔ W (m ρ M) fun o M1 => match o with
    | .nx ρ1 => W (n ρ1 M1) QS
    | o => QS o M1 := by
  unfold sSeq
  constructor
  · rintro ⟨u, M', e, q⟩
    split at e
    · rename_i ρ1 M1 e1
      exact ⟨_, M1, e1, u, M', e, q⟩
    · rename_i hne
      refine ⟨u, M', e, ?_⟩
      cases u with
      | nx ρ1 => exact (hne _ _ e).elim
      | rt u => exact q
      | bk ρ1 => exact q
      | ct ρ1 => exact q
  · rintro ⟨o, M1, e1, h⟩
    rw [e1]
    cases o with
    | nx ρ1 => exact h
    | rt u => exact ⟨_, _, rfl, h⟩
    | bk ρ1 => exact ⟨_, _, rfl, h⟩
    | ct ρ1 => exact ⟨_, _, rfl, h⟩
theorem w_ret {me : ME} : W (sRet me ρ M) QS ↔ W (me ρ M) fun u M1 => QS (.rt u) M1 := by
  unfold sRet
  constructor
  · rintro ⟨u, M', e, q⟩
    split at e
    · rename_i x M1 e1
      cases e
      exact ⟨x, _, e1, q⟩
    · cases e
  · rintro ⟨x, M1, e1, q⟩
    rw [e1]
    exact ⟨_, _, rfl, q⟩
theorem w_drop {me : ME} : W (sDrop me ρ M) QS ↔ W (me ρ M) fun _ M1 => QS (.nx ρ) M1 := by
  unfold sDrop
  constructor
  · rintro ⟨u, M', e, q⟩
    split at e
    · rename_i x M1 e1
      cases e
      exact ⟨x, _, e1, q⟩
    · cases e
  · rintro ⟨x, M1, e1, q⟩
    rw [e1]
    exact ⟨_, _, rfl, q⟩
theorem w_sif {c : MT} {m n : MS} : W (sIf c m n ρ M) QS ↔ W (c ρ M) fun b M1 => match b with
    | true => W (m ρ M1) QS
    | false => W (n ρ M1) QS := by
  unfold sIf
  constructor
  · rintro ⟨u, M', e, q⟩
    split at e
    · rename_i M1 e1
      exact ⟨true, M1, e1, u, M', e, q⟩
    · rename_i M1 e1
      exact ⟨false, M1, e1, u, M', e, q⟩
    · cases e
  · rintro ⟨b, M1, e1, h⟩
    rw [e1]
    cases b with
    | true => exact h
    | false => exact h
theorem w_asg {me : ME} {g : MG} : W (sAsg me g ρ M) QS ↔ W (me ρ M) fun u M1 => W (g u ρ M1) fun ρ' M2 => QS (.nx ρ') M2 := by
  unfold sAsg
  constructor
  · rintro ⟨u, M', e, q⟩
    split at e
    · rename_i x M1 e1
      split at e
      · rename_i y M2 e2
        cases e
        exact ⟨x, M1, e1, y, _, e2, q⟩
      · cases e
    · cases e
  · rintro ⟨x, M1, e1, y, M2, e2, q⟩
    rw [e1]
    simp only
    rw [e2]
    exact ⟨_, _, rfl, q⟩
theorem w_gnm {i : Nat} {u : U} {QG : Env → Mem → Prop} : W (gNm i u ρ M) QG ↔ QG (ρ.set i (some u)) M := w_some
theorem w_par {i j : Nat} {m : MA} : W (sPar i j m ρ M) QS ↔ W (m ρ M) fun us M1 => ∃ u w, us = [u, w] ∧ QS (.nx ((ρ.set i (some u)).set j (some w))) M1 := by
  unfold sPar
  constructor
  · rintro ⟨u, M', e, q⟩
    split at e
    · rename_i x y M1 e1
      cases e
      exact ⟨_, _, e1, x, y, rfl, q⟩
    · cases e
  · rintro ⟨us, M1, e1, x, y, rfl, q⟩
    rw [e1]
    exact ⟨_, _, rfl, q⟩
theorem w_gtp {n : Nat} {m : MGs} {u : U} {QG : Env → Mem → Prop} : W (gTp n m u ρ M) QG ↔ ∃ us, tupK u = some us ∧ us.length = n ∧ W (m us ρ M) QG := by
  unfold gTp
  constructor
  · rintro ⟨w, M', e, q⟩
    split at e
    · rename_i us e1
      split at e
      · rename_i h
        exact ⟨us, e1, h, w, M', e, q⟩
      · cases e
    · cases e
  · rintro ⟨us, e1, h, w, M', e, q⟩
    rw [e1]
    simp only [if_pos h]
    exact ⟨w, M', e, q⟩
theorem w_gcn {m : MG} {n : MGs} {u : U} {us : List U} {QG : Env → Mem → Prop} : W (gCn m n (u :: us) ρ M) QG ↔ W (m u ρ M) fun ρ1 M1 => W (n us ρ1 M1) QG := by
  unfold gCn
  constructor
  · rintro ⟨w, M', e, q⟩
    simp only at e
    split at e
    · rename_i ρ1 M1 e1
      exact ⟨ρ1, M1, e1, w, M', e, q⟩
    · cases e
  · rintro ⟨ρ1, M1, e1, w, M', e, q⟩
    simp only [e1]
    exact ⟨w, M', e, q⟩
theorem w_gn0 {QG : Env → Mem → Prop} : W (gN0 [] ρ M) QG ↔ QG ρ M := w_some
theorem w_aug {i : Nat} {me : ME} : W (sAug i me ρ M) QS ↔ ∃ a, ρ[i]? = some (some (.dat (.int a))) ∧ W (me ρ M) fun u M1 => ∃ b, u = .dat (.int b) ∧ QS (.nx (ρ.set i (some (.dat (.int (a + b)))))) M1 := by
  unfold sAug
  constructor
  · rintro ⟨u, M', e, q⟩
    split at e
    · rename_i a ea
      split at e
      · rename_i b M1 e1
        cases e
        exact ⟨a, ea, _, _, e1, b, rfl, q⟩
      · cases e
    · cases e
  · rintro ⟨a, ea, u, M1, e1, b, rfl, q⟩
    rw [ea]
    simp only
    rw [e1]
    exact ⟨_, _, rfl, q⟩
theorem w_fn {k n : Nat} {m : MS} {us : List U} : W (mkFn k n m us M) QU ↔ us.length = k ∧ W (m (us.map some ++ List.replicate (n - k) none) M) fun o M1 => match o with
    | .rt u => QU u M1
    | .nx _ => QU (.dat .none) M1
    | _ => False := by
  unfold mkFn
  constructor
  · rintro ⟨u, M', e, q⟩
    split at e
    · rename_i h
      refine ⟨h, ?_⟩
      split at e
      · rename_i e1
        cases e
        exact ⟨_, _, e1, q⟩
      · rename_i e1
        cases e
        exact ⟨_, _, e1, q⟩
      · cases e
    · cases e
  · rintro ⟨h, o, M1, e1, q⟩
    rw [if_pos h, e1]
    cases o with
    | rt u => exact ⟨_, _, rfl, q⟩
    | nx u => exact ⟨_, _, rfl, q⟩
    | bk _ => exact q.elim
    | ct _ => exact q.elim
theorem w_gsb {mo mi : ME} {u : U} {QG : Env → Mem → Prop} : W (gSb mo mi u ρ M) QG ↔ W (mo ρ M) fun o M1 => W (mi ρ M1) fun i M2 => ∃ k c f ws j, i = .dat (.int k) ∧ o = .cell c ∧ (frzU u M2).2[c]? = some (.lst f ws) ∧ ixN ws.length k = some j ∧ QG ρ ((frzU u M2).2.set c (.lst f (ws.set j (frzU u M2).1))) := by
  unfold gSb
  constructor
  · rintro ⟨w, M', e, q⟩
    split at e
    · rename_i o M1 e1
      split at e
      · rename_i k M2 e2
        split at e
        · rename_i c
          split at e
          · rename_i f ws hc
            split at e
            · rename_i j hj
              cases e
              exact ⟨_, M1, e1, _, M2, e2, k, c, f, ws, j, rfl, rfl, hc, hj, q⟩
            · cases e
          · cases e
        · cases e
      · cases e
    · cases e
  · rintro ⟨o, M1, e1, i, M2, e2, k, c, f, ws, j, rfl, rfl, hc, hj, q⟩
    rw [e1]
    simp only
    rw [e2]
    simp only
    rw [hc]
    simp only
    rw [hj]
    exact ⟨_, _, rfl, q⟩
/-- loops -/
theorem w_for {mi : MI} {g : MG} {b : MS} : W (sFor mi g b ρ M) QS ↔ W (mi ρ M) fun it M1 => W (forM (Wt M1 it.2) g b it.1 ρ M1) QS := by
  unfold sFor
  constructor
  · rintro ⟨w, M', e, q⟩
    split at e
    · rename_i items ws M1 e1
      exact ⟨_, M1, e1, w, M', e, q⟩
    · cases e
  · rintro ⟨⟨items, ws⟩, M1, e1, w, M', e, q⟩
    rw [e1]
    exact ⟨w, M', e, q⟩
theorem w_iseq {me : ME} {Q : List U × List Nat → Mem → Prop} : W (iSeq me ρ M) Q ↔ W (me ρ M) fun u M1 => ∃ us, seqOf M1 u = some us ∧ Q (us, cellsOf u) M1 := by
  unfold iSeq
  constructor
  · rintro ⟨w, M', e, q⟩
    split at e
    · rename_i u M1 e1
      split at e
      · rename_i us e2
        cases e
        exact ⟨u, _, e1, us, e2, q⟩
      · cases e
    · cases e
  · rintro ⟨u, M1, e1, us, e2, q⟩
    rw [e1]
    simp only
    rw [e2]
    exact ⟨_, _, rfl, q⟩
theorem w_irg1 {m : MA} {Q : List U × List Nat → Mem → Prop} : W (iRg1 m ρ M) Q ↔ W (m ρ M) fun us M1 => ∃ j, us = [.dat (.int j)] ∧ (-(2 ^ 62) ≤ j ∧ j < 2 ^ 62) ∧ Q (rangeU 0 j.toNat, []) M1 := by
  unfold iRg1
  constructor
  · rintro ⟨w, M', e, q⟩
    split at e
    · rename_i j M1 e1
      split at e
      · rename_i h
        cases e
        exact ⟨_, _, e1, j, rfl, h, q⟩
      · cases e
    · cases e
  · rintro ⟨us, M1, e1, j, rfl, h, q⟩
    rw [e1]
    simp only [if_pos h]
    exact ⟨_, _, rfl, q⟩
theorem w_lc {mi : MI} {g : MG} {c : MT} {e : ME} {vs : List Nat} : W (eLc mi g c e vs ρ M) QU ↔ W (mi ρ M) fun it M1 => ∃ M2, lcM (Wt M1 it.2) g c e M1.length (wipeR ρ vs) it.1 (M1 ++ [.lst false []]) = some M2 ∧ QU (.cell M1.length) M2 := by
  unfold eLc
  constructor
  · rintro ⟨w, M', h, q⟩
    split at h
    · rename_i items ws M1 e1
      split at h
      · rename_i M2 e2
        cases h
        exact ⟨_, M1, e1, _, e2, q⟩
      · cases h
    · cases h
  · rintro ⟨⟨items, ws⟩, M1, e1, M2, e2, q⟩
    rw [e1]
    simp only
    rw [e2]
    exact ⟨_, _, rfl, q⟩
theorem w_lc2 {mi mi1 : MI} {g g1 : MG} {c c1 : MT} {e : ME} {vs vs1 : List Nat} : W (eLc2 mi g c mi1 g1 c1 e vs vs1 ρ M) QU ↔ W (mi ρ M) fun it M1 => ∃ M2, lc2M (Wt M1 it.2) g c mi1 g1 c1 e vs1 M1.length (wipeR ρ vs) it.1 (M1 ++ [.lst false []]) = some M2 ∧ QU (.cell M1.length) M2 := by
  unfold eLc2
  constructor
  · rintro ⟨w, M', h, q⟩
    split at h
    · rename_i items ws M1 e1
      split at h
      · rename_i M2 e2
        cases h
        exact ⟨_, M1, e1, _, e2, q⟩
      · cases h
    · cases h
  · rintro ⟨⟨items, ws⟩, M1, e1, M2, e2, q⟩
    rw [e1]
    simp only
    rw [e2]
    exact ⟨_, _, rfl, q⟩
end
end Pu

namespace Pu
open PySem PySem.Spec PyProof.Rows L2 Lw
open Classical
section
variable {M : Mem} {Q : U → Mem → Prop} {i j : Int} {d e : PyData} {x y : Str}
theorem add_ii : addU (.dat (.int i)) (.dat (.int j)) M = some (.dat (.int (i + j)), M) := rfl
theorem sub_ii : subU (.dat (.int i)) (.dat (.int j)) M = some (.dat (.int (i - j)), M) := rfl
theorem add_ss : W (addU (.dat (.str x)) (.dat (.str y)) M) Q ↔ x.length + y.length ≤ sizeLine ∧ Q (.dat (.str (x ++ y))) M := by
  have e : addU (.dat (.str x)) (.dat (.str y)) M = if x.length + y.length ≤ sizeLine then some (.dat (.str (x ++ y)), M) else none := by
    unfold addU orF fNI fSS addS
    simp only [Option.map]
    by_cases h : x.length + y.length ≤ sizeLine
    · simp [h]
    · simp [h, catT, catL, dtup, lstOf]
  rw [e, w_if, w_some]
theorem add_tt {ds es : List PyData} : W (addU (.dat (.tuple ds)) (.dat (.tuple es)) M) Q ↔ ds.length + es.length ≤ sizeLine ∧ Q (.dat (.tuple (ds ++ es))) M := by
  have e : addU (.dat (.tuple ds)) (.dat (.tuple es)) M = if ds.length + es.length ≤ sizeLine then some (.dat (.tuple (ds ++ es)), M) else none := by
    unfold addU orF fNI fSS catT
    simp only [dtup]
    by_cases h : ds.length + es.length ≤ sizeLine
    · simp only [if_pos h]
    · simp [h, catL, lstOf]
  rw [e, w_if, w_some]
theorem mul_ii : W (mulU (.dat (.int i)) (.dat (.int j)) M) Q ↔ CMulW i j ∧ Q (.dat (.int (i * j))) M := by
  have e : mulU (.dat (.int i)) (.dat (.int j)) M = if CMulW i j then some (.dat (.int (i * j)), M) else none := by
    unfold mulU orF fI
    by_cases h : CMulW i j
    · simp [h]
    · simp [h, mulS, repT, repL, dtup, lstOf]
  rw [e, w_if, w_some]
theorem mul_ti {ds : List PyData} : W (mulU (.dat (.tuple ds)) (.dat (.int j)) M) Q ↔ (ds ≠ [] ∧ 0 ≤ j ∧ j ≤ 1000 ∧ ds.length ≤ 1000) ∧ Q (.dat (.tuple (List.replicate j.toNat ds).flatten)) M := by
  have e : mulU (.dat (.tuple ds)) (.dat (.int j)) M = if ds ≠ [] ∧ 0 ≤ j ∧ j ≤ 1000 ∧ ds.length ≤ 1000 then some (.dat (.tuple (List.replicate j.toNat ds).flatten), M) else none := by
    unfold mulU orF
    have h1 : fI CMulW (fun i j => .int (i * j)) (.dat (.tuple ds)) (.dat (.int j)) M = none := rfl
    have h2 : mulS (.dat (.tuple ds)) (.dat (.int j)) M = none := rfl
    simp only [h1, h2]
    unfold repT
    simp only [dtup, ne_eq]
    by_cases h : ¬ds = [] ∧ 0 ≤ j ∧ j ≤ 1000 ∧ ds.length ≤ 1000
    · simp [h]
    · simp [h, repL, lstOf]
  rw [e, w_if, w_some]
theorem fdiv_ii : W (fdivU (.dat (.int i)) (.dat (.int j)) M) Q ↔ CDivW i j ∧ Q (.dat (.int (i / j))) M := by
  unfold fdivU fI
  simp only
  rw [w_if, w_some]
theorem mod_ii : W (modU (.dat (.int i)) (.dat (.int j)) M) Q ↔ 0 < j ∧ Q (.dat (.int (i % j))) M := by
  unfold modU fI
  simp only
  rw [w_if, w_some]
theorem pow_ii : W (powU (.dat (.int i)) (.dat (.int j)) M) Q ↔ CPowW i j ∧ Q (.dat (.int (i ^ j.toNat))) M := by
  unfold powU fI
  simp only
  rw [w_if, w_some]
theorem lt_ii : ltU (.dat (.int i)) (.dat (.int j)) M = some (.dat (.bool (decide (i < j))), M) := rfl
theorem le_ii : leU (.dat (.int i)) (.dat (.int j)) M = some (.dat (.bool (decide (i ≤ j))), M) := rfl
theorem gt_ii : gtU (.dat (.int i)) (.dat (.int j)) M = some (.dat (.bool (decide (j < i))), M) := rfl
theorem ge_ii : geU (.dat (.int i)) (.dat (.int j)) M = some (.dat (.bool (decide (j ≤ i))), M) := rfl
theorem eq_ds : eqU (.dat d) (.dat (.str y)) M = some (.dat (.bool (strIs y d)), M) := rfl
theorem eq_ii : eqU (.dat (.int i)) (.dat (.int j)) M = some (.dat (.bool (decide (i = j))), M) := by
  have e : eqU (.dat (.int i)) (.dat (.int j)) M = some (.dat (.bool (i == j)), M) := rfl
  rw [e]
  congr 4
theorem ne_ii : neU (.dat (.int i)) (.dat (.int j)) M = some (.dat (.bool (!decide (i = j))), M) := by
  have e : neU (.dat (.int i)) (.dat (.int j)) M = some (.dat (.bool (!(i == j))), M) := rfl
  rw [e]
  congr 4
/-- texts that are told apart: of any signs -/
theorem ne_ss : neU (.dat (.str x)) (.dat (.str y)) M = some (.dat (.bool (!decide (x = y))), M) := rfl
theorem dtup_t {ds : List PyData} : dtup (.dat (.tuple ds)) = some ds := rfl
theorem eq_tt0 {ds : List PyData} : eqU (.dat (.tuple ds)) (.dat (.tuple [])) M = some (.dat (.bool (decide (ds.length = 0))), M) := by
  have h1 : eqDS (.dat (.tuple ds)) (.dat (.tuple [])) M = none := rfl
  have h2 : eqSD (.dat (.tuple ds)) (.dat (.tuple [])) M = none := rfl
  unfold eqU orF
  simp only [h1, h2]
  unfold eqT0 tupOf
  simp only [List.map_nil, List.length_map, Bool.false_eq_true, if_false]
theorem ne_tt0 {ds : List PyData} : neU (.dat (.tuple ds)) (.dat (.tuple [])) M = some (.dat (.bool (!decide (ds.length = 0))), M) := by
  unfold neU orF neSS eqT0 tupOf
  simp only [List.map_nil, List.length_map, if_true]
theorem is_non : isF false (.dat d) (.dat .none) M = some (.dat (.bool (isNonU (.dat d))), M) := rfl
/-- items -/
theorem atI_map {α β : Type} {f : α → β} {xs : List α} : atI (xs.map f) i = (atI xs i).map f := by
  unfold atI
  rw [List.length_map]
  cases ixN xs.length i with
  | none => rfl
  | some k => simp [List.getElem?_map]
theorem ix_t {ds : List PyData} : W (ixU (.dat (.tuple ds)) (.dat (.int i)) M) Q ↔ ∃ d, atI ds i = some d ∧ Q (.dat d) M := by
  have e : ixU (.dat (.tuple ds)) (.dat (.int i)) M = (atI ds i).map fun d => (.dat d, M) := by
    unfold ixU
    simp only [seqOf, tupOf, atI_map]
    cases atI ds i <;> rfl
  rw [e]
  constructor
  · rintro ⟨u, M', h, q⟩
    obtain ⟨d, h1, h2⟩ := Option.map_eq_some_iff.mp h
    cases h2
    exact ⟨d, h1, q⟩
  · rintro ⟨d, h, q⟩
    exact ⟨_, _, by rw [h]; rfl, q⟩
theorem ix_seq' {a : U} {us : List U} (h : seqOf M a = some us) : W (ixU a (.dat (.int i)) M) Q ↔ ∃ u, atI us i = some u ∧ Q u M := by
  have e : ixU a (.dat (.int i)) M = (atI us i).map fun u => (u, M) := by
    unfold ixU
    simp only [h]
  rw [e]
  constructor
  · rintro ⟨u, M', h, q⟩
    obtain ⟨d, h1, h2⟩ := Option.map_eq_some_iff.mp h
    cases h2
    exact ⟨_, h1, q⟩
  · rintro ⟨d, h, q⟩
    exact ⟨_, _, by rw [h]; rfl, q⟩
theorem ix_s : W (ixU (.dat (.str x)) (.dat (.int i)) M) Q ↔ x.length ≤ sizeLine ∧ ∃ c, atI x.cps.toList i = some c ∧ Q (.dat (.str ⟨#[c]⟩)) M := by
  have e : ixU (.dat (.str x)) (.dat (.int i)) M = if x.length ≤ sizeLine then (atI x.cps.toList i).map fun c => (.dat (.str ⟨#[c]⟩), M) else none := rfl
  rw [e, w_if]
  constructor
  · rintro ⟨hz, u, M', h, q⟩
    obtain ⟨d, h1, h2⟩ := Option.map_eq_some_iff.mp h
    cases h2
    exact ⟨hz, _, h1, q⟩
  · rintro ⟨hz, d, h, q⟩
    exact ⟨hz, _, _, by rw [h]; rfl, q⟩
theorem cutU_map {ds : List PyData} {lo hi : Option Int} : cutU (ds.map U.dat) lo hi = (Lw.cutD ds lo hi).map U.dat := by
  unfold cutU Lw.cutD
  simp only [List.length_map, List.map_take, List.map_drop]
theorem sl_t {ds : List PyData} {lo hi : Option Int} : slU (.dat (.tuple ds)) lo hi M = some (.dat (.tuple (Lw.cutD ds lo hi)), M) := by
  unfold slU
  simp only [dtup]
theorem sl_s {lo hi : Option Int} : W (slU (.dat (.str x)) lo hi M) Q ↔ x.length ≤ sizeLine ∧ Q (.dat (.str (cutS x lo hi))) M := by
  have e : slU (.dat (.str x)) lo hi M = if x.length ≤ sizeLine then some (.dat (.str (cutS x lo hi)), M) else none := rfl
  rw [e, w_if, w_some]
theorem len_t {ds : List PyData} : lenF [.dat (.tuple ds)] M = some (.dat (.int ds.length), M) := by
  unfold lenF
  simp only [seqOf, tupOf, List.length_map]
theorem len_q {a : U} {us : List U} (h : seqOf M a = some us) : lenF [a] M = some (.dat (.int us.length), M) := by
  unfold lenF
  simp only [h]
theorem len_s : W (lenF [.dat (.str x)] M) Q ↔ x.length ≤ sizeLine ∧ Q (.dat (.int x.length)) M := by
  have e : lenF [.dat (.str x)] M = if x.length ≤ sizeLine then some (.dat (.int x.length), M) else none := rfl
  rw [e, w_if, w_some]
theorem isi_int : isiF [.dat d, .ty "int"] M = some (.dat (.bool (isIntD d)), M) := by cases d <;> rfl
theorem isi_bool : isiF [.dat d, .ty "bool"] M = some (.dat (.bool (isBoolD d)), M) := by cases d <;> rfl
theorem isi_str : isiF [.dat d, .ty "str"] M = some (.dat (.bool (isStrD d)), M) := by cases d <;> rfl
theorem isi_tup : isiF [.dat d, .ty "tuple"] M = some (.dat (.bool (isTupD d)), M) := by cases d <;> rfl
theorem abs_i : absF [.dat (.int i)] M = some (.dat (.int (if i < 0 then -i else i)), M) := rfl
theorem min_ii : min2F [.dat (.int i), .dat (.int j)] M = some (.dat (.int (if j < i then j else i)), M) := rfl
theorem max_ii : max2F [.dat (.int i), .dat (.int j)] M = some (.dat (.int (if j > i then j else i)), M) := rfl
theorem int_i : intF [.dat (.int i)] M = some (.dat (.int i), M) := rfl
theorem int_b {b : Bool} : intF [.dat (.bool b)] M = some (.dat (.int (if b = true then 1 else 0)), M) := rfl
theorem repr_d : W (reprF [.dat d] M) Q ↔ Ok d ∧ Q (.dat (.str d.shown)) M := by
  unfold reprF
  simp only
  rw [w_if, w_some]
theorem list_t {ds : List PyData} : listF [.dat (.tuple ds)] M = some (.cell M.length, M ++ [.lst true (ds.map .dat)]) := rfl
theorem frz_nil : frzAll [] M = ([], M) := rfl
theorem frz_dat {us : List U} : frzAll (.dat d :: us) M = (.dat d :: (frzAll us M).1, (frzAll us M).2) := rfl
theorem mk_nil : mkTup [] = .dat (.tuple []) := rfl
/-- tuples of data -/
theorem mk1 {a : PyData} : mkTup [.dat a] = .dat (.tuple [a]) := rfl
theorem mk2 {a b : PyData} : mkTup [.dat a, .dat b] = .dat (.tuple [a, b]) := rfl
theorem mk3 {a b c : PyData} : mkTup [.dat a, .dat b, .dat c] = .dat (.tuple [a, b, c]) := rfl
theorem seq_cell {c : Nat} {f : Bool} {us : List U} (h : M[c]? = some (.lst f us)) : seqOf M (.cell c) = some us := by
  unfold seqOf
  simp only [tupOf, lstOf, h]
theorem seq_t {ds : List PyData} : seqOf M (.dat (.tuple ds)) = some (ds.map .dat) := rfl
theorem ty_s : isTyM "str" M (.dat (.str x)) = true := rfl
theorem append_d {c : Nat} {f : Bool} {us : List U} (h : M[c]? = some (.lst f us)) (hz : us.length < sizeLine) : appendF (.cell c) [.dat d] M = some (.dat .none, M.set c (.lst f (us ++ [.dat d]))) := by
  unfold appendF frzU
  simp only [h, if_pos hz]
end
/-! ### comprehensions over data, nothing changed in between but what is new -/
/-- cells that were there are as they were -/
def Same0 (M M' : Mem) : Prop := ∃ G, M' = M ++ G
theorem Same0.refl (M : Mem) : Same0 M M := ⟨[], by simp⟩
theorem Same0.trans {M M1 M2 : Mem} (h : Same0 M M1) (g : Same0 M1 M2) : Same0 M M2 := by
  obtain ⟨G, rfl⟩ := h
  obtain ⟨G', rfl⟩ := g
  exact ⟨G ++ G', by rw [List.append_assoc]⟩
theorem Same0.get {M M' : Mem} {i : Nat} {c : Cell} (h : Same0 M M') (e : M[i]? = some c) : M'[i]? = some c := by
  obtain ⟨G, rfl⟩ := h
  rw [List.getElem?_append_left (List.getElem?_eq_some_iff.mp e).1]
  exact e
theorem Same0.wt {M M' : Mem} {ws : List Nat} (h : Same0 M M') (hw : ∀ i ∈ ws, i < M.length) : Wt M ws M' := fun c hc => by
  obtain ⟨G, rfl⟩ := h
  exact List.getElem?_append_left (hw c hc)
/-- all but the hand is as it was -/
structure Fr (h : Nat) (M M' : Mem) : Prop where
  len : M.length ≤ M'.length
  get : ∀ i, i < M.length → i ≠ h → M'[i]? = M[i]?
theorem Fr.refl (h : Nat) (M : Mem) : Fr h M M := ⟨Nat.le_refl _, fun _ _ _ => rfl⟩
theorem Fr.trans {h : Nat} {M M1 M2 : Mem} (x : Fr h M M1) (y : Fr h M1 M2) : Fr h M M2 := ⟨Nat.le_trans x.len y.len, fun i hi n => (y.get i (Nat.lt_of_lt_of_le hi x.len) n).trans (x.get i hi n)⟩
theorem Fr.of0 {h : Nat} {M M' : Mem} (x : Same0 M M') : Fr h M M' := by
  obtain ⟨G, rfl⟩ := x
  exact ⟨by simp, fun i hi _ => List.getElem?_append_left hi⟩
theorem Fr.at {h : Nat} {M M' : Mem} {i : Nat} {c : Cell} (x : Fr h M M') (e : M[i]? = some c) (n : i ≠ h) : M'[i]? = some c := (x.get i (List.getElem?_eq_some_iff.mp e).1 n).trans e
theorem Fr.set {h : Nat} {M : Mem} {c : Cell} : Fr h M (M.set h c) := ⟨by rw [List.length_set]; exact Nat.le_refl _, fun i _ n => List.getElem?_set_ne (Ne.symm n)⟩
theorem Fr.push {h : Nat} {M M' : Mem} {G : Mem} (x : Fr h M M') : Fr h M (M' ++ G) := x.trans (Fr.of0 ⟨G, rfl⟩)
end Pu
namespace Pu
open PySem PySem.Spec PyProof.Rows L2 Lw
theorem sz0 : (0 ≤ sizeLine) = True := eq_true (by decide)
theorem sz1 : (1 ≤ sizeLine) = True := eq_true (by decide)
theorem sz2 : (2 ≤ sizeLine) = True := eq_true (by decide)
theorem sz3 : (3 ≤ sizeLine) = True := eq_true (by decide)
theorem sz4 : (4 ≤ sizeLine) = True := eq_true (by decide)
theorem sz5 : (5 ≤ sizeLine) = True := eq_true (by decide)
theorem sz6 : (6 ≤ sizeLine) = True := eq_true (by decide)
theorem sz7 : (7 ≤ sizeLine) = True := eq_true (by decide)
theorem sz8 : (8 ≤ sizeLine) = True := eq_true (by decide)
theorem sz9 : (9 ≤ sizeLine) = True := eq_true (by decide)
theorem sz10 : (10 ≤ sizeLine) = True := eq_true (by decide)
theorem sz11 : (11 ≤ sizeLine) = True := eq_true (by decide)
theorem sz12 : (12 ≤ sizeLine) = True := eq_true (by decide)
theorem sz13 : (13 ≤ sizeLine) = True := eq_true (by decide)
theorem sz14 : (14 ≤ sizeLine) = True := eq_true (by decide)
theorem sz15 : (15 ≤ sizeLine) = True := eq_true (by decide)
theorem sz16 : (16 ≤ sizeLine) = True := eq_true (by decide)
theorem sz17 : (17 ≤ sizeLine) = True := eq_true (by decide)
theorem sz18 : (18 ≤ sizeLine) = True := eq_true (by decide)
theorem sz19 : (19 ≤ sizeLine) = True := eq_true (by decide)
theorem sz20 : (20 ≤ sizeLine) = True := eq_true (by decide)
theorem sz21 : (21 ≤ sizeLine) = True := eq_true (by decide)
theorem sz22 : (22 ≤ sizeLine) = True := eq_true (by decide)
theorem sz23 : (23 ≤ sizeLine) = True := eq_true (by decide)
theorem sz24 : (24 ≤ sizeLine) = True := eq_true (by decide)
theorem sz25 : (25 ≤ sizeLine) = True := eq_true (by decide)
theorem sz26 : (26 ≤ sizeLine) = True := eq_true (by decide)
theorem sz27 : (27 ≤ sizeLine) = True := eq_true (by decide)
theorem sz28 : (28 ≤ sizeLine) = True := eq_true (by decide)
theorem sz29 : (29 ≤ sizeLine) = True := eq_true (by decide)
theorem sz30 : (30 ≤ sizeLine) = True := eq_true (by decide)
theorem frzU_dat {d : PyData} {M : Mem} : frzU (.dat d) M = (.dat d, M) := rfl
theorem frz_new {M : Mem} {ds : List PyData} {us : List U} : frzAll (.cell M.length :: us) (M ++ [.lst true (ds.map .dat)]) = (.dat (.list ds) :: (frzAll us (M ++ [.fz ds])).1, (frzAll us (M ++ [.fz ds])).2) := by
  have h : (M ++ [Cell.lst true (ds.map .dat)])[M.length]? = some (.lst true (ds.map .dat)) := List.getElem?_concat_length ..
  have e : frzU (.cell M.length) (M ++ [.lst true (ds.map .dat)]) = (.dat (.list ds), M ++ [.fz ds]) := by
    unfold frzU
    simp only [h, allDat_map]
    congr 1
    rw [List.set_append_right (h := Nat.le_refl _)]
    simp
  show (let (u', M1) := frzU (.cell M.length) (M ++ [.lst true (ds.map .dat)]); let (us', M2) := frzAll us M1; (u' :: us', M2)) = _
  rw [e]
theorem frz_new0 {M : Mem} {us : List U} : frzAll (.cell M.length :: us) (M ++ [.lst true []]) = (.dat (.list []) :: (frzAll us (M ++ [.fz []])).1, (frzAll us (M ++ [.fz []])).2) := frz_new (ds := [])
end Pu

namespace Pu
open PySem PySem.Spec PyProof.Rows L2 Lw
open Classical
/-- for, by an invariant -/
theorem for_inv {wt : Mem → Prop} {g : MG} {b : MS} {Q : Out → Mem → Prop} (I : Nat → Env → Mem → Prop) :
    ∀ (items : List U) (k : Nat) (ρ : Env) (M : Mem), I k ρ M →
      (∀ (j : Nat) (u : U) (ρ : Env) (M : Mem), items[j]? = some u → I (k + j) ρ M → W (g u ρ M) fun ρ1 M1 => W (b ρ1 M1) fun o M2 => match o with
        | .nx ρ2 => wt M2 ∧ I (k + j + 1) ρ2 M2
        | .ct ρ2 => wt M2 ∧ I (k + j + 1) ρ2 M2
        | .bk ρ2 => Q (.nx ρ2) M2
        | .rt v => Q (.rt v) M2) → (∀ ρ M, I (k + items.length) ρ M → Q (.nx ρ) M) → W (forM wt g b items ρ M) Q
  | [], k, ρ, M, hI, _, hq => w_some.mpr (hq ρ M hI)
  | u :: items, k, ρ, M, hI, hs, hq => by
    obtain ⟨ρ1, M1, e1, o, M2, e2, h⟩ := hs 0 u ρ M rfl hI
    have go : ∀ ρ2, wt M2 ∧ I (k + 0 + 1) ρ2 M2 → W (forM wt g b items ρ2 M2) Q := fun ρ2 z =>
      for_inv I items (k + 1) ρ2 M2 z.2 (fun j w ρ' M' hj hI' => by
        have := hs (j + 1) w ρ' M' (by simpa using hj) (by rw [show k + (j + 1) = k + 1 + j by omega]; exact hI')
        rw [show k + (j + 1) + 1 = k + 1 + j + 1 by omega] at this
        exact this) (fun ρ' M' h' => hq ρ' M' (by rw [List.length_cons, show k + (items.length + 1) = k + 1 + items.length by omega]; exact h'))
    unfold forM
    rw [e1]
    simp only
    rw [e2]
    cases o with
    | nx ρ2 =>
      simp only [if_pos h.1]
      exact go ρ2 h
    | ct ρ2 =>
      simp only [if_pos h.1]
      exact go ρ2 h
    | bk ρ2 => exact w_some.mpr h
    | rt v => exact w_some.mpr h
theorem range_get {lo : Int} {n j : Nat} {u : U} (h : (rangeU lo n)[j]? = some u) : j < n ∧ u = .dat (.int (lo + (j : Int))) := by
  unfold rangeU at h
  rw [List.getElem?_map] at h
  obtain ⟨k, h1, h2⟩ := Option.map_eq_some_iff.mp h
  obtain ⟨h3, h4⟩ := List.getElem?_eq_some_iff.mp h1
  rw [List.length_range] at h3
  rw [List.getElem_range] at h4
  subst h4 h2
  exact ⟨h3, rfl⟩
theorem range_len {lo : Int} {n : Nat} : (rangeU lo n).length = n := by
  unfold rangeU
  rw [List.length_map, List.length_range]
end Pu

namespace Pu
open PySem PySem.Spec PyProof.Rows L2 Lw
open Classical
/-! ### starred parts of a display -/
section
variable {X : Cx} {K : PySem.W.Frag} {me : ME} {m : MA} {e : Expr} {es : List Expr} {p : Pos}
def aStar (me : ME) (m : MA) : MA := fun ρ M => match me ρ M with
  | some (u, M1) => match seqOf M1 u with
    | some ws => match m ρ M1 with
      | some (us, M2) => some (ws ++ us, M2)
      | none => none
    | none => none
  | none => none
theorem sim_star {te : TE} {t : TA} (ha : SimE K te me) (hr : SimA K t m) : SimA K (StX.tStar K te t) (aStar me m) := by
  intro σ H α ρ M us M' Q R er h P
  unfold aStar at h
  split at h
  · rename_i u M1 e1
    split at h
    · rename_i ws e0
      split at h
      · rename_i zs M2 e2
        cases h
        refine ha σ H α ρ M u M1 _ R er e1 fun v α1 H1 R1 x1 r1 => ?_
        obtain ⟨p, xs, rfl, q, rs⟩ := seqOf_ok R1 r1 e0
        refine ⟨p, xs, rfl, q.symm, ?_⟩
        refine hr σ H1 α1 ρ M1 zs _ _ R1 (er.ext x1) e2 fun vs α2 H2 R2 x2 r2 => ?_
        exact P _ α2 H2 R2 (x1.trans x2) ((rs.ext x2).append r2)
      · cases h
    · cases h
  · cases h
theorem qa_star (ha : QE X e me) (hr : QA X es m) (hs : starEach (.Starred e p :: es) X.env = (true, eval e X.env) :: starEach es X.env := by rfl) : QA X (.Starred e p :: es) (aStar me m) := by
  obtain ⟨t, h1, h2⟩ := ha.ex
  obtain ⟨u, h3, h4⟩ := hr.ex
  exact ⟨_, StX.pa_star h1 h3 hs, sim_star h2 h4⟩
end
/-! ### sorted(list of data) -/
noncomputable def sortD (ds : List PyData) : List PyData := ds.mergeSort (PySem.W.dataLe false id)
def SortOk (ds : List PyData) : Prop := ds.length ≤ 1 ∨ (PySem.W.AllAlike ds ∧ PySem.W.Sortable ds ∧ ∀ d ∈ ds, d.depth ≤ 60)
theorem da_of_vrs {K : PySem.W.Frag} {α : List Addr} {G : Hp} : ∀ {xs : List V} {ds : List PyData}, VRs K α G xs (ds.map .dat) → DA true G xs ds
  | _, [], .nil => .nil
  | _, _ :: _, .cons h t => by
    cases h with
    | dat h => exact .cons h (da_of_vrs t)
/-! ### a call that leaves the last parameter to its default None -/
section
variable {X : Cx} {k : Nat} {g : Addr} {fd : FuncData} {ps : List Str} {f : FA} {x : Str} {p pos : Pos} {e : Expr} {es : List Expr} {m : MA}
end
/-! ### {'k': x}, x a variable that holds data: it never changes -/
/-! ### a text several times -/
def repS (z : Str) (k : Nat) : Str := ⟨(List.replicate k z.cps).foldl (· ++ ·) #[]⟩
def mulSN : F2 := fun a b M => match a, b with
  | .dat (.str z), .dat (.int j) => if 2 ≤ j ∧ j ≤ 10000 ∧ 1 ≤ z.length ∧ z.length ≤ 1000 then some (.dat (.str (repS z j.toNat)), M) else none
  | _, _ => none
def rMulSN : R2 := fun x y H Q => ∃ (z : Str) (j : Int), x = .str z ∧ y = .int j ∧ (2 ≤ j ∧ j ≤ 10000 ∧ 1 ≤ z.length ∧ z.length ≤ 1000) ∧ Q (.str (repS z j.toNat)) H
theorem op_mulSN {X : Cx} : OpR X (binaryOp .Mult) rMulSN := by
  intro pins s σ H x y v u Q I rx ry h
  obtain ⟨z, j, rfl, rfl, ⟨h1, h2, h3, h4⟩, q⟩ := h
  obtain ⟨t, rfl⟩ := rx
  obtain ⟨t', rfl⟩ := ry
  have hn : (j == 1 || z.length == 0) = false := by
    simp only [Bool.or_eq_false_iff, beq_eq_false_iff_ne]
    exact ⟨by omega, by omega⟩
  have hp : z.length * j.toNat ≤ 10000000 := Nat.mul_le_mul h4 (show j.toNat ≤ 10000 by omega)
  have hl : PySem.Builtin.Str.tooLong (z.length * j.toNat) = false := by
    unfold PySem.Builtin.Str.tooLong
    have : 10000000 ≤ sizeLine := by decide
    simp only [decide_eq_false_iff_not]
    omega
  refine PySem.P.mul_str (by rw [decide_eq_false (by omega), decide_eq_false (by omega)]; rfl) (fun _ _ => ?_) (fun _ _ => hl) ?_
  · have : (1000 : Int) ≤ (2 ^ 63 - 1) / j := by
      rw [Int.le_ediv_iff_mul_le (by omega)]
      omega
    omega
  · rw [if_neg (by omega), hn, if_neg (by decide)]
    exact ⟨fits_reps hl, .str (repS z j.toNat), H, I.tok _, ⟨_, rfl⟩, q⟩
theorem q_mulSN {X : Cx} : QOp X (binaryOp .Mult) mulSN := by
  refine ⟨_, op_mulSN, ?_⟩
  intro H α M x y a b u M' Q R rx ry e P
  unfold mulSN at e
  split at e
  · split at e
    · rename_i hz
      cases e
      exact ⟨_, _, vr_str rx, vr_int ry, hz, P.here R (.dat (.str _))⟩
    · cases e
  · cases e
noncomputable def mulZ : F2 := orF mulU mulSN
theorem q_mulZ {X : Cx} : QOp X (binaryOp .Mult) mulZ := q_mul.or q_mulSN
/-! ### a tuple that is unpacked at once: its lists aren't frozen -/
def eTupN (m : MA) : ME := fun ρ M => match m ρ M with
  | some (us, M1) => if us.length ≤ sizeLine then some (.tupc us, M1) else none
  | none => none
theorem qe_tupN {X : Cx} {es : List Expr} {m : MA} {pos : Pos} {x1} (h : QA X es m) : QE X (.Tuple es x1 pos) (eTupN m) := by
  obtain ⟨t, h1, h2⟩ := h.ex
  refine ⟨_, pe_tup h1, ?_⟩
  intro σ H α ρ M w M' Q R er e P
  unfold eTupN at e
  split at e
  · rename_i us M1 e1
    split at e
    · rename_i hz
      cases e
      refine h2 σ H α ρ M us _ _ R er e1 fun vs α' H' R' x r => ⟨by rw [r.length]; exact hz, fun p np => ?_⟩
      obtain ⟨R3, x3, e3⟩ := R'.newFix (o := .tup vs) np
      exact P _ α' _ R3 (x.trans x3) (.tupc (.inl e3) (r.ext x3))
    · cases e
  · cases e
end Pu

namespace Pu
open PySem PySem.Spec PyProof.Rows L2 Lw
open Classical
section
variable {ρ : Env} {M : Mem} {Q : U → Mem → Prop} {QA : List U → Mem → Prop}
theorem w_star {me : ME} {m : MA} : W (aStar me m ρ M) QA ↔ W (me ρ M) fun u M1 => ∃ ws, seqOf M1 u = some ws ∧ W (m ρ M1) fun us M2 => QA (ws ++ us) M2 := by
  unfold aStar
  constructor
  · rintro ⟨w, M', e, q⟩
    split at e
    · rename_i u M1 e1
      split at e
      · rename_i ws e2
        split at e
        · rename_i us M2 e3
          cases e
          exact ⟨u, M1, e1, ws, e2, us, _, e3, q⟩
        · cases e
      · cases e
    · cases e
  · rintro ⟨u, M1, e1, ws, e2, us, M2, e3, q⟩
    rw [e1]
    simp only [e2, e3]
    exact ⟨_, _, rfl, q⟩
end
end Pu

namespace Pu
open PySem PySem.Spec PyProof.Rows L2 Lw
open Classical
section
variable {M : Mem}
end
end Pu

namespace Pu
open PySem PySem.Spec PyProof.Rows L2 Lw
open Classical
/-! ### lists that only one name holds, as values -/
def LstAt (M : Mem) (c : Nat) (ds : List PyData) : Prop := (∃ f, M[c]? = some (.lst f (ds.map .dat))) ∨ M[c]? = some (.fz ds)
theorem LstAt.lt {M : Mem} {c : Nat} {ds : List PyData} (h : LstAt M c ds) : c < M.length := by
  rcases h with ⟨f, h⟩ | h
  · exact (List.getElem?_eq_some_iff.mp h).1
  · exact (List.getElem?_eq_some_iff.mp h).1
mutual
inductive UR0 (γ : List Nat) : U → U → Prop
  | dat (d : PyData) : UR0 γ (.dat d) (.dat d)
  | adr (a : Addr) : UR0 γ (.adr a) (.adr a)
  | scr (ns : List Int) : UR0 γ (.scr ns) (.scr ns)
  | kt (xs : List V) : UR0 γ (.kt xs) (.kt xs)
  | ty (n : String) : UR0 γ (.ty n) (.ty n)
  | xc (C : Addr) (fs : List (Str × PyData)) : UR0 γ (.xc C fs) (.xc C fs)
  | cell {j c : Nat} : γ[j]? = some c → UR0 γ (.cell j) (.cell c)
  | tupc {us ws : List U} : UR0s γ us ws → UR0 γ (.tupc us) (.tupc ws)
inductive UR0s (γ : List Nat) : List U → List U → Prop
  | nil : UR0s γ [] []
  | cons {v u : U} {vs us : List U} : UR0 γ v u → UR0s γ vs us → UR0s γ (v :: vs) (u :: us)
end
inductive UR (γ : List Nat) (M : Mem) : U → U → Prop
  | of {v u : U} : UR0 γ v u → UR γ M v u
  | lv {ds : List PyData} {c : Nat} : c ∉ γ → LstAt M c ds → UR γ M (.lv ds) (.cell c)
inductive URs (γ : List Nat) (M : Mem) : List U → List U → Prop
  | nil : URs γ M [] []
  | cons {v u : U} {vs us : List U} : UR γ M v u → URs γ M vs us → URs γ M (v :: vs) (u :: us)
inductive CR (γ : List Nat) : Cell → Cell → Prop
  | lst {f : Bool} {us ws : List U} : UR0s γ us ws → CR γ (.lst f us) (.lst f ws)
  | fz (ds : List PyData) : CR γ (.fz ds) (.fz ds)
  | dk {ks : List Key} {us ws : List U} : UR0s γ us ws → CR γ (.dk (ks.zip us)) (.dk (ks.zip ws))
  | ins {C : Addr} {ks : List Str} {us ws : List U} : UR0s γ us ws → CR γ (.ins C (ks.zip us)) (.ins C (ks.zip ws))
structure SR (γ : List Nat) (Mv M : Mem) : Prop where
  len : γ.length = Mv.length
  nd : γ.Nodup
  ok : ∀ (j c : Nat) (x : Cell), γ[j]? = some c → Mv[j]? = some x → ∃ y, M[c]? = some y ∧ CR γ x y
structure Fx (γ γ' : List Nat) (M M' : Mem) : Prop where
  len : M.length ≤ M'.length
  pre : ∀ (j c : Nat), γ[j]? = some c → γ'[j]? = some c
  new : ∀ c, c ∈ γ' → c ∈ γ ∨ M.length ≤ c
  old : ∀ c, c < M.length → c ∉ γ → M'[c]? = M[c]?
theorem Fx.refl {γ : List Nat} {M : Mem} : Fx γ γ M M := ⟨Nat.le_refl _, fun _ _ h => h, fun _ h => .inl h, fun _ _ _ => rfl⟩
theorem Fx.out {γ γ' : List Nat} {M M' : Mem} (x : Fx γ γ' M M') {c : Nat} (h : c < M.length) (n : c ∉ γ) : c ∉ γ' := fun z => by
  rcases x.new c z with h1 | h1
  · exact n h1
  · omega
theorem Fx.trans {γ γ1 γ2 : List Nat} {M M1 M2 : Mem} (x : Fx γ γ1 M M1) (y : Fx γ1 γ2 M1 M2) : Fx γ γ2 M M2 :=
  ⟨Nat.le_trans x.len y.len, fun j c h => y.pre j c (x.pre j c h), fun c h => by
    rcases y.new c h with h1 | h1
    · exact x.new c h1
    · exact .inr (Nat.le_trans x.len h1), fun c h n => (y.old c (Nat.lt_of_lt_of_le h x.len) (x.out h n)).trans (x.old c h n)⟩
theorem SR.lt {γ : List Nat} {Mv M : Mem} (s : SR γ Mv M) {c : Nat} (h : c ∈ γ) : c < M.length := by
  obtain ⟨j, hj⟩ := List.mem_iff_getElem?.mp h
  have h1 := (List.getElem?_eq_some_iff.mp hj).1
  obtain ⟨y, hy, _⟩ := s.ok j c _ hj (List.getElem?_eq_getElem (by rw [← s.len]; exact h1))
  exact (List.getElem?_eq_some_iff.mp hy).1
theorem SR.fresh {γ : List Nat} {Mv M : Mem} (s : SR γ Mv M) : M.length ∉ γ := fun h => Nat.lt_irrefl _ (s.lt h)
mutual
theorem UR0.ext {γ γ' : List Nat} (x : ∀ (j c : Nat), γ[j]? = some c → γ'[j]? = some c) : ∀ {v u : U}, UR0 γ v u → UR0 γ' v u
  | _, _, .dat d => .dat d
  | _, _, .adr a => .adr a
  | _, _, .scr a => .scr a
  | _, _, .kt a => .kt a
  | _, _, .ty a => .ty a
  | _, _, .xc C fs => .xc C fs
  | _, _, .cell h => .cell (x _ _ h)
  | _, _, .tupc h => .tupc (UR0s.ext x h)
theorem UR0s.ext {γ γ' : List Nat} (x : ∀ (j c : Nat), γ[j]? = some c → γ'[j]? = some c) : ∀ {vs us : List U}, UR0s γ vs us → UR0s γ' vs us
  | _, _, .nil => .nil
  | _, _, .cons h t => .cons (UR0.ext x h) (UR0s.ext x t)
end
theorem LstAt.ext {γ γ' : List Nat} {M M' : Mem} (x : Fx γ γ' M M') {c : Nat} {ds : List PyData} (n : c ∉ γ) (h : LstAt M c ds) : LstAt M' c ds := by
  have e := x.old c h.lt n
  unfold LstAt
  rw [e]
  exact h
theorem UR.ext {γ γ' : List Nat} {M M' : Mem} (x : Fx γ γ' M M') {v u : U} (h : UR γ M v u) : UR γ' M' v u := by
  cases h with
  | of h => exact .of (h.ext x.pre)
  | lv n l => exact .lv (x.out l.lt n) (l.ext x n)
theorem URs.ext {γ γ' : List Nat} {M M' : Mem} (x : Fx γ γ' M M') : ∀ {vs us : List U}, URs γ M vs us → URs γ' M' vs us
  | _, _, .nil => .nil
  | _, _, .cons h t => .cons (h.ext x) (t.ext x)
section
variable {γ : List Nat} {M : Mem}
theorem UR0s.length : ∀ {vs us : List U}, UR0s γ vs us → vs.length = us.length
  | _, _, .nil => rfl
  | _, _, .cons _ t => by rw [List.length_cons, List.length_cons, t.length]
theorem URs.length : ∀ {vs us : List U}, URs γ M vs us → vs.length = us.length
  | _, _, .nil => rfl
  | _, _, .cons _ t => by rw [List.length_cons, List.length_cons, t.length]
theorem UR0s.append : ∀ {vs us ws ys : List U}, UR0s γ vs us → UR0s γ ws ys → UR0s γ (vs ++ ws) (us ++ ys)
  | _, _, _, _, .nil, h => h
  | _, _, _, _, .cons h t, g => .cons h (t.append g)
theorem UR0s.take : ∀ {vs us : List U} (n : Nat), UR0s γ vs us → UR0s γ (vs.take n) (us.take n)
  | _, _, 0, _ => .nil
  | _, _, _ + 1, .nil => .nil
  | _, _, n + 1, .cons h t => .cons h (t.take n)
theorem UR0s.drop : ∀ {vs us : List U} (n : Nat), UR0s γ vs us → UR0s γ (vs.drop n) (us.drop n)
  | _, _, 0, h => h
  | _, _, _ + 1, .nil => .nil
  | _, _, n + 1, .cons _ t => t.drop n
theorem UR0s.rev : ∀ {vs us : List U}, UR0s γ vs us → UR0s γ vs.reverse us.reverse
  | _, _, .nil => .nil
  | _, _, .cons h t => by
    rw [List.reverse_cons, List.reverse_cons]
    exact t.rev.append (.cons h .nil)
theorem UR0s.flat : ∀ {xs us : List U} (k : Nat), UR0s γ xs us → UR0s γ (List.replicate k xs).flatten (List.replicate k us).flatten
  | _, _, 0, _ => .nil
  | _, _, k + 1, h => by
    rw [List.replicate_succ, List.replicate_succ, List.flatten_cons, List.flatten_cons]
    exact h.append (UR0s.flat k h)
theorem UR0s.set : ∀ {vs us : List U} (i : Nat) {v u : U}, UR0s γ vs us → UR0 γ v u → UR0s γ (vs.set i v) (us.set i u)
  | _, _, _, _, _, .nil, _ => .nil
  | _, _, 0, _, _, .cons _ t, h => .cons h t
  | _, _, i + 1, _, _, .cons g t, h => .cons g (t.set i h)
theorem UR0s.get : ∀ {vs us : List U} (i : Nat) {v : U}, UR0s γ vs us → vs[i]? = some v → ∃ u, us[i]? = some u ∧ UR0 γ v u
  | _, _, _, _, .nil, e => by simp at e
  | _, _, 0, _, .cons h _, e => by
    simp at e
    subst e
    exact ⟨_, rfl, h⟩
  | _, _, i + 1, v, .cons _ t, e => by
    obtain ⟨u, e1, h⟩ := UR0s.get i (v := v) t (by simpa using e)
    exact ⟨u, by simpa using e1, h⟩
theorem UR0s.dats : ∀ ds : List PyData, UR0s γ (ds.map .dat) (ds.map .dat)
  | [] => .nil
  | d :: ds => .cons (.dat d) (UR0s.dats ds)
theorem UR0s.allDat : ∀ {vs us : List U}, UR0s γ vs us → Pu.allDat vs = Pu.allDat us
  | _, _, .nil => rfl
  | _, _, .cons h t => by
    have ih := t.allDat
    cases h with
    | dat d =>
      show (Pu.allDat _).map _ = (Pu.allDat _).map _
      rw [ih]
    | _ => rfl
theorem UR0.mkTup {vs us : List U} (h : UR0s γ vs us) : UR0 γ (Pu.mkTup vs) (Pu.mkTup us) := by
  unfold Pu.mkTup
  rw [h.allDat]
  split
  · exact .dat _
  · exact .tupc h
/-! ### what is read of a value is the same -/
def dOf : U → Option PyData
  | .dat d => some d
  | _ => none
theorem UR.dOf {v u : U} (h : UR γ M v u) : Pu.dOf v = Pu.dOf u := by
  cases h with
  | of h => cases h <;> rfl
  | lv => rfl
theorem tupOf_nat {v u : U} (h : UR γ M v u) : (tupOf v = none ∧ tupOf u = none) ∨ ∃ vs us, tupOf v = some vs ∧ tupOf u = some us ∧ UR0s γ vs us := by
  cases h with
  | lv => exact .inl ⟨rfl, rfl⟩
  | of h =>
    cases h with
    | dat d =>
      cases d with
      | tuple ds => exact .inr ⟨_, _, rfl, rfl, .dats ds⟩
      | _ => exact .inl ⟨rfl, rfl⟩
    | tupc h => exact .inr ⟨_, _, rfl, rfl, h⟩
    | _ => exact .inl ⟨rfl, rfl⟩
theorem lstOf_nat {Mv : Mem} (s : SR γ Mv M) {v u : U} (h : UR γ M v u) : (lstOf Mv v = none ∧ lstOf M u = none) ∨ ∃ vs us, lstOf Mv v = some vs ∧ lstOf M u = some us ∧ UR0s γ vs us := by
  cases h with
  | lv n l =>
    refine .inr ⟨_, _, rfl, ?_, .dats _⟩
    unfold lstOf
    rcases l with ⟨f, l⟩ | l <;> simp only [l]
  | of h =>
    cases h with
    | dat d =>
      cases d with
      | list ds => exact .inr ⟨_, _, rfl, rfl, .dats ds⟩
      | _ => exact .inl ⟨rfl, rfl⟩
    | cell h =>
      rename_i j c
      have hj : j < Mv.length := by rw [← s.len]; exact (List.getElem?_eq_some_iff.mp h).1
      obtain ⟨y, hy, r⟩ := s.ok j c _ h (List.getElem?_eq_getElem hj)
      have e := List.getElem?_eq_getElem hj
      generalize Mv[j] = x at e r
      unfold lstOf
      simp only [e, hy]
      cases r with
      | lst r => exact .inr ⟨_, _, rfl, rfl, r⟩
      | fz ds => exact .inr ⟨_, _, rfl, rfl, .dats ds⟩
      | dk r => exact .inl ⟨rfl, rfl⟩
      | ins r => exact .inl ⟨rfl, rfl⟩
    | _ => exact .inl ⟨rfl, rfl⟩
theorem seqOf_nat {Mv : Mem} (s : SR γ Mv M) {v u : U} (h : UR γ M v u) : (seqOf Mv v = none ∧ seqOf M u = none) ∨ ∃ vs us, seqOf Mv v = some vs ∧ seqOf M u = some us ∧ UR0s γ vs us := by
  have gen : (match tupOf v with | some us => some us | none => lstOf Mv v) = none ∧ (match tupOf u with | some us => some us | none => lstOf M u) = none ∨ ∃ vs us, (match tupOf v with | some us => some us | none => lstOf Mv v) = some vs ∧ (match tupOf u with | some us => some us | none => lstOf M u) = some us ∧ UR0s γ vs us := by
    rcases tupOf_nat h with ⟨h1, h2⟩ | ⟨vs, us, h1, h2, h3⟩
    · rw [h1, h2]
      exact lstOf_nat s h
    · rw [h1, h2]
      exact .inr ⟨vs, us, rfl, rfl, h3⟩
  cases h with
  | lv n l => exact gen
  | of h =>
    cases h with
    | scr ns => exact .inr ⟨_, _, rfl, rfl, by
        rw [show (ns.map fun i => U.dat (.int i)) = (ns.map PyData.int).map U.dat by rw [List.map_map]; rfl]
        exact .dats _⟩
    | kt xs =>
      have e : seqOf Mv (.kt xs) = allV xs := rfl
      have e' : seqOf M (.kt xs) = allV xs := rfl
      rw [e, e']
      have al : ∀ (xs : List V) (us : List U), allV xs = some us → UR0s γ us us := by
        intro xs
        induction xs with
        | nil => intro us h; cases h; exact .nil
        | cons x xs ih =>
          intro us h
          unfold allV at h
          split at h
          · rename_i d ws e1 e2
            cases h
            exact .cons (.dat d) (ih ws e2)
          · cases h
      cases hz : allV xs with
      | none => exact .inl ⟨rfl, rfl⟩
      | some us => exact .inr ⟨us, us, rfl, rfl, al xs us hz⟩
    | dat d => exact gen
    | adr a => exact gen
    | ty a => exact gen
    | xc C fs => exact gen
    | cell h => exact gen
    | tupc h => exact gen
theorem datOf_nat {Mv : Mem} (s : SR γ Mv M) {v u : U} (h : UR γ M v u) : datOf Mv v = datOf M u := by
  cases h with
  | lv n l =>
    unfold datOf
    rcases l with ⟨f, l⟩ | l <;> simp only [l, allDat_map, Option.map]
  | of h =>
    cases h with
    | cell h =>
      rename_i j c
      have hj : j < Mv.length := by rw [← s.len]; exact (List.getElem?_eq_some_iff.mp h).1
      obtain ⟨y, hy, r⟩ := s.ok j c _ h (List.getElem?_eq_getElem hj)
      have e := List.getElem?_eq_getElem hj
      generalize Mv[j] = x at e r
      unfold datOf
      simp only [e, hy]
      cases r with
      | lst r =>
        show (allDat _).map _ = (allDat _).map _
        rw [r.allDat]
      | _ => rfl
    | _ => rfl
theorem tyOf_nat {Mv : Mem} (s : SR γ Mv M) {v u : U} (h : UR γ M v u) : tyOf Mv v = tyOf M u := by
  cases h with
  | lv n l =>
    unfold tyOf
    rcases l with ⟨f, l⟩ | l <;> simp only [l]
  | of h =>
    cases h with
    | cell h =>
      rename_i j c
      have hj : j < Mv.length := by rw [← s.len]; exact (List.getElem?_eq_some_iff.mp h).1
      obtain ⟨y, hy, r⟩ := s.ok j c _ h (List.getElem?_eq_getElem hj)
      have e := List.getElem?_eq_getElem hj
      generalize Mv[j] = x at e r
      unfold tyOf
      cases r <;> simp only [e, hy]
    | _ => rfl
theorem truth_nat {Mv : Mem} (s : SR γ Mv M) {v u : U} (h : UR γ M v u) : truthU Mv v = truthU M u := by
  have gen : ((seqOf Mv v).map fun us => !us.isEmpty) = (seqOf M u).map fun us => !us.isEmpty := by
    rcases seqOf_nat s h with ⟨h1, h2⟩ | ⟨vs, us, h1, h2, h3⟩
    · rw [h1, h2]
    · rw [h1, h2]
      cases h3 with
      | nil => rfl
      | cons _ _ => rfl
  cases h with
  | lv n l => exact gen
  | of h =>
    cases h with
    | dat d =>
      cases d with
      | tuple ds => exact gen
      | list ds => exact gen
      | dict ds => exact gen
      | none => rfl
      | bool b => rfl
      | int b => rfl
      | str b => rfl
    | _ => exact gen
end
end Pu

namespace Pu
open PySem PySem.Spec PyProof.Rows L2 Lw
open Classical
/-! ### operators: reading ones are the same on both sides -/
def RelO (γ : List Nat) (Mv M : Mem) (a b : Option (U × Mem)) : Prop := (a = none ∧ b = none) ∨ ∃ r y, a = some (r, Mv) ∧ b = some (y, M) ∧ UR0 γ r y
def R2d (f : F2) : Prop := ∀ (γ : List Nat) (Mv M : Mem) (v w u x : U), SR γ Mv M → UR γ M v u → UR γ M w x → RelO γ Mv M (f v w Mv) (f u x M)
def N2 (f g : F2) : Prop := ∀ (γ : List Nat) (Mv M : Mem) (v w u x r : U) (Mv' : Mem), SR γ Mv M → UR γ M v u → UR γ M w x → g v w Mv = some (r, Mv') →
  ∃ y M', f u x M = some (y, M') ∧ Mv' = Mv ∧ SR γ Mv M' ∧ UR γ M' r y ∧ Fx γ γ M M' ∧ ∀ c, y = .cell c → c ∉ γ → M.length ≤ c
theorem UR0.cellIn {γ : List Nat} {v : U} {c : Nat} (h : UR0 γ v (.cell c)) : c ∈ γ := by
  cases h with
  | cell h => exact List.mem_of_getElem? h
theorem R2d.n2 {f : F2} (h : R2d f) : N2 f f := by
  intro γ Mv M v w u x r Mv' s r1 r2 e
  rcases h γ Mv M v w u x s r1 r2 with ⟨h1, _⟩ | ⟨r', y, h1, h2, h3⟩
  · rw [h1] at e
    cases e
  · rw [h1] at e
    cases e
    refine ⟨y, M, h2, rfl, s, .of h3, Fx.refl, fun c hc n => ?_⟩
    subst hc
    exact absurd h3.cellIn n
theorem R2d.or {f g : F2} (h : R2d f) (h' : R2d g) : R2d (orF f g) := by
  intro γ Mv M v w u x s r1 r2
  unfold orF
  rcases h γ Mv M v w u x s r1 r2 with ⟨h1, h2⟩ | ⟨r', y, h1, h2, h3⟩
  · rw [h1, h2]
    exact h' γ Mv M v w u x s r1 r2
  · rw [h1, h2]
    exact .inr ⟨r', y, rfl, rfl, h3⟩
theorem N2.or {f g g' : F2} (h : R2d f) (h' : N2 g g') : N2 (orF f g) (orF f g') := by
  intro γ Mv M v w u x r Mv' s r1 r2 e
  unfold orF at e ⊢
  rcases h γ Mv M v w u x s r1 r2 with ⟨h1, h2⟩ | ⟨r', y, h1, h2, h3⟩
  · rw [h1] at e
    rw [h2]
    exact h' γ Mv M v w u x r Mv' s r1 r2 e
  · rw [h1] at e
    rw [h2]
    cases e
    refine ⟨y, M, rfl, rfl, s, .of h3, Fx.refl, fun c hc n => ?_⟩
    subst hc
    exact absurd h3.cellIn n
/-- it reads by keys that are the same on both sides -/
theorem R2d.key {α β : Type} {f : F2} (k1 : Mem → U → α) (k2 : Mem → U → β) (G : α → β → Option PyData)
    (n1 : ∀ {γ : List Nat} {Mv M : Mem} {v u : U}, SR γ Mv M → UR γ M v u → k1 Mv v = k1 M u) (n2 : ∀ {γ : List Nat} {Mv M : Mem} {v u : U}, SR γ Mv M → UR γ M v u → k2 Mv v = k2 M u)
    (h : ∀ a b M, f a b M = (G (k1 M a) (k2 M b)).map fun d => (.dat d, M)) : R2d f := by
  intro γ Mv M v w u x s r1 r2
  rw [h, h, n1 s r1, n2 s r2]
  cases G (k1 M u) (k2 M x) with
  | none => exact .inl ⟨rfl, rfl⟩
  | some d => exact .inr ⟨_, _, rfl, rfl, .dat d⟩
theorem dOf_some {u : U} {d : PyData} (h : dOf u = some d) : u = .dat d := by cases u <;> cases h; rfl
theorem dOf_n {γ : List Nat} {Mv M : Mem} {v u : U} (_ : SR γ Mv M) (h : UR γ M v u) : dOf v = dOf u := h.dOf
theorem d_fNI (g : Int → Int → PyData) : R2d (fNI g) := .key (fun _ => dOf) (fun _ => dOf) (fun a b => match a, b with
  | some d, some (.int j) => (numD d).map fun i => g i j
  | _, _ => none) dOf_n dOf_n fun a b M => by
  unfold fNI
  split
  · rename_i d j
    show (numD d).map _ = ((numD d).map _).map _
    rw [Option.map_map]
    rfl
  · rename_i hn
    split
    · rename_i d j e1 e2
      cases a <;> cases e1
      cases b <;> cases e2
      exact (hn _ _ rfl rfl).elim
    · rfl
theorem d_fIN (g : Int → Int → PyData) : R2d (fIN g) := .key (fun _ => dOf) (fun _ => dOf) (fun a b => match a, b with
  | some (.int i), some d => (numD d).map fun j => g i j
  | _, _ => none) dOf_n dOf_n fun a b M => by
  unfold fIN
  split
  · rename_i i d
    show (numD d).map _ = ((numD d).map _).map _
    rw [Option.map_map]
    rfl
  · rename_i hn
    split
    · rename_i d j e1 e2
      cases a <;> cases e1
      cases b <;> cases e2
      exact (hn _ _ rfl rfl).elim
    · rfl
theorem d_fI (C : Int → Int → Prop) (g : Int → Int → PyData) : R2d (fI C g) := .key (fun _ => dOf) (fun _ => dOf) (fun a b => match a, b with
  | some (.int i), some (.int j) => if C i j then some (g i j) else none
  | _, _ => none) dOf_n dOf_n fun a b M => by
  unfold fI
  split
  · rename_i i j
    show _ = (if C i j then some (g i j) else none).map _
    split <;> rfl
  · rename_i hn
    split
    · rename_i d j e1 e2
      cases a <;> cases e1
      cases b <;> cases e2
      exact (hn _ _ rfl rfl).elim
    · rfl
theorem d_fSS (g : Str → Str → Option PyData) : R2d (fSS g) := .key (fun _ => dOf) (fun _ => dOf) (fun a b => match a, b with
  | some (.str i), some (.str j) => g i j
  | _, _ => none) dOf_n dOf_n fun a b M => by
  unfold fSS
  split
  · rfl
  · rename_i hn
    split
    · rename_i d j e1 e2
      cases a <;> cases e1
      cases b <;> cases e2
      exact (hn _ _ rfl rfl).elim
    · rfl
theorem d_cmpI (g : Int → Int → Bool) : R2d (cmpI g) := .key (fun _ => dOf) (fun _ => dOf) (fun a b => match a, b with
  | some (.int i), some (.int j) => some (.bool (g i j))
  | _, _ => none) dOf_n dOf_n fun a b M => by
  unfold cmpI
  split
  · rfl
  · rename_i hn
    split
    · rename_i d j e1 e2
      cases a <;> cases e1
      cases b <;> cases e2
      exact (hn _ _ rfl rfl).elim
    · rfl
theorem d_mulS : R2d mulS := .key (fun _ => dOf) (fun _ => dOf) (fun a b => match a, b with
  | some (.str z), some (.int j) => if j = 1 then some (.str z) else if j = 0 then some (.str Str.empty) else none
  | _, _ => none) dOf_n dOf_n fun a b M => by
  unfold mulS
  split
  · rename_i z j
    show _ = (if j = 1 then some (PyData.str z) else if j = 0 then some (.str Str.empty) else none).map _
    split
    · rfl
    · split <;> rfl
  · rename_i hn
    split
    · rename_i d j e1 e2
      cases a <;> cases e1
      cases b <;> cases e2
      exact (hn _ _ rfl rfl).elim
    · rfl
theorem d_mulSN : R2d mulSN := .key (fun _ => dOf) (fun _ => dOf) (fun a b => match a, b with
  | some (.str z), some (.int j) => if 2 ≤ j ∧ j ≤ 10000 ∧ 1 ≤ z.length ∧ z.length ≤ 1000 then some (.str (repS z j.toNat)) else none
  | _, _ => none) dOf_n dOf_n fun a b M => by
  unfold mulSN
  split
  · rename_i z j
    show _ = (if 2 ≤ j ∧ j ≤ 10000 ∧ 1 ≤ z.length ∧ z.length ≤ 1000 then some (PyData.str (repS z j.toNat)) else none).map _
    split <;> rfl
  · rename_i hn
    split
    · rename_i d j e1 e2
      cases a <;> cases e1
      cases b <;> cases e2
      exact (hn _ _ rfl rfl).elim
    · rfl
theorem d_neSS : R2d neSS := .key (fun _ => dOf) (fun _ => dOf) (fun a b => match a, b with
  | some (.str i), some (.str j) => some (.bool (!decide (i = j)))
  | _, _ => none) dOf_n dOf_n fun a b M => by
  unfold neSS
  split
  · rfl
  · rename_i hn
    split
    · rename_i d j e1 e2
      cases a <;> cases e1
      cases b <;> cases e2
      exact (hn _ _ rfl rfl).elim
    · rfl
theorem d_inS (neg : Bool) : R2d (inS neg) := .key (fun _ => dOf) (fun _ => dOf) (fun a b => match a, b with
  | some (.str x), some (.str z) => some (.bool (if neg = true then !(!(Builtin.Str.occurrences z x 0 z.length 1).isEmpty) else !(Builtin.Str.occurrences z x 0 z.length 1).isEmpty))
  | _, _ => none) dOf_n dOf_n fun a b M => by
  unfold inS
  split
  · rfl
  · rename_i hn
    split
    · rename_i d j e1 e2
      cases a <;> cases e1
      cases b <;> cases e2
      exact (hn _ _ rfl rfl).elim
    · rfl
theorem d_eqD : R2d eqD := .key datOf datOf (fun a b => match a, b with
  | some d, some e => if SeqAt.shaped d = true ∧ SeqAt.shaped e = true then some (.bool (PyData.eqv d e)) else none
  | _, _ => none) (fun s h => datOf_nat s h) (fun s h => datOf_nat s h) fun a b M => by
  unfold eqD
  cases h1 : datOf M a with
  | none => rfl
  | some d =>
    cases h2 : datOf M b with
    | none => rfl
    | some e =>
      show (if SeqAt.shaped d = true ∧ SeqAt.shaped e = true then some (U.dat (.bool (PyData.eqv d e)), M) else none) = (if SeqAt.shaped d = true ∧ SeqAt.shaped e = true then some (PyData.bool (PyData.eqv d e)) else none).map _
      split <;> rfl
theorem d_neD : R2d neD := .key datOf datOf (fun a b => match a, b with
  | some d, some e => if SeqAt.shaped d = true ∧ SeqAt.shaped e = true then some (.bool (!PyData.eqv d e)) else none
  | _, _ => none) (fun s h => datOf_nat s h) (fun s h => datOf_nat s h) fun a b M => by
  unfold neD
  cases h1 : datOf M a with
  | none => rfl
  | some d =>
    cases h2 : datOf M b with
    | none => rfl
    | some e =>
      show (if SeqAt.shaped d = true ∧ SeqAt.shaped e = true then some (U.dat (.bool (!PyData.eqv d e)), M) else none) = (if SeqAt.shaped d = true ∧ SeqAt.shaped e = true then some (PyData.bool (!PyData.eqv d e)) else none).map _
      split <;> rfl
theorem d_cmpD (g : PyData → PyData → Bool) : R2d (cmpD g) := .key datOf datOf (fun a b => match a, b with
  | some d, some e => if CmpOk d e then some (.bool (g d e)) else none
  | _, _ => none) (fun s h => datOf_nat s h) (fun s h => datOf_nat s h) fun a b M => by
  unfold cmpD
  cases h1 : datOf M a with
  | none => rfl
  | some d =>
    cases h2 : datOf M b with
    | none => rfl
    | some e =>
      show (if CmpOk d e then some (U.dat (.bool (g d e)), M) else none) = (if CmpOk d e then some (PyData.bool (g d e)) else none).map _
      split <;> rfl
theorem d_eqDS : R2d eqDS := .key datOf (fun _ => dOf) (fun a b => match a, b with
  | some d, some (.str z) => some (.bool (strIs z d))
  | _, _ => none) (fun s h => datOf_nat s h) dOf_n fun a b M => by
  unfold eqDS
  split
  · rename_i d z e1
    rw [e1]
    rfl
  · rename_i hn
    split
    · rename_i d j e1 e2
      exact (hn _ _ e1 (dOf_some e2)).elim
    · rfl
theorem d_eqSD : R2d eqSD := .key (fun _ => dOf) datOf (fun a b => match a, b with
  | some (.str z), some d => some (.bool (strIs z d))
  | _, _ => none) dOf_n (fun s h => datOf_nat s h) fun a b M => by
  unfold eqSD
  split
  · rename_i d z e1
    rw [e1]
    rfl
  · rename_i hn
    split
    · rename_i d j e1 e2
      exact (hn _ _ (dOf_some e1) e2).elim
    · rfl
def tLen (_ : Mem) (u : U) : Option Nat := (tupOf u).map List.length
theorem tLen_n {γ : List Nat} {Mv M : Mem} {v u : U} (_ : SR γ Mv M) (h : UR γ M v u) : tLen Mv v = tLen M u := by
  unfold tLen
  rcases tupOf_nat h with ⟨h1, h2⟩ | ⟨vs, us, h1, h2, h3⟩
  · rw [h1, h2]
  · rw [h1, h2]
    simp [h3.length]
theorem d_eqT0 (neg : Bool) : R2d (eqT0 neg) := .key tLen tLen (fun a b => match a, b with
  | some n, some 0 => some (.bool (if neg = true then !decide (n = 0) else decide (n = 0)))
  | _, _ => none) tLen_n tLen_n fun a b M => by
  unfold eqT0 tLen
  cases ha : tupOf a with
  | none => cases hb : tupOf b <;> rfl
  | some us =>
    cases hb : tupOf b with
    | none => rfl
    | some ws => cases ws <;> rfl
theorem d_isF (neg : Bool) : R2d (isF neg) := .key (fun _ => isNonU) (fun _ => dOf) (fun a b => match b with
  | some .none => some (.bool (if neg = true then !a else a))
  | _ => none) (fun {γ Mv M v u} _ h => by
    cases h with
    | lv => rfl
    | of h => cases h <;> rfl) dOf_n fun a b M => by
  unfold isF
  split
  · rfl
  · rename_i hn
    split
    · rename_i e2
      cases b <;> cases e2
      exact absurd rfl hn
    · rfl
def ktOf (_ : Mem) : U → Option (List V)
  | .kt xs => some xs
  | _ => none
theorem ktOf_n {γ : List Nat} {Mv M : Mem} {v u : U} (_ : SR γ Mv M) (h : UR γ M v u) : ktOf Mv v = ktOf M u := by
  cases h with
  | lv => rfl
  | of h => cases h <;> rfl
theorem d_inK (neg : Bool) : R2d (inK neg) := .key (fun _ => dOf) ktOf (fun a b => match a, b with
  | some d, some xs => match inK.D2V d with
    | some x => if xs.all flatV = true then some (.bool (if neg = true then !inV x xs else inV x xs)) else none
    | none => none
  | _, _ => none) dOf_n ktOf_n fun a b M => by
  cases a with
  | dat d =>
    cases b with
    | kt xs =>
      show (match inK.D2V d with
        | some x => if xs.all flatV = true then some (U.dat (.bool (if neg = true then !inV x xs else inV x xs)), M) else none
        | none => none) = Option.map _ (match inK.D2V d with
        | some x => if xs.all flatV = true then some (PyData.bool (if neg = true then !inV x xs else inV x xs)) else none
        | none => none)
      cases inK.D2V d with
      | none => rfl
      | some x =>
        show (if xs.all flatV = true then _ else _) = (if xs.all flatV = true then _ else _ : Option PyData).map _
        split <;> rfl
    | _ => rfl
  | _ => cases b <;> rfl
theorem UR0s.allFl {γ : List Nat} : ∀ {vs us : List U}, UR0s γ vs us → Pu.allFl vs = Pu.allFl us
  | _, _, .nil => rfl
  | _, _, .cons h t => by
    have ih := t.allFl
    cases h with
    | dat d =>
      unfold Pu.allFl
      rw [ih]
    | _ => rfl
def flOf (M : Mem) (u : U) : Option (List V) := (seqOf M u).bind allFl
theorem flOf_n {γ : List Nat} {Mv M : Mem} {v u : U} (s : SR γ Mv M) (h : UR γ M v u) : flOf Mv v = flOf M u := by
  unfold flOf
  rcases seqOf_nat s h with ⟨h1, h2⟩ | ⟨vs, us, h1, h2, h3⟩
  · rw [h1, h2]
  · rw [h1, h2]
    exact h3.allFl
theorem d_inFl (neg : Bool) : R2d (inFl neg) := .key (fun _ => dOf) flOf (fun a b => match a with
  | some d => match inK.D2V d, b with
    | some x, some xs => some (.bool (if neg = true then !inV x xs else inV x xs))
    | _, _ => none
  | _ => none) dOf_n flOf_n fun a b M => by
  cases a with
  | dat d =>
    unfold inFl flOf
    simp only [dOf]
    cases h1 : inK.D2V d with
    | none => rfl
    | some x =>
      cases h2 : (seqOf M b).bind allFl with
      | none => rfl
      | some xs => rfl
  | _ => rfl
def dsOf (M : Mem) (u : U) : Option (List PyData) := (datOf M u).bind seqD
theorem dsOf_n {γ : List Nat} {Mv M : Mem} {v u : U} (s : SR γ Mv M) (h : UR γ M v u) : dsOf Mv v = dsOf M u := by
  unfold dsOf
  rw [datOf_nat s h]
theorem d_inD (neg : Bool) : R2d (inD neg) := .key datOf dsOf (fun a b => match a, b with
  | some d, some ds => if SeqAt.shaped d = true ∧ PyData.canLayAll0 ds = true then some (.bool (if neg = true then !(ds.any fun z => PyData.eqv z d) else ds.any fun z => PyData.eqv z d)) else none
  | _, _ => none) (fun s h => datOf_nat s h) dsOf_n fun a b M => by
  unfold inD dsOf
  cases h1 : datOf M a with
  | none => rfl
  | some d =>
    cases h2 : (datOf M b).bind seqD with
    | none => rfl
    | some ds =>
      show (if SeqAt.shaped d = true ∧ PyData.canLayAll0 ds = true then _ else _) = (if SeqAt.shaped d = true ∧ PyData.canLayAll0 ds = true then _ else _ : Option PyData).map _
      split <;> rfl
theorem dtup_dOf (u : U) : dtup u = match dOf u with
    | some (.tuple ds) => some ds
    | _ => none := by
  cases u with
  | dat d => cases d <;> rfl
  | _ => rfl
def dtM (_ : Mem) (u : U) : Option (List PyData) := dtup u
theorem dtM_n {γ : List Nat} {Mv M : Mem} {v u : U} (_ : SR γ Mv M) (h : UR γ M v u) : dtM Mv v = dtM M u := by
  unfold dtM
  rw [dtup_dOf, dtup_dOf, h.dOf]
theorem d_catT : R2d catT := .key dtM dtM (fun a b => match a, b with
  | some ds, some es => if ds.length + es.length ≤ sizeLine then some (.tuple (ds ++ es)) else none
  | _, _ => none) dtM_n dtM_n fun a b M => by
  unfold catT dtM
  cases dtup a with
  | none => rfl
  | some ds =>
    cases dtup b with
    | none => rfl
    | some es =>
      show (if ds.length + es.length ≤ sizeLine then _ else _) = (if ds.length + es.length ≤ sizeLine then _ else _ : Option PyData).map _
      split <;> rfl
theorem d_repT : R2d repT := .key dtM (fun _ => dOf) (fun a b => match a, b with
  | some ds, some (.int k) => if ds ≠ [] ∧ 0 ≤ k ∧ k ≤ 1000 ∧ ds.length ≤ 1000 then some (.tuple (List.replicate k.toNat ds).flatten) else none
  | _, _ => none) dtM_n dOf_n fun a b M => by
  unfold repT dtM
  cases dtup a with
  | none => rfl
  | some ds =>
    split
    · rename_i k h
      cases h
      show (if _ then _ else _) = (if _ then _ else _ : Option PyData).map _
      split <;> rfl
    · rename_i hn
      split
      · rename_i k h1 h2
        exact (hn _ _ h1 (dOf_some h2)).elim
      · rfl
theorem UR0s.atI {γ : List Nat} {vs us : List U} (h : UR0s γ vs us) (i : Int) : (L2.atI vs i = none ∧ L2.atI us i = none) ∨ ∃ v u, L2.atI vs i = some v ∧ L2.atI us i = some u ∧ UR0 γ v u := by
  unfold L2.atI
  rw [h.length]
  cases L2.ixN us.length i with
  | none => exact .inl ⟨rfl, rfl⟩
  | some k =>
    show (vs[k]? = none ∧ us[k]? = none) ∨ ∃ v u, vs[k]? = some v ∧ us[k]? = some u ∧ UR0 γ v u
    by_cases hk : k < vs.length
    · obtain ⟨u, e, r⟩ := h.get k (List.getElem?_eq_getElem hk)
      exact .inr ⟨_, u, List.getElem?_eq_getElem hk, e, r⟩
    · refine .inl ⟨List.getElem?_eq_none_iff.mpr (by omega), List.getElem?_eq_none_iff.mpr ?_⟩
      rw [← h.length]
      omega
end Pu

namespace Pu
open PySem PySem.Spec PyProof.Rows L2 Lw
open Classical
theorem d_ixU : R2d ixU := by
  intro γ Mv M v w u x s r1 r2
  have hd := r2.dOf
  cases hx : dOf x with
  | none =>
    rw [hx] at hd
    have a1 : ∀ k, w ≠ .dat (.int k) := fun k e => by rw [e] at hd; cases hd
    have a2 : ∀ k, x ≠ .dat (.int k) := fun k e => by rw [e] at hx; cases hx
    refine .inl ⟨?_, ?_⟩
    · unfold ixU
      split
      · exact absurd rfl (a1 _)
      · rfl
    · unfold ixU
      split
      · exact absurd rfl (a2 _)
      · rfl
  | some d =>
    rw [hx] at hd
    obtain rfl := dOf_some hx
    obtain rfl := dOf_some hd
    cases d with
    | int k =>
      unfold ixU
      rcases seqOf_nat s r1 with ⟨h1, h2⟩ | ⟨vs, us, h1, h2, h3⟩
      · simp only [h1, h2]
        have hv := r1.dOf
        cases hu : dOf u with
        | none =>
          rw [hu] at hv
          refine .inl ⟨?_, ?_⟩
          · split
            · cases hv
            · rfl
          · split
            · cases hu
            · rfl
        | some e =>
          rw [hu] at hv
          obtain rfl := dOf_some hu
          obtain rfl := dOf_some hv
          cases e with
          | str z =>
            simp only
            split
            · cases atI z.cps.toList k with
              | none => exact .inl ⟨rfl, rfl⟩
              | some c => exact .inr ⟨_, _, rfl, rfl, .dat _⟩
            · exact .inl ⟨rfl, rfl⟩
          | _ => exact .inl ⟨rfl, rfl⟩
      · simp only [h1, h2]
        rcases h3.atI k with ⟨g1, g2⟩ | ⟨a, b, g1, g2, g3⟩
        · rw [g1, g2]
          exact .inl ⟨rfl, rfl⟩
        · rw [g1, g2]
          exact .inr ⟨_, _, rfl, rfl, g3⟩
    | _ => exact .inl ⟨rfl, rfl⟩
/-- something new that nobody knows -/
theorem sr_new {γ : List Nat} {Mv M : Mem} (s : SR γ Mv M) (c : Cell) : SR γ Mv (M ++ [c]) ∧ Fx γ γ M (M ++ [c]) := by
  have h : ∀ b, b < M.length → (M ++ [c])[b]? = M[b]? := fun b hb => List.getElem?_append_left hb
  refine ⟨⟨s.len, s.nd, fun j b x hj hx => ?_⟩, ⟨by simp, fun _ _ z => z, fun _ z => .inl z, fun b hb _ => h b hb⟩⟩
  obtain ⟨y, hy, r⟩ := s.ok j b x hj hx
  exact ⟨y, by rw [h b (List.getElem?_eq_some_iff.mp hy).1]; exact hy, r⟩
theorem ur_new {γ : List Nat} {Mv M : Mem} (s : SR γ Mv M) (f : Bool) (ds : List PyData) : UR γ (M ++ [.lst f (ds.map .dat)]) (.lv ds) (.cell M.length) :=
  .lv s.fresh (.inl ⟨f, List.getElem?_concat_length ..⟩)
def vcatL : F2 := fun a b M => match lstOf M a, lstOf M b with
  | some us, some ws => match allDat (us ++ ws) with
    | some ds => if us.length + ws.length ≤ sizeLine then some (.lv ds, M) else none
    | none => none
  | _, _ => none
theorem UR0s.eqDat {γ : List Nat} {vs us : List U} {ds : List PyData} (h : UR0s γ vs us) (e : Pu.allDat vs = some ds) : us = ds.map .dat := by
  rw [h.allDat] at e
  exact allDat_some e
theorem n_catL : N2 catL vcatL := by
  intro γ Mv M v w u x r Mv' s r1 r2 e
  unfold vcatL at e
  rcases lstOf_nat s r1 with ⟨h1, h2⟩ | ⟨vs, us, h1, h2, h3⟩
  · rw [h1] at e
    cases e
  · rcases lstOf_nat s r2 with ⟨g1, g2⟩ | ⟨ws, ys, g1, g2, g3⟩
    · rw [h1, g1] at e
      cases e
    · rw [h1, g1] at e
      simp only at e
      split at e
      · rename_i ds he
        split at e
        · rename_i hz
          cases e
          have hh := (h3.append g3).eqDat he
          obtain ⟨s', x'⟩ := sr_new s (.lst false (us ++ ys))
          refine ⟨.cell M.length, M ++ [.lst false (us ++ ys)], ?_, rfl, s', ?_, x', fun c hc _ => by cases hc; exact Nat.le_refl _⟩
          · unfold catL
            simp only [h2, g2]
            rw [if_pos (by rw [← h3.length, ← g3.length]; exact hz)]
          · rw [hh]
            exact ur_new s false ds
        · cases e
      · cases e
def vaddU : F2 := orF (fNI fun i j => .int (i + j)) (orF (fSS addS) (orF catT vcatL))
theorem n_add : N2 addU vaddU := .or (d_fNI _) (.or (d_fSS _) (.or d_catT n_catL))
theorem n_sub : N2 subU subU := ((d_fNI _).or (d_fIN _)).n2
def vrepL : F2 := fun a b M => match lstOf M a, b with
  | some us, .dat (.int k) => match allDat us with
    | some ds => if -(2 ^ 63) ≤ k ∧ k < 2 ^ 63 ∧ us.length * k.toNat ≤ sizeLine then some (.lv (List.replicate k.toNat ds).flatten, M) else none
    | none => none
  | _, _ => none
theorem flat_mapU {α β : Type} (f : α → β) (ds : List α) : ∀ k : Nat, (List.replicate k (ds.map f)).flatten = ((List.replicate k ds).flatten).map f
  | 0 => rfl
  | k + 1 => by rw [List.replicate_succ, List.replicate_succ, List.flatten_cons, List.flatten_cons, List.map_append, flat_mapU f ds k]
theorem n_repL : N2 repL vrepL := by
  intro γ Mv M v w u x r Mv' s r1 r2 e
  unfold vrepL at e
  rcases lstOf_nat s r1 with ⟨h1, h2⟩ | ⟨vs, us, h1, h2, h3⟩
  · rw [h1] at e
    cases e
  · rw [h1] at e
    have hd := r2.dOf
    split at e
    · rename_i us' k q1
      obtain rfl := Option.some.inj q1
      obtain rfl := dOf_some hd.symm
      split at e
      · rename_i ds he
        split at e
        · rename_i hz
          cases e
          have hh := h3.eqDat he
          obtain ⟨s', x'⟩ := sr_new s (.lst false (List.replicate k.toNat us).flatten)
          refine ⟨.cell M.length, _, ?_, rfl, s', ?_, x', fun c hc _ => by cases hc; exact Nat.le_refl _⟩
          · unfold repL
            simp only [h2]
            rw [if_pos (by rw [← h3.length]; exact hz)]
          · rw [hh, flat_mapU]
            exact ur_new s false _
        · cases e
      · cases e
    · cases e
noncomputable def vmulU : F2 := orF (fI CMulW fun i j => .int (i * j)) (orF mulS (orF repT vrepL))
theorem n_mul : N2 mulU vmulU := .or (d_fI _ _) (.or d_mulS (.or d_repT n_repL))
noncomputable def vmulZ : F2 := orF (fI CMulW fun i j => .int (i * j)) (orF mulS (orF repT mulSN))
theorem n_mulZ : N2 mulZ vmulZ := by
  intro γ Mv M v w u x r Mv' s r1 r2 e
  have h0 : R2d (orF (fI CMulW fun i j => .int (i * j)) (orF mulS repT)) := (d_fI _ _).or (d_mulS.or d_repT)
  have ha : ∀ a b M, vmulZ a b M = orF (orF (fI CMulW fun i j => .int (i * j)) (orF mulS repT)) mulSN a b M := by
    intro a b M
    unfold vmulZ orF
    cases fI CMulW (fun i j => PyData.int (i * j)) a b M <;> simp only
    cases mulS a b M <;> simp only
  have hb : ∀ a b M, mulZ a b M = orF (orF (orF (fI CMulW fun i j => .int (i * j)) (orF mulS repT)) repL) mulSN a b M := by
    intro a b M
    unfold mulZ mulU orF
    cases fI CMulW (fun i j => PyData.int (i * j)) a b M <;> simp only
    cases mulS a b M <;> simp only
  rw [ha] at e
  rw [hb]
  unfold orF at e ⊢
  rcases h0 γ Mv M v w u x s r1 r2 with ⟨h1, h2⟩ | ⟨r', y, h1, h2, h3⟩
  · unfold orF at h1 h2
    rw [h1] at e
    rw [h2]
    simp only at e
    rcases d_mulSN γ Mv M v w u x s r1 r2 with ⟨g1, g2⟩ | ⟨r', y, g1, g2, g3⟩
    · rw [g1] at e
      cases e
    · rw [g1] at e
      cases e
      have hl : repL u x M = none := by
        unfold mulSN at g2
        split at g2
        · rfl
        · cases g2
      rw [hl, g2]
      refine ⟨y, M, rfl, rfl, s, .of g3, Fx.refl, fun c hc n => ?_⟩
      subst hc
      exact absurd g3.cellIn n
  · unfold orF at h1 h2
    rw [h1] at e
    rw [h2]
    simp only at e
    cases e
    refine ⟨y, M, rfl, rfl, s, .of h3, Fx.refl, fun c hc n => ?_⟩
    subst hc
    exact absurd h3.cellIn n
theorem n_fdiv : N2 fdivU fdivU := (d_fI _ _).n2
theorem n_mod : N2 modU modU := (d_fI _ _).n2
theorem n_pow : N2 powU powU := (d_fI _ _).n2
theorem n_eq : N2 eqU eqU := (d_eqDS.or (d_eqSD.or ((d_eqT0 _).or d_eqD))).n2
theorem n_ne : N2 neU neU := (d_neSS.or ((d_eqT0 _).or d_neD)).n2
theorem n_lt : N2 ltU ltU := ((d_cmpI _).or (d_cmpD _)).n2
theorem n_le : N2 leU leU := ((d_cmpI _).or (d_cmpD _)).n2
theorem n_gt : N2 gtU gtU := ((d_cmpI _).or (d_cmpD _)).n2
theorem n_ge : N2 geU geU := ((d_cmpI _).or (d_cmpD _)).n2
theorem n_is (b : Bool) : N2 (isF b) (isF b) := (d_isF b).n2
theorem n_in (b : Bool) : N2 (inU b) (inU b) := ((d_inK b).or ((d_inFl b).or ((d_inD b).or (d_inS b)))).n2
theorem n_ix : N2 ixU ixU := d_ixU.n2

/-! ### judgements: the plain function m and the one over values v -/
structure EV (S γ : List Nat) (M : Mem) (ρv ρ : Env) : Prop where
  len : ρv.length = ρ.length
  ok : ∀ (i : Nat) (v : U), ρv[i]? = some (some v) → ∃ u, ρ[i]? = some (some u) ∧ UR γ M v u
  own : ∀ i ∈ S, ∃ (c : Nat) (f : Bool) (ds : List PyData), ρv[i]? = some (some (.lv ds)) ∧ ρ[i]? = some (some (.cell c)) ∧ c ∉ γ ∧ M[c]? = some (.lst f (ds.map .dat)) ∧ ∀ (j : Nat) (w : U), j ≠ i → ρv[j]? = some (some w) → ρ[j]? ≠ some (some (.cell c))
theorem EV.weak {S S' γ : List Nat} {M : Mem} {ρv ρ : Env} (h : EV S γ M ρv ρ) (w : ∀ i ∈ S', i ∈ S) : EV S' γ M ρv ρ := ⟨h.len, h.ok, fun i hi => h.own i (w i hi)⟩
theorem EV.nil {S γ : List Nat} {M : Mem} {ρv ρ : Env} (h : EV S γ M ρv ρ) : EV [] γ M ρv ρ := h.weak fun _ z => (by cases z)
theorem EV.ext {S γ γ' : List Nat} {M M' : Mem} {ρv ρ : Env} (h : EV S γ M ρv ρ) (x : Fx γ γ' M M') : EV S γ' M' ρv ρ := by
  refine ⟨h.len, fun i v hv => ?_, fun i hi => ?_⟩
  · obtain ⟨u, h1, h2⟩ := h.ok i v hv
    exact ⟨u, h1, h2.ext x⟩
  · obtain ⟨c, f, ds, h1, h2, h3, h4, h5⟩ := h.own i hi
    have hc := (List.getElem?_eq_some_iff.mp h4).1
    exact ⟨c, f, ds, h1, h2, x.out hc h3, (x.old c hc h3).trans h4, h5⟩
def Pr (S γ : List Nat) (ρv ρ : Env) (M : Mem) (u : U) : Prop := ∀ c, u = .cell c → c ∉ γ → M.length ≤ c ∨ ∃ i w, i ∉ S ∧ ρv[i]? = some (some w) ∧ ρ[i]? = some (some (.cell c))
theorem Pr.mono {S γ γ' : List Nat} {ρv ρ : Env} {M M0 : Mem} {u : U} (h : Pr S γ ρv ρ M u) (x : ∀ c, c ∈ γ → c ∈ γ') (l : M0.length ≤ M.length) : Pr S γ' ρv ρ M0 u := fun c hc n => by
  rcases h c hc (fun z => n (x c z)) with h1 | h1
  · exact .inl (Nat.le_trans l h1)
  · exact .inr h1
theorem Fx.sub {γ γ' : List Nat} {M M' : Mem} (x : Fx γ γ' M M') : ∀ c, c ∈ γ → c ∈ γ' := fun c h => by
  obtain ⟨j, hj⟩ := List.mem_iff_getElem?.mp h
  exact List.mem_of_getElem? (x.pre j c hj)
theorem pr_new {S γ : List Nat} {ρv ρ : Env} {M : Mem} {u : U} (h : ∀ c, u = .cell c → c ∉ γ → M.length ≤ c) : Pr S γ ρv ρ M u := fun c hc n => .inl (h c hc n)
theorem pr_dat {S γ : List Nat} {ρv ρ : Env} {M : Mem} {d : PyData} : Pr S γ ρv ρ M (.dat d) := fun c hc => by cases hc
structure VJ (S : List Nat) (m v : ME) : Prop where
  run : ∀ (γ : List Nat) (ρ ρv : Env) (M Mv : Mem) (r : U) (Mv' : Mem), SR γ Mv M → EV S γ M ρv ρ → v ρv Mv = some (r, Mv') →
    ∃ γ' u M', m ρ M = some (u, M') ∧ SR γ' Mv' M' ∧ UR γ' M' r u ∧ Fx γ γ' M M' ∧ Pr S γ' ρv ρ M u
structure VT (m v : MT) : Prop where
  run : ∀ (γ : List Nat) (ρ ρv : Env) (M Mv : Mem) (b : Bool) (Mv' : Mem), SR γ Mv M → EV [] γ M ρv ρ → v ρv Mv = some (b, Mv') →
    ∃ γ' M', m ρ M = some (b, M') ∧ SR γ' Mv' M' ∧ Fx γ γ' M M'
structure VA (S : List Nat) (m v : MA) : Prop where
  run : ∀ (γ : List Nat) (ρ ρv : Env) (M Mv : Mem) (rs : List U) (Mv' : Mem), SR γ Mv M → EV S γ M ρv ρ → v ρv Mv = some (rs, Mv') →
    ∃ γ' us M', m ρ M = some (us, M') ∧ SR γ' Mv' M' ∧ URs γ' M' rs us ∧ Fx γ γ' M M' ∧ ∀ u ∈ us, Pr S γ' ρv ρ M u
section
variable {S : List Nat} {ma mb mc va vb vc : ME} {mt mu vt vu : MT}
theorem vj_var {i : Nat} (hi : i ∉ S) : VJ S (eVar i) (eVar i) := ⟨fun γ ρ ρv M Mv r Mv' s ev e => by
  unfold eVar at e ⊢
  split at e
  · rename_i w hw
    cases e
    obtain ⟨u, h1, h2⟩ := ev.ok i _ hw
    refine ⟨γ, u, M, by rw [h1], s, h2, Fx.refl, fun c hc n => .inr ⟨i, _, hi, hw, by rw [h1, hc]⟩⟩
  · cases e⟩
theorem vj_c {d : PyData} : VJ S (eC d) (eC d) := ⟨fun γ ρ ρv M Mv r Mv' s ev e => by
  cases e
  exact ⟨γ, _, M, rfl, s, .of (.dat d), Fx.refl, pr_dat⟩⟩
theorem vj_ty {n : String} : VJ S (eK (.ty n)) (eK (.ty n)) := ⟨fun γ ρ ρv M Mv r Mv' s ev e => by
  cases e
  exact ⟨γ, _, M, rfl, s, .of (.ty n), Fx.refl, fun c hc => by cases hc⟩⟩
theorem vj_adr {n : Addr} : VJ S (eK (.adr n)) (eK (.adr n)) := ⟨fun γ ρ ρv M Mv r Mv' s ev e => by
  cases e
  exact ⟨γ, _, M, rfl, s, .of (.adr n), Fx.refl, fun c hc => by cases hc⟩⟩
theorem vj_op {f g : F2} (n : N2 f g) (ha : VJ [] ma va) (hb : VJ [] mb vb) : VJ S (eOp f ma mb) (eOp g va vb) := ⟨fun γ ρ ρv M Mv r Mv' s ev e => by
  unfold eOp at e
  split at e
  · rename_i x M1 e1
    split at e
    · rename_i y M2 e2
      obtain ⟨γ1, u1, N1, q1, s1, r1, x1, _⟩ := ha.run γ ρ ρv M Mv x M1 s ev.nil e1
      obtain ⟨γ2, u2, N2, q2, s2, r2, x2, _⟩ := hb.run γ1 ρ ρv N1 M1 y M2 s1 (ev.nil.ext x1) e2
      obtain ⟨z, N3, q3, rfl, s3, r3, x3, p3⟩ := n γ2 M2 N2 x y u1 u2 r Mv' s2 (r1.ext x2) r2 e
      refine ⟨γ2, z, N3, by unfold eOp; rw [q1]; simp only; rw [q2]; exact q3, s3, r3, x1.trans (x2.trans x3), pr_new fun c hc n => ?_⟩
      have := p3 c hc n
      have := x1.len
      have := x2.len
      omega
    · cases e
  · cases e⟩
theorem ur_bool {γ : List Nat} {M : Mem} {b : Bool} {u : U} (h : UR γ M (.dat (.bool b)) u) : u = .dat (.bool b) := by
  cases h with
  | of h => cases h; rfl
theorem ur_dat {γ : List Nat} {M : Mem} {d : PyData} {u : U} (h : UR γ M (.dat d) u) : u = .dat d := by
  cases h with
  | of h => cases h; rfl
theorem vj_chain {f g f' g' : F2} (n : N2 f f') (n' : N2 g g') (ha : VJ [] ma va) (hb : VJ [] mb vb) (hc : VJ [] mc vc) : VJ S (eChain f g ma mb mc) (eChain f' g' va vb vc) := ⟨fun γ ρ ρv M Mv r Mv' s ev e => by
  unfold eChain at e
  split at e
  · rename_i x M1 e1
    split at e
    · rename_i y M2 e2
      obtain ⟨γ1, u1, N1, q1, s1, r1, x1, _⟩ := ha.run γ ρ ρv M Mv x M1 s ev.nil e1
      obtain ⟨γ2, u2, N2, q2, s2, r2, x2, _⟩ := hb.run γ1 ρ ρv N1 M1 y M2 s1 (ev.nil.ext x1) e2
      split at e
      · rename_i M3 e3
        obtain ⟨z, N3, q3, rfl, s3, r3, x3, p3⟩ := n γ2 M2 N2 x y u1 u2 _ M3 s2 (r1.ext x2) r2 e3
        obtain rfl := ur_bool r3
        split at e
        · rename_i w M4 e4
          obtain ⟨γ4, u4, N4, q4, s4, r4, x4, _⟩ := hc.run γ2 ρ ρv N3 M3 w M4 s3 (ev.nil.ext (x1.trans (x2.trans x3))) e4
          obtain ⟨t, N5, q5, rfl, s5, r5, x5, p5⟩ := n' γ4 M4 N4 y w u2 u4 r Mv' s4 (r2.ext (x3.trans x4)) r4 e
          refine ⟨γ4, t, N5, by unfold eChain; rw [q1]; simp only; rw [q2]; simp only; rw [q3]; simp only; rw [q4]; exact q5, s5, r5, x1.trans (x2.trans (x3.trans (x4.trans x5))), pr_new fun c hc n => ?_⟩
          have := p5 c hc n
          have := (x1.trans (x2.trans (x3.trans x4))).len
          omega
        · cases e
      · rename_i M3 e3
        obtain ⟨z, N3, q3, rfl, s3, r3, x3, p3⟩ := n γ2 M2 N2 x y u1 u2 _ M3 s2 (r1.ext x2) r2 e3
        obtain rfl := ur_bool r3
        cases e
        exact ⟨γ2, _, N3, by unfold eChain; rw [q1]; simp only; rw [q2]; simp only; rw [q3], s3, r3, x1.trans (x2.trans x3), pr_dat⟩
      · cases e
    · cases e
  · cases e⟩
theorem vj_and (ha : VJ [] ma va) (hb : VJ S mb vb) : VJ S (eAnd ma mb) (eAnd va vb) := ⟨fun γ ρ ρv M Mv r Mv' s ev e => by
  unfold eAnd at e
  split at e
  · rename_i M1 e1
    obtain ⟨γ1, u1, N1, q1, s1, r1, x1, _⟩ := ha.run γ ρ ρv M Mv _ M1 s ev.nil e1
    obtain rfl := ur_bool r1
    obtain ⟨γ2, u2, N2, q2, s2, r2, x2, p2⟩ := hb.run γ1 ρ ρv N1 M1 r Mv' s1 (ev.ext x1) e
    exact ⟨γ2, u2, N2, by unfold eAnd; rw [q1]; exact q2, s2, r2, x1.trans x2, p2.mono (fun _ z => z) x1.len⟩
  · rename_i M1 e1
    obtain ⟨γ1, u1, N1, q1, s1, r1, x1, _⟩ := ha.run γ ρ ρv M Mv _ M1 s ev.nil e1
    obtain rfl := ur_bool r1
    cases e
    exact ⟨γ1, _, N1, by unfold eAnd; rw [q1], s1, r1, x1, pr_dat⟩
  · cases e⟩
theorem vj_neg (ha : VJ [] ma va) : VJ S (eNeg ma) (eNeg va) := ⟨fun γ ρ ρv M Mv r Mv' s ev e => by
  unfold eNeg at e
  split at e
  · rename_i b M1 e1
    obtain ⟨γ1, u1, N1, q1, s1, r1, x1, _⟩ := ha.run γ ρ ρv M Mv _ M1 s ev.nil e1
    obtain rfl := ur_dat r1
    cases e
    exact ⟨γ1, _, N1, by unfold eNeg; rw [q1], s1, .of (.dat _), x1, pr_dat⟩
  · cases e⟩
theorem vj_if (hc : VT mt vt) (ha : VJ S ma va) (hb : VJ S mb vb) : VJ S (eIf mt ma mb) (eIf vt va vb) := ⟨fun γ ρ ρv M Mv r Mv' s ev e => by
  unfold eIf at e
  split at e
  · rename_i M1 e1
    obtain ⟨γ1, N1, q1, s1, x1⟩ := hc.run γ ρ ρv M Mv _ M1 s ev.nil e1
    obtain ⟨γ2, u2, N2, q2, s2, r2, x2, p2⟩ := ha.run γ1 ρ ρv N1 M1 r Mv' s1 (ev.ext x1) e
    exact ⟨γ2, u2, N2, by unfold eIf; rw [q1]; exact q2, s2, r2, x1.trans x2, p2.mono (fun _ z => z) x1.len⟩
  · rename_i M1 e1
    obtain ⟨γ1, N1, q1, s1, x1⟩ := hc.run γ ρ ρv M Mv _ M1 s ev.nil e1
    obtain ⟨γ2, u2, N2, q2, s2, r2, x2, p2⟩ := hb.run γ1 ρ ρv N1 M1 r Mv' s1 (ev.ext x1) e
    exact ⟨γ2, u2, N2, by unfold eIf; rw [q1]; exact q2, s2, r2, x1.trans x2, p2.mono (fun _ z => z) x1.len⟩
  · cases e⟩
theorem vt_of (ha : VJ [] ma va) : VT (tOf ma) (tOf va) := ⟨fun γ ρ ρv M Mv b Mv' s ev e => by
  unfold tOf at e
  have h : va ρv Mv = some (.dat (.bool b), Mv') := by
    unfold asB at e
    split at e
    · rename_i e1
      cases e
      exact e1
    · cases e
  obtain ⟨γ1, u1, N1, q1, s1, r1, x1, _⟩ := ha.run γ ρ ρv M Mv _ _ s ev h
  obtain rfl := ur_bool r1
  exact ⟨γ1, N1, by unfold tOf; rw [q1]; rfl, s1, x1⟩⟩
theorem vt_tr (ha : VJ [] ma va) : VT (tTrN ma) (tTrN va) := ⟨fun γ ρ ρv M Mv b Mv' s ev e => by
  unfold tTrN at e
  split at e
  · rename_i u M1 e1
    obtain ⟨k, h1, h2⟩ := Option.map_eq_some_iff.mp e
    cases h2
    obtain ⟨γ1, u1, N1, q1, s1, r1, x1, _⟩ := ha.run γ ρ ρv M Mv _ _ s ev e1
    refine ⟨γ1, N1, ?_, s1, x1⟩
    unfold tTrN
    rw [q1]
    simp only
    have ht := truth_nat s1 r1
    unfold truthN at h1 ⊢
    split at h1
    · cases h1
    · rename_i hn
      rw [ht] at h1
      split
      · have hd := r1.dOf
        exact (hn _ (dOf_some hd)).elim
      · rw [h1]
        rfl
  · cases e⟩
theorem vt_and (ha : VT mt vt) (hb : VT mu vu) : VT (tAndM mt mu) (tAndM vt vu) := ⟨fun γ ρ ρv M Mv b Mv' s ev e => by
  unfold tAndM at e
  split at e
  · rename_i M1 e1
    obtain ⟨γ1, N1, q1, s1, x1⟩ := ha.run γ ρ ρv M Mv _ M1 s ev e1
    obtain ⟨γ2, N2, q2, s2, x2⟩ := hb.run γ1 ρ ρv N1 M1 b Mv' s1 (ev.ext x1) e
    exact ⟨γ2, N2, by unfold tAndM; rw [q1]; exact q2, s2, x1.trans x2⟩
  · rename_i M1 e1
    obtain ⟨γ1, N1, q1, s1, x1⟩ := ha.run γ ρ ρv M Mv _ M1 s ev e1
    cases e
    exact ⟨γ1, N1, by unfold tAndM; rw [q1], s1, x1⟩
  · cases e⟩
theorem vt_or (ha : VT mt vt) (hb : VT mu vu) : VT (tOrM mt mu) (tOrM vt vu) := ⟨fun γ ρ ρv M Mv b Mv' s ev e => by
  unfold tOrM at e
  split at e
  · rename_i M1 e1
    obtain ⟨γ1, N1, q1, s1, x1⟩ := ha.run γ ρ ρv M Mv _ M1 s ev e1
    cases e
    exact ⟨γ1, N1, by unfold tOrM; rw [q1], s1, x1⟩
  · rename_i M1 e1
    obtain ⟨γ1, N1, q1, s1, x1⟩ := ha.run γ ρ ρv M Mv _ M1 s ev e1
    obtain ⟨γ2, N2, q2, s2, x2⟩ := hb.run γ1 ρ ρv N1 M1 b Mv' s1 (ev.ext x1) e
    exact ⟨γ2, N2, by unfold tOrM; rw [q1]; exact q2, s2, x1.trans x2⟩
  · cases e⟩
theorem vt_not (ha : VT mt vt) : VT (tNotM mt) (tNotM vt) := ⟨fun γ ρ ρv M Mv b Mv' s ev e => by
  unfold tNotM at e
  split at e
  · rename_i k M1 e1
    obtain ⟨γ1, N1, q1, s1, x1⟩ := ha.run γ ρ ρv M Mv _ M1 s ev e1
    cases e
    exact ⟨γ1, N1, by unfold tNotM; rw [q1], s1, x1⟩
  · cases e⟩
theorem vt_yes : VT tYesM tYesM := ⟨fun γ ρ ρv M Mv b Mv' s ev e => by
  cases e
  exact ⟨γ, M, rfl, s, Fx.refl⟩⟩
/-! ### arguments -/
variable {m v : MA}
theorem va_nil : VA S aNil aNil := ⟨fun γ ρ ρv M Mv r Mv' s ev e => by
  cases e
  exact ⟨γ, [], M, rfl, s, .nil, Fx.refl, fun u h => (by cases h)⟩⟩
theorem va_cons (ha : VJ S ma va) (hr : VA S m v) : VA S (aCons ma m) (aCons va v) := ⟨fun γ ρ ρv M Mv r Mv' s ev e => by
  unfold aCons at e
  split at e
  · rename_i x M1 e1
    split at e
    · rename_i xs M2 e2
      cases e
      obtain ⟨γ1, u1, N1, q1, s1, r1, x1, p1⟩ := ha.run γ ρ ρv M Mv x M1 s ev e1
      obtain ⟨γ2, us, N2, q2, s2, r2, x2, p2⟩ := hr.run γ1 ρ ρv N1 M1 xs _ s1 (ev.ext x1) e2
      refine ⟨γ2, u1 :: us, N2, by unfold aCons; rw [q1]; simp only; rw [q2], s2, .cons (r1.ext x2) r2, x1.trans x2, fun u hu => ?_⟩
      rcases List.mem_cons.mp hu with rfl | hu
      · exact p1.mono x2.sub (Nat.le_refl _)
      · exact (p2 u hu).mono (fun _ z => z) x1.len
    · cases e
  · cases e⟩
/-! ### calls -/
def NA (f g : FA) : Prop := ∀ (γ : List Nat) (Mv M : Mem) (vs us : List U) (r : U) (Mv' : Mem), SR γ Mv M → URs γ M vs us → g vs Mv = some (r, Mv') →
  ∃ y M', f us M = some (y, M') ∧ Mv' = Mv ∧ SR γ Mv M' ∧ UR γ M' r y ∧ Fx γ γ M M' ∧ ∀ c, y = .cell c → c ∉ γ → M.length ≤ c
structure VF (f g : FA) : Prop where
  run : ∀ (γ : List Nat) (Mv M : Mem) (vs us : List U) (r : U) (Mv' : Mem), SR γ Mv M → URs γ M vs us → g vs Mv = some (r, Mv') →
    ∃ γ' u M', f us M = some (u, M') ∧ SR γ' Mv' M' ∧ UR γ' M' r u ∧ Fx γ γ' M M' ∧ ∀ c, u = .cell c → c ∉ γ' → M.length ≤ c ∨ u ∈ us
theorem vj_cb {f g : FA} (n : NA f g) (ha : VA [] m v) : VJ S (eCB f m) (eCB g v) := ⟨fun γ ρ ρv M Mv r Mv' s ev e => by
  unfold eCB at e
  split at e
  · rename_i xs M1 e1
    obtain ⟨γ1, us, N1, q1, s1, r1, x1, _⟩ := ha.run γ ρ ρv M Mv xs M1 s ev.nil e1
    obtain ⟨z, N3, q3, rfl, s3, r3, x3, p3⟩ := n γ1 M1 N1 xs us r Mv' s1 r1 e
    refine ⟨γ1, z, N3, by unfold eCB; rw [q1]; exact q3, s3, r3, x1.trans x3, pr_new fun c hc n => Nat.le_trans x1.len (p3 c hc n)⟩
  · cases e⟩
theorem vj_call {f g : FA} (n : VF f g) (ha : VA S m v) : VJ S (eCB f m) (eCB g v) := ⟨fun γ ρ ρv M Mv r Mv' s ev e => by
  unfold eCB at e
  split at e
  · rename_i xs M1 e1
    obtain ⟨γ1, us, N1, q1, s1, r1, x1, p1⟩ := ha.run γ ρ ρv M Mv xs M1 s ev e1
    obtain ⟨γ3, z, N3, q3, s3, r3, x3, p3⟩ := n.run γ1 M1 N1 xs us r Mv' s1 r1 e
    refine ⟨γ3, z, N3, by unfold eCB; rw [q1]; exact q3, s3, r3, x1.trans x3, fun c hc n => ?_⟩
    rcases p3 c hc n with h | h
    · exact .inl (Nat.le_trans x1.len h)
    · exact p1 z h c hc fun k => n (x3.sub c k)
  · cases e⟩
structure KR (gU : List U → List U → List U) : Prop where
  rel : ∀ {γ : List Nat} {M : Mem} {vs us ws ys : List U}, URs γ M vs us → URs γ M ws ys → URs γ M (gU vs ws) (gU us ys)
  mem : ∀ {us ys : List U} {u : U}, u ∈ gU us ys → u ∈ us ∨ u ∈ ys
theorem vj_ck {f g : FA} {gU : List U → List U → List U} {mk vk : MA} (n : VF f g) (kr : KR gU) (ha : VA S m v) (hk : VA S mk vk) : VJ S (eCK f gU m mk) (eCK g gU v vk) := ⟨fun γ ρ ρv M Mv r Mv' s ev e => by
  unfold eCK at e
  split at e
  · rename_i xs M1 e1
    split at e
    · rename_i ys M2 e2
      obtain ⟨γ1, us, N1, q1, s1, r1, x1, p1⟩ := ha.run γ ρ ρv M Mv xs M1 s ev e1
      obtain ⟨γ2, ws, N2, q2, s2, r2, x2, p2⟩ := hk.run γ1 ρ ρv N1 M1 ys M2 s1 (ev.ext x1) e2
      obtain ⟨γ3, z, N3, q3, s3, r3, x3, p3⟩ := n.run γ2 M2 N2 _ _ r Mv' s2 (kr.rel (r1.ext x2) r2) e
      refine ⟨γ3, z, N3, by unfold eCK; rw [q1]; simp only; rw [q2]; exact q3, s3, r3, x1.trans (x2.trans x3), fun c hc n => ?_⟩
      rcases p3 c hc n with h | h
      · exact .inl (Nat.le_trans (x1.trans x2).len h)
      · rcases kr.mem h with h | h
        · exact p1 z h c hc fun k => n (x3.sub c (x2.sub c k))
        · rcases p2 z h c hc fun k => n (x3.sub c k) with h | h
          · exact .inl (Nat.le_trans x1.len h)
          · exact .inr h
    · cases e
  · cases e⟩
end
end Pu

namespace Pu
open PySem PySem.Spec PyProof.Rows L2 Lw
open Classical
/-! ### built-in functions -/
section
variable {γ : List Nat} {Mv M : Mem}
theorem urs1 {v : U} {us : List U} (h : URs γ M [v] us) : ∃ u, us = [u] ∧ UR γ M v u := by
  cases h with
  | cons h t => cases t; exact ⟨_, rfl, h⟩
theorem urs2 {v w : U} {us : List U} (h : URs γ M [v, w] us) : ∃ u x, us = [u, x] ∧ UR γ M v u ∧ UR γ M w x := by
  cases h with
  | cons h t =>
    cases t with
    | cons h' t => cases t; exact ⟨_, _, rfl, h, h'⟩
end
/-- reading: a dat comes out, nothing is changed -/
theorem NA.dat {f : FA} (h : ∀ (γ : List Nat) (Mv M : Mem) (vs us : List U) (r : U) (Mv' : Mem), SR γ Mv M → URs γ M vs us → f vs Mv = some (r, Mv') → Mv' = Mv ∧ ∃ d, r = .dat d ∧ f us M = some (.dat d, M)) : NA f f := by
  intro γ Mv M vs us r Mv' s rs e
  obtain ⟨rfl, d, rfl, h1⟩ := h γ Mv M vs us r Mv' s rs e
  exact ⟨_, M, h1, rfl, s, .of (.dat d), Fx.refl, fun c hc => by cases hc⟩
theorem na_len : NA lenF lenF := .dat fun γ Mv M vs us r Mv' s rs e => by
  unfold lenF at e
  split at e
  · rename_i w
    obtain ⟨u, rfl, r1⟩ := urs1 rs
    rcases seqOf_nat s r1 with ⟨h1, h2⟩ | ⟨ws, ys, h1, h2, h3⟩
    · simp only [h1] at e
      have hd := r1.dOf
      split at e
      · obtain rfl := dOf_some hd.symm
        split at e
        · rename_i hz
          cases e
          refine ⟨rfl, _, rfl, ?_⟩
          unfold lenF
          simp only [h2, if_pos hz]
        · cases e
      · cases e
    · simp only [h1] at e
      cases e
      refine ⟨rfl, _, rfl, ?_⟩
      unfold lenF
      simp only [h2, h3.length]
  · cases e
theorem na_dat1 {f : FA} (h : ∀ vs M r M', f vs M = some (r, M') → ∃ ds : List PyData, vs = ds.map .dat ∧ M' = M ∧ ∃ d, r = .dat d ∧ ∀ N, f (ds.map .dat) N = some (.dat d, N)) : NA f f := .dat fun γ Mv M vs us r Mv' s rs e => by
  obtain ⟨ds, rfl, rfl, d, rfl, hh⟩ := h _ _ _ _ e
  refine ⟨rfl, d, rfl, ?_⟩
  have : us = ds.map .dat := by
    clear hh e
    induction ds generalizing us with
    | nil => cases rs; rfl
    | cons d ds ih =>
      cases rs with
      | cons h t => rw [ur_dat h, ih _ t]; rfl
  rw [this]
  exact hh M
theorem na_abs : NA absF absF := na_dat1 fun vs M r M' e => by
  unfold absF at e
  split at e
  · cases e; exact ⟨[_], rfl, rfl, _, rfl, fun _ => rfl⟩
  · cases e
theorem na_min2 : NA min2F min2F := na_dat1 fun vs M r M' e => by
  unfold min2F at e
  split at e
  · cases e; exact ⟨[_, _], rfl, rfl, _, rfl, fun _ => rfl⟩
  · cases e
theorem na_int : NA intF intF := na_dat1 fun vs M r M' e => by
  unfold intF at e
  split at e
  · cases e; exact ⟨[_], rfl, rfl, _, rfl, fun _ => rfl⟩
  · cases e; exact ⟨[_], rfl, rfl, _, rfl, fun _ => rfl⟩
  · cases e
theorem na_str : NA strF strF := na_dat1 fun vs M r M' e => by
  unfold strF at e
  split at e
  · rename_i d
    split at e
    · rename_i i hi
      split at e
      · rename_i hz
        cases e
        refine ⟨[_], rfl, rfl, _, rfl, fun N => ?_⟩
        show strF [.dat d] N = _
        unfold strF
        simp only [hi, if_pos hz]
      · cases e
    · cases e
  · cases e
theorem UR0s.bools {γ : List Nat} : ∀ {vs us : List U}, UR0s γ vs us → boolsOf vs = boolsOf us
  | _, _, .nil => rfl
  | _, _, .cons h t => by
    have ih := t.bools
    cases h with
    | dat d =>
      cases d with
      | bool b =>
        show (boolsOf _).map _ = (boolsOf _).map _
        rw [ih]
      | _ => rfl
    | _ => rfl
theorem UR0s.ints {γ : List Nat} : ∀ {vs us : List U}, UR0s γ vs us → Pu.intsOf vs = Pu.intsOf us
  | _, _, .nil => rfl
  | _, _, .cons h t => by
    have ih := t.ints
    cases h with
    | dat d =>
      cases d with
      | int b =>
        show (Pu.intsOf _).map _ = (Pu.intsOf _).map _
        rw [ih]
      | _ => rfl
    | _ => rfl
theorem UR0s.strs {γ : List Nat} : ∀ {vs us : List U}, UR0s γ vs us → strsOf vs = strsOf us
  | _, _, .nil => rfl
  | _, _, .cons h t => by
    have ih := t.strs
    cases h with
    | dat d =>
      cases d with
      | str b =>
        show (strsOf _).map _ = (strsOf _).map _
        rw [ih]
      | _ => rfl
    | _ => rfl
theorem na_bs (g : List Bool → Bool) : NA (bsF g) (bsF g) := .dat fun γ Mv M vs us r Mv' s rs e => by
  unfold bsF at e
  split at e
  · rename_i w
    obtain ⟨u, rfl, r1⟩ := urs1 rs
    rcases lstOf_nat s r1 with ⟨h1, h2⟩ | ⟨ws, ys, h1, h2, h3⟩
    · simp only [h1, Option.bind] at e
      cases e
    · simp only [h1, Option.bind, h3.bools] at e
      split at e
      · rename_i bs hb
        cases e
        refine ⟨rfl, _, rfl, ?_⟩
        unfold bsF
        simp only [h2, Option.bind, hb]
      · cases e
  · cases e
theorem na_all : NA allF allF := na_bs _
/-- repr: a list that is a value is shown as one that is made of data -/
noncomputable def vreprF : FA := fun us M => match us with
  | [.dat d] => if Ok d then some (.dat (.str d.shown), M) else none
  | [.lv ds] => if Ok (.list ds) ∧ (PyData.list ds).hasDict = false then some (.dat (.str (PyData.list ds).shown), M) else none
  | _ => none
theorem na_repr : NA reprF vreprF := by
  intro γ Mv M vs us r Mv' s rs e
  unfold vreprF at e
  split at e
  · rename_i d
    obtain ⟨u, rfl, r1⟩ := urs1 rs
    obtain rfl := ur_dat r1
    split at e
    · rename_i hz
      cases e
      refine ⟨_, M, ?_, rfl, s, .of (.dat _), Fx.refl, fun c hc => by cases hc⟩
      show (if Ok d then _ else _) = _
      rw [if_pos hz]
    · cases e
  · rename_i ds
    obtain ⟨u, rfl, r1⟩ := urs1 rs
    split at e
    · rename_i hz
      cases e
      have hd := datOf_nat s r1
      cases r1 with
      | lv n l =>
        refine ⟨_, M, ?_, rfl, s, .of (.dat _), Fx.refl, fun c hc => by cases hc⟩
        have hd' : datOf M (.cell _) = some (.list ds) := hd.symm
        unfold reprF
        simp only [hd', if_pos hz]
      | of h => cases h
    · cases e
  · cases e
theorem na_isi : NA isiF isiF := .dat fun γ Mv M vs us r Mv' s rs e => by
  unfold isiF at e
  split at e
  · rename_i w n
    obtain ⟨u, x, rfl, r1, r2⟩ := urs2 rs
    have hx : x = .ty n := by
      cases r2 with
      | of h => cases h; rfl
    subst hx
    rw [tyOf_nat s r1] at e
    split at e
    · rename_i t ht
      obtain ⟨b, h1, h2⟩ := Option.map_eq_some_iff.mp e
      cases h2
      refine ⟨rfl, _, rfl, ?_⟩
      unfold isiF
      simp only [ht, h1, Option.map]
    · cases e
  · cases e
def vlistF : FA := fun us M => match us with
  | [u] => match (seqOf M u).bind allDat with
    | some ds => some (.lv ds, M)
    | none => none
  | _ => none
theorem na_list : NA listF vlistF := by
  intro γ Mv M vs us r Mv' s rs e
  unfold vlistF at e
  split at e
  · rename_i w
    obtain ⟨u, rfl, r1⟩ := urs1 rs
    split at e
    · rename_i ds hds
      cases e
      obtain ⟨ws, h1, h2⟩ := Option.bind_eq_some_iff.mp hds
      rcases seqOf_nat s r1 with ⟨g1, _⟩ | ⟨ws', ys, g1, g2, g3⟩
      · rw [g1] at h1
        cases h1
      · rw [g1] at h1
        cases h1
        have hy := g3.eqDat h2
        subst hy
        cases ht : tupOf u with
        | some zs =>
          have hz : zs = ds.map .dat := by
            have : seqOf M u = some zs := by
              unfold seqOf
              split
              · cases ht
              · cases ht
              · rw [ht]
            rw [this] at g2
            exact Option.some.inj g2
          subst hz
          obtain ⟨s', x'⟩ := sr_new s (.lst true (ds.map .dat))
          refine ⟨.cell M.length, _, ?_, rfl, s', ur_new s true ds, x', fun c hc _ => by cases hc; exact Nat.le_refl _⟩
          unfold listF
          simp only [ht]
        | none =>
          obtain ⟨s', x'⟩ := sr_new s (.lst false (ds.map .dat))
          refine ⟨.cell M.length, _, ?_, rfl, s', ur_new s false ds, x', fun c hc _ => by cases hc; exact Nat.le_refl _⟩
          unfold listF
          simp only [ht, g2]
    · cases e
  · cases e
def vtupleF : FA := fun us M => match us with
  | [u] => match tupOf u with
    | some _ => some (u, M)
    | none => match (lstOf M u).bind allDat with
      | some ds => some (.dat (.tuple ds), M)
      | none => none
  | _ => none
theorem na_tuple : NA tupleF vtupleF := by
  intro γ Mv M vs us r Mv' s rs e
  unfold vtupleF at e
  split at e
  · rename_i w
    obtain ⟨u, rfl, r1⟩ := urs1 rs
    rcases tupOf_nat r1 with ⟨h1, h2⟩ | ⟨ws, ys, h1, h2, h3⟩
    · simp only [h1] at e
      split at e
      · rename_i ds hds
        cases e
        obtain ⟨ws, k1, k2⟩ := Option.bind_eq_some_iff.mp hds
        rcases lstOf_nat s r1 with ⟨g1, _⟩ | ⟨ws', ys, g1, g2, g3⟩
        · rw [g1] at k1
          cases k1
        · rw [g1] at k1
          cases k1
          have hy := g3.eqDat k2
          subst hy
          refine ⟨.dat (.tuple ds), M, ?_, rfl, s, .of (.dat _), Fx.refl, fun c hc => by cases hc⟩
          unfold tupleF
          simp only [h2, g2, frzAll_dat, mkTup_dat]
      · cases e
    · simp only [h1] at e
      cases e
      refine ⟨u, M, ?_, rfl, s, r1, Fx.refl, fun c hc n => ?_⟩
      · unfold tupleF
        simp only [h2]
      · subst hc
        cases h2
  · cases e
noncomputable def vsortF : FA := fun us M => match us with
  | [u] => match (lstOf M u).bind allDat with
    | some ds => if SortOk ds then some (.lv (sortD ds), M) else none
    | none => none
  | _ => none
/-! ### methods -/
def NM (f g : FM) : Prop := ∀ (γ : List Nat) (Mv M : Mem) (v u : U) (vs us : List U) (r : U) (Mv' : Mem), SR γ Mv M → UR γ M v u → URs γ M vs us → g v vs Mv = some (r, Mv') →
  ∃ y M', f u us M = some (y, M') ∧ Mv' = Mv ∧ SR γ Mv M' ∧ UR γ M' r y ∧ Fx γ γ M M' ∧ ∀ c, y = .cell c → c ∉ γ → M.length ≤ c
theorem isTyM_nat {γ : List Nat} {Mv M : Mem} {v u : U} {T : String} (s : SR γ Mv M) (h : UR γ M v u) : isTyM T Mv v = isTyM T M u := by
  unfold isTyM
  split
  · rcases lstOf_nat s h with ⟨h1, h2⟩ | ⟨ws, ys, h1, h2, h3⟩ <;> rw [h1, h2] <;> rfl
  · split
    · cases h with
      | lv => rfl
      | of h => cases h <;> rfl
    · rfl
section
variable {S : List Nat} {ma va : ME} {m v : MA}
theorem vj_mt {T : String} {f g : FM} (n : NM f g) (ho : VJ [] ma va) (ha : VA [] m v) : VJ S (eMt T f ma m) (eMt T g va v) := ⟨fun γ ρ ρv M Mv r Mv' s ev e => by
  unfold eMt at e
  split at e
  · rename_i x M1 e1
    split at e
    · rename_i hT
      split at e
      · rename_i xs M2 e2
        obtain ⟨γ1, u1, N1, q1, s1, r1, x1, _⟩ := ho.run γ ρ ρv M Mv x M1 s ev.nil e1
        obtain ⟨γ2, us, N2, q2, s2, r2, x2, _⟩ := ha.run γ1 ρ ρv N1 M1 xs M2 s1 (ev.nil.ext x1) e2
        obtain ⟨z, N3, q3, rfl, s3, r3, x3, p3⟩ := n γ2 M2 N2 x u1 xs us r Mv' s2 (r1.ext x2) r2 e
        refine ⟨γ2, z, N3, ?_, s3, r3, x1.trans (x2.trans x3), pr_new fun c hc n => Nat.le_trans (x1.trans x2).len (p3 c hc n)⟩
        unfold eMt
        rw [q1]
        simp only
        rw [if_pos (by rw [← isTyM_nat s1 r1]; exact hT), q2]
        exact q3
      · cases e
    · cases e
  · cases e⟩
theorem nm_join : NM joinF joinF := by
  intro γ Mv M v u vs us r Mv' s r1 rs e
  unfold joinF at e
  split at e
  · rename_i z y
    obtain rfl := ur_dat r1
    obtain ⟨w, rfl, r2⟩ := urs1 rs
    rcases seqOf_nat s r2 with ⟨h1, h2⟩ | ⟨ws, ys, h1, h2, h3⟩
    · simp only [h1, Option.bind] at e
      cases e
    · simp only [h1, Option.bind, h3.strs] at e
      split at e
      · rename_i ss hs
        split at e
        · rename_i hz
          cases e
          refine ⟨_, M, ?_, rfl, s, .of (.dat _), Fx.refl, fun c hc => by cases hc⟩
          unfold joinF
          simp only [h2, Option.bind, hs, if_pos hz]
        · cases e
      · cases e
  · cases e
/-! ### slices -/
structure VO (m v : MO) : Prop where
  run : ∀ (γ : List Nat) (ρ ρv : Env) (M Mv : Mem) (b : Option Int) (Mv' : Mem), SR γ Mv M → EV [] γ M ρv ρ → v ρv Mv = some (b, Mv') →
    ∃ γ' M', m ρ M = some (b, M') ∧ SR γ' Mv' M' ∧ Fx γ γ' M M'
theorem vo_none : VO oNone oNone := ⟨fun γ ρ ρv M Mv b Mv' s ev e => by
  cases e
  exact ⟨γ, M, rfl, s, Fx.refl⟩⟩
theorem vo_some (ha : VJ [] ma va) : VO (oSome ma) (oSome va) := ⟨fun γ ρ ρv M Mv b Mv' s ev e => by
  unfold oSome at e
  split at e
  · rename_i i M1 e1
    cases e
    obtain ⟨γ1, u1, N1, q1, s1, r1, x1, _⟩ := ha.run γ ρ ρv M Mv _ _ s ev e1
    obtain rfl := ur_dat r1
    exact ⟨γ1, N1, by unfold oSome; rw [q1], s1, x1⟩
  · cases e⟩
def vslU (u : U) (lo hi : Option Int) (M : Mem) : Option (U × Mem) := match dtup u with
  | some ds => some (.dat (.tuple (Lw.cutD ds lo hi)), M)
  | none => match lstOf M u with
    | some us => match allDat us with
      | some ds => some (.lv (cutD ds lo hi), M)
      | none => none
    | none => match u with
      | .dat (.str z) => if z.length ≤ sizeLine then some (.dat (.str (cutS z lo hi)), M) else none
      | _ => none
theorem UR0s.cut {γ : List Nat} {vs us : List U} (h : UR0s γ vs us) (lo hi : Option Int) : UR0s γ (cutU vs lo hi) (cutU us lo hi) := by
  unfold cutU
  rw [h.length]
  exact (h.drop _).take _
def vSl (ma : ME) (ml mh : MO) : ME := fun ρ M => match ma ρ M with
  | some (x, M1) => match ml ρ M1 with
    | some (l, M2) => match mh ρ M2 with
      | some (h, M3) => vslU x l h M3
      | none => none
    | none => none
  | none => none
theorem vj_sl {ml mh vl vh : MO} (ha : VJ [] ma va) (hl : VO ml vl) (hh : VO mh vh) : VJ S (eSl ma ml mh) (vSl va vl vh) := ⟨fun γ ρ ρv M Mv r Mv' s ev e => by
  unfold vSl at e
  split at e
  · rename_i x M1 e1
    split at e
    · rename_i lo M2 e2
      split at e
      · rename_i hi M3 e3
        obtain ⟨γ1, u1, N1, q1, s1, r1, x1, _⟩ := ha.run γ ρ ρv M Mv _ _ s ev.nil e1
        obtain ⟨γ2, N2, q2, s2, x2⟩ := hl.run γ1 ρ ρv N1 M1 _ _ s1 (ev.nil.ext x1) e2
        obtain ⟨γ3, N3, q3, s3, x3⟩ := hh.run γ2 ρ ρv N2 M2 _ _ s2 (ev.nil.ext (x1.trans x2)) e3
        have r3 := r1.ext (x2.trans x3)
        have x0 := x1.trans (x2.trans x3)
        have eq : eSl ma ml mh ρ M = slU u1 lo hi N3 := by
          unfold eSl
          rw [q1]
          simp only
          rw [q2]
          simp only
          rw [q3]
        rw [eq]
        unfold vslU at e
        have hdt : dtup x = dtup u1 := dtM_n s3 r3
        rw [hdt] at e
        cases h2 : dtup u1 with
        | some ds =>
          simp only [h2] at e
          cases e
          refine ⟨γ3, _, N3, ?_, s3, .of (.dat _), x0, pr_dat⟩
          unfold slU
          simp only [h2]
        | none =>
          simp only [h2] at e
          rcases lstOf_nat s3 r3 with ⟨g1, g2⟩ | ⟨ws, ys, g1, g2, g3⟩
          · simp only [g1] at e
            have hd := r3.dOf
            split at e
            · obtain rfl := dOf_some hd.symm
              split at e
              · rename_i hz
                cases e
                refine ⟨γ3, _, N3, ?_, s3, .of (.dat _), x0, pr_dat⟩
                unfold slU
                simp only [h2, g2, if_pos hz]
              · cases e
            · cases e
          · simp only [g1] at e
            split at e
            · rename_i ds hds
              cases e
              have hy := g3.eqDat hds
              subst hy
              obtain ⟨s', x'⟩ := sr_new s3 (.lst false ((Lw.cutD ds lo hi).map .dat))
              refine ⟨γ3, .cell N3.length, _, ?_, s', ur_new s3 false _, x0.trans x', pr_new fun c hc _ => by cases hc; exact x0.len⟩
              unfold slU
              simp only [h2, g2, cutU_map]
            · cases e
      · cases e
    · cases e
  · cases e⟩
end
end Pu

namespace Pu
open PySem PySem.Spec PyProof.Rows L2 Lw
open Classical
/-! ### displays -/
inductive XR (γ : List Nat) (n : Nat) (M : Mem) : List PyData → List U → List Nat → Prop
  | nil : XR γ n M [] [] []
  | dat {d : PyData} {ds : List PyData} {us : List U} {cs : List Nat} : XR γ n M ds us cs → XR γ n M (d :: ds) (.dat d :: us) cs
  | cell {c : Nat} {es ds : List PyData} {us : List U} {cs : List Nat} : M[c]? = some (.lst true (es.map .dat)) → n ≤ c → c ∉ γ → c ∉ cs → XR γ n M ds us cs → XR γ n M (.list es :: ds) (.cell c :: us) (c :: cs)
theorem XR.ext {γ γ' : List Nat} {n : Nat} {M M' : Mem} (x : Fx γ γ' M M') : ∀ {ds : List PyData} {us : List U} {cs : List Nat}, XR γ n M ds us cs → XR γ' n M' ds us cs
  | _, _, _, .nil => .nil
  | _, _, _, .dat t => .dat (t.ext x)
  | _, _, _, .cell h1 h2 h3 h4 t => .cell ((x.old _ (List.getElem?_eq_some_iff.mp h1).1 h3).trans h1) h2 (x.out (List.getElem?_eq_some_iff.mp h1).1 h3) h4 (t.ext x)
theorem XR.len {γ : List Nat} {n : Nat} {M : Mem} : ∀ {ds : List PyData} {us : List U} {cs : List Nat}, XR γ n M ds us cs → us.length = ds.length
  | _, _, _, .nil => rfl
  | _, _, _, .dat t => by rw [List.length_cons, List.length_cons, t.len]
  | _, _, _, .cell _ _ _ _ t => by rw [List.length_cons, List.length_cons, t.len]
theorem XR.cells {γ : List Nat} {n : Nat} {M : Mem} : ∀ {ds : List PyData} {us : List U} {cs : List Nat}, XR γ n M ds us cs → ∀ c ∈ cs, n ≤ c ∧ c ∉ γ ∧ c < M.length
  | _, _, _, .nil, c, h => by cases h
  | _, _, _, .dat t, c, h => t.cells c h
  | _, _, _, .cell h1 h2 h3 h4 t, c, h => by
    rcases List.mem_cons.mp h with rfl | h
    · exact ⟨h2, h3, (List.getElem?_eq_some_iff.mp h1).1⟩
    · exact t.cells c h
theorem XR.set {γ : List Nat} {n : Nat} {M : Mem} {b : Nat} {x : Cell} : ∀ {ds : List PyData} {us : List U} {cs : List Nat}, XR γ n M ds us cs → b ∉ cs → XR γ n (M.set b x) ds us cs
  | _, _, _, .nil, _ => .nil
  | _, _, _, .dat t, h => .dat (t.set h)
  | _, _, _, .cell h1 h2 h3 h4 t, h => .cell (by rw [List.getElem?_set_ne (by intro e; subst e; exact h List.mem_cons_self)]; exact h1) h2 h3 h4 (t.set fun z => h (List.mem_cons_of_mem _ z))
theorem XR.frz {γ : List Nat} {n : Nat} : ∀ {M : Mem} {ds : List PyData} {us : List U} {cs : List Nat}, XR γ n M ds us cs → ∃ M2, frzAll us M = (ds.map .dat, M2) ∧ M2.length = M.length ∧ ∀ c, c ∉ cs → M2[c]? = M[c]?
  | M, _, _, _, .nil => ⟨M, rfl, rfl, fun _ _ => rfl⟩
  | M, _, _, _, .dat t => by
    obtain ⟨M2, h1, h2, h3⟩ := t.frz
    refine ⟨M2, ?_, h2, h3⟩
    unfold frzAll frzU
    simp only [h1]
    rfl
  | M, _, _, _, .cell (c := c) (es := es) h1 _ _ h4 t => by
    obtain ⟨M2, g1, g2, g3⟩ := (t.set (b := c) (x := .fz es) h4).frz
    refine ⟨M2, ?_, by rw [g2, List.length_set], fun b hb => ?_⟩
    · unfold frzAll frzU
      simp only [h1, allDat_map, g1]
      rfl
    · rw [g3 b fun z => hb (List.mem_cons_of_mem _ z), List.getElem?_set_ne (by intro e; subst e; exact hb List.mem_cons_self)]
theorem sr_at {γ : List Nat} {Mv M M2 : Mem} (s : SR γ Mv M) (h : ∀ c ∈ γ, M2[c]? = M[c]?) : SR γ Mv M2 := ⟨s.len, s.nd, fun j c x hj hx => by
  obtain ⟨y, hy, r⟩ := s.ok j c x hj hx
  exact ⟨y, by rw [h c (List.mem_of_getElem? hj)]; exact hy, r⟩⟩
theorem sr_set {γ : List Nat} {Mv M : Mem} {n : Nat} {x : Cell} (s : SR γ Mv M) (h : n ∉ γ) : SR γ Mv (M.set n x) := sr_at s fun c hc => List.getElem?_set_ne (by intro e; subst e; exact h hc)
theorem XR.mono {γ : List Nat} {n n' : Nat} {M : Mem} (l : n' ≤ n) : ∀ {ds : List PyData} {us : List U} {cs : List Nat}, XR γ n M ds us cs → XR γ n' M ds us cs
  | _, _, _, .nil => .nil
  | _, _, _, .dat t => .dat (t.mono l)
  | _, _, _, .cell h1 h2 h3 h4 t => .cell h1 (Nat.le_trans l h2) h3 h4 (t.mono l)
structure VX (m v : MA) : Prop where
  run : ∀ (γ : List Nat) (ρ ρv : Env) (M Mv : Mem) (ds : List PyData) (Mv' : Mem), SR γ Mv M → EV [] γ M ρv ρ → v ρv Mv = some (ds.map .dat, Mv') →
    ∃ γ' us M' cs, m ρ M = some (us, M') ∧ SR γ' Mv' M' ∧ Fx γ γ' M M' ∧ XR γ' M.length M' ds us cs
/-- a new list that nobody else holds (t: that may be frozen) -/
structure VFr (t : Bool) (m v : ME) : Prop where
  run : ∀ (γ : List Nat) (ρ ρv : Env) (M Mv : Mem) (r : U) (Mv' : Mem), SR γ Mv M → EV [] γ M ρv ρ → v ρv Mv = some (r, Mv') →
    ∃ γ' c M' ds f, r = .lv ds ∧ m ρ M = some (.cell c, M') ∧ SR γ' Mv' M' ∧ Fx γ γ' M M' ∧ M.length ≤ c ∧ c ∉ γ' ∧ M'[c]? = some (.lst f (ds.map .dat)) ∧ (t = true → f = true)
theorem VFr.vj {t : Bool} {S : List Nat} {m v : ME} (h : VFr t m v) : VJ S m v := ⟨fun γ ρ ρv M Mv r Mv' s ev e => by
  obtain ⟨γ', c, M', ds, f, rfl, q, s', x', hc, hn, hm, _⟩ := h.run γ ρ ρv M Mv r Mv' s ev.nil e
  exact ⟨γ', _, M', q, s', .lv hn (.inl ⟨f, hm⟩), x', pr_new fun b hb _ => by cases hb; exact hc⟩⟩
def fzL (v : ME) : ME := fun ρ M => match v ρ M with
  | some (.lv ds, M1) => some (.dat (.list ds), M1)
  | _ => none
theorem map_cons_inv {x : U} {xs : List U} {ds : List PyData} (h : x :: xs = ds.map .dat) : ∃ d es, ds = d :: es ∧ x = .dat d ∧ xs = es.map .dat := by
  cases ds with
  | nil => cases h
  | cons d es =>
    rw [List.map_cons] at h
    injection h with h1 h2
    exact ⟨d, es, rfl, h1, h2⟩
section
variable {S : List Nat} {ma va : ME} {m v : MA}
theorem vx_nil : VX aNil aNil := ⟨fun γ ρ ρv M Mv ds Mv' s ev e => by
  have e' : some (([] : List U), Mv) = some (ds.map .dat, Mv') := e
  injection e' with e'
  injection e' with e1 e2
  subst e2
  cases ds with
  | nil => exact ⟨γ, [], M, [], rfl, s, Fx.refl, .nil⟩
  | cons d ds => cases e1⟩
theorem vx_cons (ha : VJ [] ma va) (hr : VX m v) : VX (aCons ma m) (aCons va v) := ⟨fun γ ρ ρv M Mv ds Mv' s ev e => by
  unfold aCons at e
  split at e
  · rename_i x M1 e1
    split at e
    · rename_i xs M2 e2
      injection e with e
      injection e with e3 e4
      subst e4
      obtain ⟨d, es, rfl, rfl, rfl⟩ := map_cons_inv e3
      obtain ⟨γ1, u1, N1, q1, s1, r1, x1, _⟩ := ha.run γ ρ ρv M Mv _ M1 s ev e1
      obtain rfl := ur_dat r1
      obtain ⟨γ2, us, N2, cs, q2, s2, x2, xr⟩ := hr.run γ1 ρ ρv N1 M1 es _ s1 (ev.ext x1) e2
      exact ⟨γ2, _, N2, cs, by unfold aCons; rw [q1]; simp only; rw [q2], s2, x1.trans x2, .dat (xr.mono x1.len)⟩
    · cases e
  · cases e⟩
theorem vx_star (ha : VJ [] ma va) (hr : VX m v) : VX (aStar ma m) (aStar va v) := ⟨fun γ ρ ρv M Mv ds Mv' s ev e => by
  unfold aStar at e
  split at e
  · rename_i x M1 e1
    split at e
    · rename_i ws e0
      split at e
      · rename_i xs M2 e2
        injection e with e
        injection e with e3 e4
        subst e4
        obtain ⟨γ1, u1, N1, q1, s1, r1, x1, _⟩ := ha.run γ ρ ρv M Mv _ M1 s ev e1
        obtain ⟨d1, d2, rfl, h1, h2⟩ : ∃ d1 d2, ds = d1 ++ d2 ∧ ws = d1.map .dat ∧ xs = d2.map .dat := by
          refine ⟨ds.take ws.length, ds.drop ws.length, (List.take_append_drop ..).symm, ?_, ?_⟩
          · rw [List.map_take, ← e3, List.take_left]
          · rw [List.map_drop, ← e3, List.drop_left]
        subst h1 h2
        rcases seqOf_nat s1 r1 with ⟨g1, _⟩ | ⟨ws', ys, g1, g2, g3⟩
        · rw [g1] at e0
          cases e0
        · rw [g1] at e0
          cases e0
          have hy : ys = d1.map .dat := g3.eqDat (allDat_map d1)
          subst hy
          obtain ⟨γ2, us, N2, cs, q2, s2, x2, xr⟩ := hr.run γ1 ρ ρv N1 M1 d2 _ s1 (ev.ext x1) e2
          refine ⟨γ2, d1.map .dat ++ us, N2, cs, by unfold aStar; rw [q1]; simp only; rw [g2]; simp only; rw [q2], s2, x1.trans x2, ?_⟩
          have xr' := xr.mono x1.len
          clear e3 e1 e2 g1 g2 g3 r1 q1 q2
          induction d1 with
          | nil => exact xr'
          | cons d d1 ih => exact .dat ih
      · cases e
    · cases e
  · cases e⟩
def vTup (m : MA) : ME := fun ρ M => match m ρ M with
  | some (us, M1) => match allDat us with
    | some ds => if ds.length ≤ sizeLine then some (.dat (.tuple ds), M1) else none
    | none => none
  | none => none
def vLst (m : MA) : ME := fun ρ M => match m ρ M with
  | some (us, M1) => match allDat us with
    | some ds => if ds.length ≤ sizeLine then some (.lv ds, M1) else none
    | none => none
  | none => none
theorem vx_frz (h : VX m v) {γ : List Nat} {ρ ρv : Env} {M Mv : Mem} {ds : List PyData} {Mv' : Mem} (s : SR γ Mv M) (ev : EV [] γ M ρv ρ) (e : v ρv Mv = some (ds.map .dat, Mv')) :
    ∃ γ' us M' M2, m ρ M = some (us, M') ∧ us.length = ds.length ∧ frzAll us M' = (ds.map .dat, M2) ∧ SR γ' Mv' M2 ∧ Fx γ γ' M M2 := by
  obtain ⟨γ', us, M', cs, q, s', x, xr⟩ := h.run γ ρ ρv M Mv ds Mv' s ev e
  obtain ⟨M2, f1, f2, f3⟩ := xr.frz
  have hc := xr.cells
  refine ⟨γ', us, M', M2, q, xr.len, f1, sr_at s' fun c hc' => f3 c fun z => (hc c z).2.1 hc', ⟨by rw [f2]; exact x.len, x.pre, x.new, fun c h1 h2 => ?_⟩⟩
  rw [f3 c fun z => by have := (hc c z).1; omega]
  exact x.old c h1 h2
theorem vj_tup (h : VX m v) : VJ S (eTup m) (vTup v) := ⟨fun γ ρ ρv M Mv r Mv' s ev e => by
  unfold vTup at e
  split at e
  · rename_i us M1 e1
    split at e
    · rename_i ds hds
      split at e
      · rename_i hz
        cases e
        obtain rfl := allDat_some hds
        obtain ⟨γ', ws, N, M2, q, hl, f1, s2, x2⟩ := vx_frz h s ev.nil e1
        refine ⟨γ', .dat (.tuple ds), M2, ?_, s2, .of (.dat _), x2, pr_dat⟩
        unfold eTup
        rw [q]
        simp only [f1]
        rw [if_pos (by omega), mkTup_dat]
      · cases e
    · cases e
  · cases e⟩
theorem vfr_lst (h : VX m v) : VFr true (eLst m) (vLst v) := ⟨fun γ ρ ρv M Mv r Mv' s ev e => by
  unfold vLst at e
  split at e
  · rename_i us M1 e1
    split at e
    · rename_i ds hds
      split at e
      · rename_i hz
        cases e
        obtain rfl := allDat_some hds
        obtain ⟨γ', ws, N, M2, q, hl, f1, s2, x2⟩ := vx_frz h s ev e1
        obtain ⟨s3, x3⟩ := sr_new s2 (.lst true (ds.map .dat))
        refine ⟨γ', M2.length, _, ds, true, rfl, ?_, s3, x2.trans x3, x2.len, s2.fresh, List.getElem?_concat_length .., fun _ => rfl⟩
        unfold eLst
        rw [q]
        simp only [f1]
        rw [if_pos (by omega)]
      · cases e
    · cases e
  · cases e⟩
end
/-! ### targets -/
structure VG (sl : List Nat) (g g' : MG) : Prop where
  run : ∀ (S γ : List Nat) (M Mv : Mem) (v u : U) (ρv ρ ρv' : Env) (Mv' : Mem), (∀ i ∈ sl, i ∉ S) → UR0 γ v u → EV S γ M ρv ρ → g' v ρv Mv = some (ρv', Mv') →
    Mv' = Mv ∧ ∃ ρ', g u ρ M = some (ρ', M) ∧ EV S γ M ρv' ρ' ∧ (∀ (i c : Nat), ρ'[i]? = some (some (.cell c)) → c ∉ γ → ρ[i]? = some (some (.cell c))) ∧ ∀ (i : Nat) (w : U), ρv'[i]? = some (some w) → (ρv[i]? = some (some w) ∧ ρ'[i]? = ρ[i]?) ∨ ∃ u', ρ'[i]? = some (some u') ∧ UR0 γ w u'
structure VGs (sl : List Nat) (g g' : MGs) : Prop where
  run : ∀ (S γ : List Nat) (M Mv : Mem) (vs us : List U) (ρv ρ ρv' : Env) (Mv' : Mem), (∀ i ∈ sl, i ∉ S) → UR0s γ vs us → EV S γ M ρv ρ → g' vs ρv Mv = some (ρv', Mv') →
    Mv' = Mv ∧ ∃ ρ', g us ρ M = some (ρ', M) ∧ EV S γ M ρv' ρ' ∧ (∀ (i c : Nat), ρ'[i]? = some (some (.cell c)) → c ∉ γ → ρ[i]? = some (some (.cell c))) ∧ ∀ (i : Nat) (w : U), ρv'[i]? = some (some w) → (ρv[i]? = some (some w) ∧ ρ'[i]? = ρ[i]?) ∨ ∃ u', ρ'[i]? = some (some u') ∧ UR0 γ w u'
theorem set_some {ρ : Env} {i j : Nat} {u w : U} (h : (ρ.set i (some u))[j]? = some (some w)) : (j = i ∧ w = u) ∨ (j ≠ i ∧ ρ[j]? = some (some w)) := by
  by_cases z : j = i
  · subst z
    have hj : j < ρ.length := by
      have := (List.getElem?_eq_some_iff.mp h).1
      rw [List.length_set] at this
      exact this
    rw [List.getElem?_set_self hj] at h
    cases h
    exact .inl ⟨rfl, rfl⟩
  · rw [List.getElem?_set_ne (Ne.symm z)] at h
    exact .inr ⟨z, h⟩
theorem EV.set {S γ : List Nat} {M : Mem} {ρv ρ : Env} {i : Nat} {v u : U} (h : EV S γ M ρv ρ) (r : UR γ M v u) (hi : i ∉ S) (hc : ∀ c, u = .cell c → c ∉ γ → ∀ j ∈ S, ρ[j]? ≠ some (some (.cell c))) : EV S γ M (ρv.set i (some v)) (ρ.set i (some u)) := by
  refine ⟨by rw [List.length_set, List.length_set]; exact h.len, fun j w e => ?_, fun j hj => ?_⟩
  · rcases set_some e with ⟨rfl, rfl⟩ | ⟨z, e⟩
    · have hl : j < ρ.length := by
        have := (List.getElem?_eq_some_iff.mp e).1
        rw [List.length_set, h.len] at this
        exact this
      exact ⟨u, List.getElem?_set_self hl, r⟩
    · obtain ⟨x, h1, h2⟩ := h.ok j w e
      exact ⟨x, by rw [List.getElem?_set_ne (Ne.symm z)]; exact h1, h2⟩
  · obtain ⟨c, f, ds, h1, h2, h3, h4, h5⟩ := h.own j hj
    have hji : j ≠ i := fun e => hi (e ▸ hj)
    refine ⟨c, f, ds, by rw [List.getElem?_set_ne (Ne.symm hji)]; exact h1, by rw [List.getElem?_set_ne (Ne.symm hji)]; exact h2, h3, h4, fun k w hk hw e => ?_⟩
    rcases set_some e with ⟨_, e2⟩ | ⟨hki, e⟩
    · exact hc c e2.symm h3 j hj h2
    · exact h5 k w hk (by rw [List.getElem?_set_ne (Ne.symm hki)] at hw; exact hw) e
theorem vg_nm {i : Nat} : VG [i] (gNm i) (gNm i) := ⟨fun S γ M Mv v u ρv ρ ρv' Mv' hs r ev e => by
  cases e
  refine ⟨rfl, _, rfl, ev.set (.of r) (hs i (by simp)) (fun c hc n => by subst hc; exact absurd r.cellIn n), fun j c hj n => ?_, fun j w hw => ?_⟩
  · rcases set_some hj with ⟨_, e⟩ | ⟨_, e⟩
    · subst e
      exact absurd r.cellIn n
    · exact e
  · rcases set_some hw with ⟨h1, h2⟩ | ⟨h1, h2⟩
    · subst h1 h2
      have hl : j < ρ.length := by
        have := (List.getElem?_eq_some_iff.mp hw).1
        rw [List.length_set, ev.len] at this
        exact this
      exact .inr ⟨u, List.getElem?_set_self hl, r⟩
    · exact .inl ⟨h2, List.getElem?_set_ne (Ne.symm h1)⟩⟩
theorem vgs_nil : VGs [] gN0 gN0 := ⟨fun S γ M Mv vs us ρv ρ ρv' Mv' hs r ev e => by
  unfold gN0 at e
  split at e
  · cases e
    cases r
    exact ⟨rfl, ρ, rfl, ev, fun _ _ h _ => h, fun _ _ h => .inl ⟨h, rfl⟩⟩
  · cases e⟩
theorem vgs_cons {sl sl' : List Nat} {g g' : MG} {h h' : MGs} (a : VG sl g g') (b : VGs sl' h h') : VGs (sl ++ sl') (gCn g h) (gCn g' h') := ⟨fun S γ M Mv vs us ρv ρ ρv' Mv' hs r ev e => by
  unfold gCn at e
  split at e
  · rename_i w ws
    cases r with
    | cons r1 r2 =>
      split at e
      · rename_i ρ1 M1 e1
        obtain ⟨rfl, ρ2, q1, ev1, k1, z1⟩ := a.run S γ M Mv _ _ _ ρ _ _ (fun i hi => hs i (List.mem_append_left _ hi)) r1 ev e1
        obtain ⟨rfl, ρ3, q2, ev2, k2, z2⟩ := b.run S γ M _ _ _ _ ρ2 _ _ (fun i hi => hs i (List.mem_append_right _ hi)) r2 ev1 e
        refine ⟨rfl, ρ3, by unfold gCn; simp only; rw [q1]; exact q2, ev2, fun i c hi n => k1 i c (k2 i c hi n) n, fun i w hw => ?_⟩
        rcases z2 i w hw with ⟨h1, h2⟩ | h
        · rcases z1 i w h1 with ⟨h3, h4⟩ | ⟨x, h3, h4⟩
          · exact .inl ⟨h3, h2.trans h4⟩
          · exact .inr ⟨x, h2.trans h3, h4⟩
        · exact .inr h
      · cases e
  · cases e⟩
theorem tupK_nat {γ : List Nat} {v u : U} (h : UR0 γ v u) : (tupK v = none ∧ tupK u = none) ∨ ∃ vs us, tupK v = some vs ∧ tupK u = some us ∧ UR0s γ vs us := by
  have gen : ∀ {v u : U}, UR0 γ v u → (∀ xs, v ≠ .kt xs) → tupK v = tupOf v ∧ tupK u = tupOf u := by
    intro v u h hk
    cases h with
    | kt xs => exact absurd rfl (hk xs)
    | _ => exact ⟨rfl, rfl⟩
  by_cases hk : ∃ xs, v = .kt xs
  · obtain ⟨xs, rfl⟩ := hk
    cases h
    have := seqOf_nat (γ := []) (Mv := []) (M := []) ⟨rfl, List.nodup_nil, fun j c x h => by simp at h⟩ (.of (.kt xs))
    rcases this with ⟨h1, _⟩ | ⟨vs, us, h1, h2, h3⟩
    · exact .inl ⟨h1, h1⟩
    · rw [h1] at h2
      cases h2
      exact .inr ⟨vs, vs, h1, h1, h3.ext fun j c h => by simp at h⟩
  · obtain ⟨h1, h2⟩ := gen h fun xs e => hk ⟨xs, e⟩
    rw [h1, h2]
    exact tupOf_nat (M := []) (.of h)
theorem vg_tp {sl : List Nat} {k : Nat} {g g' : MGs} (a : VGs sl g g') : VG sl (gTp k g) (gTp k g') := ⟨fun S γ M Mv v u ρv ρ ρv' Mv' hs r ev e => by
  unfold gTp at e
  rcases tupK_nat r with ⟨h1, _⟩ | ⟨vs, us, h1, h2, h3⟩
  · rw [h1] at e
    cases e
  · rw [h1] at e
    simp only at e
    split at e
    · rename_i hl
      obtain ⟨rfl, ρ', q, ev', k'⟩ := a.run S γ M Mv vs us ρv ρ ρv' Mv' hs h3 ev e
      refine ⟨rfl, ρ', ?_, ev', k'⟩
      unfold gTp
      rw [h2]
      simp only
      rw [if_pos (by rw [← h3.length]; exact hl)]
      exact q
    · cases e⟩
end Pu

namespace Pu
open PySem PySem.Spec PyProof.Rows L2 Lw
open Classical
/-! ### what is walked -/
structure VI (S : List Nat) (mi vi : MI) : Prop where
  run : ∀ (γ : List Nat) (ρ ρv : Env) (M Mv : Mem) (items : List U) (ws : List Nat) (Mv' : Mem), SR γ Mv M → EV S γ M ρv ρ → vi ρv Mv = some ((items, ws), Mv') →
    ∃ γ' its cs M', mi ρ M = some ((its, cs), M') ∧ SR γ' Mv' M' ∧ Fx γ γ' M M' ∧ UR0s γ' items its ∧ ∀ c ∈ cs, c ∉ γ' ∧ c < M'.length ∧ (M.length ≤ c ∨ ∃ i w, i ∉ S ∧ ρv[i]? = some (some w) ∧ ρ[i]? = some (some (.cell c)))
def noC : U → Bool
  | .cell _ => false
  | _ => true
def viSeq (me : ME) : MI := fun ρ M => match me ρ M with
  | some (u, M1) => if noC u = true then (match seqOf M1 u with
    | some us => some ((us, []), M1)
    | none => none) else none
  | none => none
section
variable {S : List Nat} {ma va : ME} {m v : MA}
theorem cells_of {γ : List Nat} {M : Mem} {v u : U} (r : UR γ M v u) (h : noC v = true) : ∀ c ∈ cellsOf u, c ∉ γ ∧ c < M.length ∧ u = .cell c := by
  intro c hc
  cases r with
  | lv n l =>
    rename_i b
    have : c = b := by simpa [cellsOf] using hc
    subst this
    exact ⟨n, l.lt, rfl⟩
  | of r =>
    cases r with
    | cell _ => cases h
    | _ => cases hc
theorem vi_seq (ha : VJ S ma va) : VI S (iSeq ma) (viSeq va) := ⟨fun γ ρ ρv M Mv items ws Mv' s ev e => by
  unfold viSeq at e
  split at e
  · rename_i x M1 e1
    split at e
    · rename_i hn
      split at e
      · rename_i us e2
        cases e
        obtain ⟨γ1, u1, N1, q1, s1, r1, x1, p1⟩ := ha.run γ ρ ρv M Mv _ _ s ev e1
        rcases seqOf_nat s1 r1 with ⟨g1, _⟩ | ⟨ws', ys, g1, g2, g3⟩
        · rw [g1] at e2
          cases e2
        · rw [g1] at e2
          cases e2
          refine ⟨γ1, ys, cellsOf u1, N1, by unfold iSeq; rw [q1]; simp only; rw [g2], s1, x1, g3, fun c hc => ?_⟩
          obtain ⟨k1, k2, k3⟩ := cells_of r1 hn c hc
          exact ⟨k1, k2, p1 c k3 k1⟩
      · cases e
    · cases e
  · cases e⟩
theorem vi_txt (ha : VJ [] ma va) : VI S (iTxt ma) (iTxt va) := ⟨fun γ ρ ρv M Mv items ws Mv' s ev e => by
  unfold iTxt at e
  split at e
  · rename_i z M1 e1
    cases e
    obtain ⟨γ1, u1, N1, q1, s1, r1, x1, p1⟩ := ha.run γ ρ ρv M Mv _ _ s ev.nil e1
    obtain rfl := ur_dat r1
    refine ⟨γ1, _, [], N1, by unfold iTxt; rw [q1], s1, x1, ?_, fun c hc => by cases hc⟩
    unfold signsOf
    rw [show (z.cps.toList.map fun c => U.dat (.str ⟨#[c]⟩)) = (z.cps.toList.map fun c => PyData.str ⟨#[c]⟩).map U.dat by rw [List.map_map]; rfl]
    exact .dats _
  · cases e⟩
theorem rangeU_dat (lo : Int) (n : Nat) : rangeU lo n = ((List.range n).map fun (k : Nat) => PyData.int (lo + (k : Int))).map U.dat := by
  unfold rangeU
  rw [List.map_map]
  rfl
theorem vi_rg1 (ha : VA [] m v) : VI S (iRg1 m) (iRg1 v) := ⟨fun γ ρ ρv M Mv items ws Mv' s ev e => by
  unfold iRg1 at e
  split at e
  · rename_i j M1 e1
    split at e
    · rename_i hz
      cases e
      obtain ⟨γ1, us, N1, q1, s1, r1, x1, p1⟩ := ha.run γ ρ ρv M Mv _ _ s ev.nil e1
      obtain ⟨u, rfl, r2⟩ := urs1 r1
      obtain rfl := ur_dat r2
      refine ⟨γ1, _, [], N1, by unfold iRg1; rw [q1]; simp only; rw [if_pos hz], s1, x1, ?_, fun c hc => by cases hc⟩
      rw [rangeU_dat]
      exact .dats _
    · cases e
  · cases e⟩
theorem UR0s.zip {γ : List Nat} : ∀ {vs us ws ys : List U}, UR0s γ vs us → UR0s γ ws ys → UR0s γ (zipU vs ws) (zipU us ys)
  | _, _, _, _, .nil, _ => .nil
  | _, _, _, _, .cons _ _, .nil => .nil
  | _, _, _, _, .cons h t, .cons h' t' => .cons (.tupc (.cons h (.cons h' .nil))) (t.zip t')
def viEn (m : MA) : MI := fun ρ M => match m ρ M with
  | some ([u], M1) => if noC u = true then (match seqOf M1 u with
    | some us => some ((enumU us 0, []), M1)
    | none => none) else none
  | _ => none
def viZp (m : MA) : MI := fun ρ M => match m ρ M with
  | some ([a, b], M1) => if noC a = true ∧ noC b = true then (match seqOf M1 a, seqOf M1 b with
    | some us, some ws => if isTp a = isTp b then some ((zipU us ws, []), M1) else none
    | _, _ => none) else none
  | _ => none
end
/-! ### comprehensions -/
structure Fy (n : Nat) (γ γ' : List Nat) (M M' : Mem) : Prop where
  len : M.length ≤ M'.length
  pre : ∀ (j c : Nat), γ[j]? = some c → γ'[j]? = some c
  new : ∀ c, c ∈ γ' → c ∈ γ ∨ M.length ≤ c
  old : ∀ c, c < M.length → c ∉ γ → c ≠ n → M'[c]? = M[c]?
theorem Fx.y {n : Nat} {γ γ' : List Nat} {M M' : Mem} (x : Fx γ γ' M M') : Fy n γ γ' M M' := ⟨x.len, x.pre, x.new, fun c h1 h2 _ => x.old c h1 h2⟩
theorem Fy.out {n : Nat} {γ γ' : List Nat} {M M' : Mem} (x : Fy n γ γ' M M') {c : Nat} (h : c < M.length) (k : c ∉ γ) : c ∉ γ' := fun z => by
  rcases x.new c z with h1 | h1
  · exact k h1
  · omega
theorem Fy.trans {n : Nat} {γ γ1 γ2 : List Nat} {M M1 M2 : Mem} (x : Fy n γ γ1 M M1) (y : Fy n γ1 γ2 M1 M2) : Fy n γ γ2 M M2 :=
  ⟨Nat.le_trans x.len y.len, fun j c h => y.pre j c (x.pre j c h), fun c h => by
    rcases y.new c h with h1 | h1
    · exact x.new c h1
    · exact .inr (Nat.le_trans x.len h1), fun c h k e => (y.old c (Nat.lt_of_lt_of_le h x.len) (x.out h k) e).trans (x.old c h k e)⟩
def NoN (n : Nat) (ρv ρ : Env) : Prop := ∀ (i : Nat) (v : U), ρv[i]? = some (some v) → ρ[i]? ≠ some (some (.cell n))
theorem EV.extY {n : Nat} {γ γ' : List Nat} {M M' : Mem} {ρv ρ : Env} (h : EV [] γ M ρv ρ) (k : NoN n ρv ρ) (x : Fy n γ γ' M M') : EV [] γ' M' ρv ρ := by
  refine ⟨h.len, fun i v hv => ?_, fun i hi => by cases hi⟩
  obtain ⟨u, h1, h2⟩ := h.ok i v hv
  refine ⟨u, h1, ?_⟩
  cases h2 with
  | of r => exact .of (r.ext x.pre)
  | lv a l =>
    rename_i ds c
    have hcn : c ≠ n := fun e => k i _ hv (by rw [h1, e])
    refine .lv (x.out l.lt a) ?_
    unfold LstAt
    rw [x.old c l.lt a hcn]
    exact l
noncomputable def vlcM (g : MG) (c : MT) (e : ME) (ρ : Env) : List U → Mem → Option (List PyData × Mem)
  | [], M => some ([], M)
  | u :: us, M => match g u ρ M with
    | some (ρ1, M1) => match c ρ1 M1 with
      | some (true, M2) => match e ρ1 M2 with
        | some (.dat d, M3) => match vlcM g c e ρ us M3 with
          | some (ds, M4) => some (d :: ds, M4)
          | none => none
        | _ => none
      | some (false, M2) => vlcM g c e ρ us M2
      | none => none
    | none => none
noncomputable def vLc (mi : MI) (g : MG) (c : MT) (e : ME) (vs : List Nat) : ME := fun ρ M => match mi ρ M with
  | some ((items, _), M1) => match vlcM g c e (wipeR ρ vs) items M1 with
    | some (ds, M2) => if ds.length ≤ sizeLine then some (.lv ds, M2) else none
    | none => none
  | none => none
theorem wipeR_ne {ρ : Env} {i : Nat} : ∀ {vs : List Nat}, i ∉ vs → (wipeR ρ vs)[i]? = ρ[i]?
  | [], _ => rfl
  | v :: vs, h => by
    show ((wipeR ρ vs).set v none)[i]? = _
    rw [List.getElem?_set_ne (by intro e; subst e; exact h List.mem_cons_self)]
    exact wipeR_ne fun z => h (List.mem_cons_of_mem _ z)
theorem EV.wipe {S γ : List Nat} {M : Mem} {ρv ρ : Env} {vs : List Nat} (h : EV S γ M ρv ρ) : EV [] γ M (wipeR ρv vs) (wipeR ρ vs) := by
  refine ⟨by rw [wipeR_length, wipeR_length]; exact h.len, fun i v hv => ?_, fun i hi => by cases hi⟩
  obtain ⟨h1, h2⟩ := wipeR_some hv
  obtain ⟨u, h3, h4⟩ := h.ok i v h1
  exact ⟨u, by rw [wipeR_ne h2]; exact h3, h4⟩
theorem noN_of {γ : List Nat} {M : Mem} {ρv ρ : Env} (s : ∀ c ∈ γ, c < M.length) (h : EV [] γ M ρv ρ) : NoN M.length ρv ρ := fun i v hv e => by
  obtain ⟨u, h1, h2⟩ := h.ok i v hv
  rw [h1] at e
  cases e
  cases h2 with
  | of r => exact Nat.lt_irrefl _ (s _ r.cellIn)
  | lv a l => exact Nat.lt_irrefl _ l.lt
theorem noN_tgt {n : Nat} {γ : List Nat} {ρv ρ ρv' ρ' : Env} (hn : n ∉ γ) (no : NoN n ρv ρ) (z : ∀ (i : Nat) (w : U), ρv'[i]? = some (some w) → (ρv[i]? = some (some w) ∧ ρ'[i]? = ρ[i]?) ∨ ∃ u', ρ'[i]? = some (some u') ∧ UR0 γ w u') : NoN n ρv' ρ' := fun i w hw e => by
  rcases z i w hw with ⟨h1, h2⟩ | ⟨u', h1, h2⟩
  · rw [h2] at e
    exact no i w h1 e
  · rw [h1] at e
    cases e
    exact hn h2.cellIn
theorem lc_sim {sl : List Nat} {g g' : MG} {c c' : MT} {e e' : ME} {n : Nat} {ws : List Nat} {Mb : Mem} (hg : VG sl g g') (hc : VT c c') (he : VJ [] e e') :
    ∀ (items its : List U) (γ : List Nat) (Mv M : Mem) (acc : List PyData) (ρv ρ : Env) (ds : List PyData) (Mv2 : Mem), SR γ Mv M → EV [] γ M ρv ρ → NoN n ρv ρ → UR0s γ items its → n ∉ γ → M[n]? = some (.lst false (acc.map .dat)) →
      (∀ b ∈ ws, b < M.length ∧ b ∉ γ ∧ b ≠ n ∧ M[b]? = Mb[b]?) → vlcM g' c' e' ρv items Mv = some (ds, Mv2) → acc.length + ds.length ≤ sizeLine →
      ∃ γ2 M2, lcM (Wt Mb ws) g c e n ρ its M = some M2 ∧ SR γ2 Mv2 M2 ∧ Fy n γ γ2 M M2 ∧ n ∉ γ2 ∧ M2[n]? = some (.lst false ((acc ++ ds).map .dat))
  | [], _, γ, Mv, M, acc, ρv, ρ, ds, Mv2, s, ev, no, .nil, hn, hm, hw, h, hl => by
    cases h
    exact ⟨γ, M, rfl, s, Fx.refl.y, hn, by rw [List.append_nil]; exact hm⟩
  | v :: items, _, γ, Mv, M, acc, ρv, ρ, ds, Mv2, s, ev, no, .cons (u := u) (us := its) r rs, hn, hm, hw, h, hl => by
    unfold vlcM at h
    split at h
    · rename_i ρ1 M1 e1
      obtain ⟨rfl, ρ2, q1, ev1, k1, z1⟩ := hg.run [] γ M Mv v u ρv ρ ρ1 M1 (fun i _ => by simp) r ev e1
      have no1 : NoN n ρ1 ρ2 := noN_tgt hn no z1
      have hnl : n < M.length := (List.getElem?_eq_some_iff.mp hm).1
      split at h
      · rename_i M2 e2
        obtain ⟨γ2, N2, q2, s2, x2⟩ := hc.run γ ρ2 ρ1 M _ _ _ s ev1 e2
        split at h
        · rename_i d M3 e3
          obtain ⟨γ3, u3, N3, q3, s3, r3, x3, _⟩ := he.run γ2 ρ2 ρ1 N2 M2 _ _ s2 (ev1.ext x2) e3
          obtain rfl := ur_dat r3
          split at h
          · rename_i es M4 e4
            cases h
            have x23 := x2.trans x3
            have hm3 : N3[n]? = some (.lst false (acc.map .dat)) := (x23.old n hnl hn).trans hm
            have hn3 := x23.out hnl hn
            have hz : (acc.map U.dat).length < sizeLine := by
              rw [List.length_map]
              simp only [List.length_cons] at hl
              omega
            have ha := append_d (d := d) hm3 hz
            have hl3 : n < N3.length := (List.getElem?_eq_some_iff.mp hm3).1
            have y3 : Fy n γ γ3 M (N3.set n (.lst false (acc.map U.dat ++ [.dat d]))) := ⟨by rw [List.length_set]; exact x23.len, x23.pre, x23.new, fun b h1 h2 h3 => by
              rw [List.getElem?_set_ne (Ne.symm h3)]
              exact x23.old b h1 h2⟩
            have hm4 : (N3.set n (.lst false (acc.map U.dat ++ [.dat d])))[n]? = some (.lst false ((acc ++ [d]).map .dat)) := by
              rw [List.getElem?_set_self hl3, List.map_append]
              rfl
            have hw3 : ∀ b ∈ ws, b < (N3.set n (.lst false (acc.map U.dat ++ [.dat d]))).length ∧ b ∉ γ3 ∧ b ≠ n ∧ (N3.set n (.lst false (acc.map U.dat ++ [.dat d])))[b]? = Mb[b]? := fun b hb => by
              obtain ⟨w1, w2, w3, w4⟩ := hw b hb
              refine ⟨Nat.lt_of_lt_of_le w1 y3.len, y3.out w1 w2, w3, ?_⟩
              rw [y3.old b w1 w2 w3]
              exact w4
            obtain ⟨γ5, N5, q5, s5, y5, hn5, hm5⟩ := lc_sim hg hc he items its γ3 _ _ (acc ++ [d]) ρv ρ es _ (sr_set s3 hn3) (ev.extY no y3) no (rs.ext y3.pre) hn3 hm4 hw3 e4 (by simp only [List.length_cons, List.length_append, List.length_nil] at hl ⊢; omega)
            refine ⟨γ5, N5, ?_, s5, y3.trans y5, hn5, by rw [hm5, List.append_assoc]; rfl⟩
            unfold lcM
            rw [q1]
            simp only
            rw [q2]
            simp only
            rw [q3]
            simp only
            rw [ha]
            simp only
            rw [if_pos (show Wt Mb ws _ from fun b hb => (hw3 b hb).2.2.2)]
            exact q5
          · cases h
        · cases h
      · rename_i M2 e2
        obtain ⟨γ2, N2, q2, s2, x2⟩ := hc.run γ ρ2 ρ1 M _ _ _ s ev1 e2
        have hw3 : ∀ b ∈ ws, b < N2.length ∧ b ∉ γ2 ∧ b ≠ n ∧ N2[b]? = Mb[b]? := fun b hb => by
          obtain ⟨w1, w2, w3, w4⟩ := hw b hb
          exact ⟨Nat.lt_of_lt_of_le w1 x2.len, x2.out w1 w2, w3, (x2.old b w1 w2).trans w4⟩
        obtain ⟨γ5, N5, q5, s5, y5, hn5, hm5⟩ := lc_sim hg hc he items its γ2 _ _ acc ρv ρ ds _ s2 (ev.ext x2) no (rs.ext x2.pre) (x2.out hnl hn) ((x2.old n hnl hn).trans hm) hw3 h hl
        refine ⟨γ5, N5, ?_, s5, x2.y.trans y5, hn5, hm5⟩
        unfold lcM
        rw [q1]
        simp only
        rw [q2]
        simp only
        rw [if_pos (show Wt Mb ws _ from fun b hb => (hw3 b hb).2.2.2)]
        exact q5
      · cases h
    · cases h
section
variable {S : List Nat} {sl : List Nat} {mi vi : MI} {g g' : MG} {c c' : MT} {e e' : ME} {vs : List Nat}
theorem vfr_lc (hi : VI [] mi vi) (hg : VG sl g g') (hc : VT c c') (he : VJ [] e e') : VFr false (eLc mi g c e vs) (vLc vi g' c' e' vs) := ⟨fun γ ρ ρv M Mv r Mv' s ev h => by
  unfold vLc at h
  split at h
  · rename_i items ws M1 e1
    split at h
    · rename_i ds M2 e2
      split at h
      · rename_i hz
        cases h
        obtain ⟨γ1, its, cs, N1, q1, s1, x1, rs, hcs⟩ := hi.run γ ρ ρv M Mv _ _ _ s ev e1
        obtain ⟨s2, x2⟩ := sr_new s1 (.lst false [])
        have ev2 := ((ev.ext x1).wipe (vs := vs))
        obtain ⟨γ3, N3, q3, s3, y3, hn3, hm3⟩ := lc_sim (n := N1.length) (ws := cs) (Mb := N1) hg hc he items its γ1 M1 (N1 ++ [.lst false []]) [] (wipeR ρv vs) (wipeR ρ vs) ds _ s2 (ev2.ext x2) (noN_of (fun c h => s1.lt h) ev2) rs s1.fresh (List.getElem?_concat_length ..) (fun b hb => by
          obtain ⟨h1, h2, _⟩ := hcs b hb
          exact ⟨by rw [List.length_append]; omega, h1, by omega, List.getElem?_append_left h2⟩) e2 (by rw [List.length_nil, Nat.zero_add]; exact hz)
        refine ⟨γ3, N1.length, N3, ds, false, rfl, by unfold eLc; rw [q1]; simp only; rw [q3], s3, ⟨?_, fun j c h => y3.pre j c (x1.pre j c h), fun c h => ?_, fun c h1 h2 => ?_⟩, x1.len, hn3, hm3, fun z => by cases z⟩
        · have := y3.len
          have := x1.len
          rw [List.length_append] at *
          omega
        · rcases y3.new c h with h | h
          · exact x1.new c h
          · have := x1.len
            rw [List.length_append] at h
            exact .inr (by omega)
        · have hl := x1.len
          rw [y3.old c (by rw [List.length_append]; omega) (x1.out h1 h2) (by omega), List.getElem?_append_left (by omega)]
          exact x1.old c h1 h2
      · cases h
    · cases h
  · cases h⟩
end
/-! ### two walks -/
noncomputable def vlc2M (g : MG) (c : MT) (mi1 : MI) (g1 : MG) (c1 : MT) (e : ME) (vs1 : List Nat) (ρ : Env) : List U → Mem → Option (List PyData × Mem)
  | [], M => some ([], M)
  | u :: us, M => match g u ρ M with
    | some (ρ1, M1) => match c ρ1 M1 with
      | some (true, M2) => match mi1 ρ1 M2 with
        | some ((items1, _), M3) => match vlcM g1 c1 e (wipeR ρ1 vs1) items1 M3 with
          | some (ds, M4) => match vlc2M g c mi1 g1 c1 e vs1 ρ us M4 with
            | some (es, M5) => some (ds ++ es, M5)
            | none => none
          | none => none
        | none => none
      | some (false, M2) => vlc2M g c mi1 g1 c1 e vs1 ρ us M2
      | none => none
    | none => none
noncomputable def vLc2 (mi : MI) (g : MG) (c : MT) (mi1 : MI) (g1 : MG) (c1 : MT) (e : ME) (vs vs1 : List Nat) : ME := fun ρ M => match mi ρ M with
  | some ((items, _), M1) => match vlc2M g c mi1 g1 c1 e vs1 (wipeR ρ vs) items M1 with
    | some (ds, M2) => if ds.length ≤ sizeLine then some (.lv ds, M2) else none
    | none => none
  | none => none
theorem NoN.wipe {n : Nat} {ρv ρ : Env} {vs : List Nat} (h : NoN n ρv ρ) : NoN n (wipeR ρv vs) (wipeR ρ vs) := fun i v hv => by
  obtain ⟨h1, h2⟩ := wipeR_some hv
  rw [wipeR_ne h2]
  exact h i v h1
section
variable {sl sl1 : List Nat} {mi vi mi1 vi1 : MI} {g g' g1 g1' : MG} {c c' c1 c1' : MT} {e e' : ME} {vs vs1 : List Nat}
end
end Pu

namespace Pu
open PySem PySem.Spec PyProof.Rows L2 Lw
open Classical
/-! ### statements -/
structure FrS (S : List Nat) (ρ : Env) (γ γ' : List Nat) (M M' : Mem) : Prop where
  len : M.length ≤ M'.length
  pre : ∀ (j c : Nat), γ[j]? = some c → γ'[j]? = some c
  new : ∀ c, c ∈ γ' → c ∈ γ ∨ M.length ≤ c
  old : ∀ c, c < M.length → c ∉ γ → (∀ i ∈ S, ρ[i]? ≠ some (some (.cell c))) → M'[c]? = M[c]?
theorem Fx.s {S : List Nat} {ρ : Env} {γ γ' : List Nat} {M M' : Mem} (x : Fx γ γ' M M') : FrS S ρ γ γ' M M' := ⟨x.len, x.pre, x.new, fun c h1 h2 _ => x.old c h1 h2⟩
theorem FrS.out {S : List Nat} {ρ : Env} {γ γ' : List Nat} {M M' : Mem} (x : FrS S ρ γ γ' M M') {c : Nat} (h : c < M.length) (n : c ∉ γ) : c ∉ γ' := fun z => by
  rcases x.new c z with h1 | h1
  · exact n h1
  · omega
def Ow (S S' : List Nat) (ρ ρ' : Env) (M : Mem) : Prop := ∀ i ∈ S', ∀ c : Nat, ρ'[i]? = some (some (U.cell c)) → M.length ≤ c ∨ ∃ j ∈ S, ρ[j]? = some (some (U.cell c))
def Pz (γ' : List Nat) (ρ ρ' : Env) (M : Mem) : Prop := ∀ (i c : Nat), ρ'[i]? = some (some (U.cell c)) → c ∉ γ' → M.length ≤ c ∨ ∃ j : Nat, ρ[j]? = some (some (U.cell c))
theorem FrS.trans {S S1 : List Nat} {ρ ρ1 : Env} {γ γ1 γ2 : List Nat} {M M1 M2 : Mem} (x : FrS S ρ γ γ1 M M1) (o : Ow S S1 ρ ρ1 M) (y : FrS S1 ρ1 γ1 γ2 M1 M2) : FrS S ρ γ γ2 M M2 :=
  ⟨Nat.le_trans x.len y.len, fun j c h => y.pre j c (x.pre j c h), fun c h => by
    rcases y.new c h with h1 | h1
    · exact x.new c h1
    · exact .inr (Nat.le_trans x.len h1), fun c h n k => (y.old c (Nat.lt_of_lt_of_le h x.len) (x.out h n) (fun i hi e => by
      rcases o i hi c e with h1 | ⟨j, hj, h1⟩
      · omega
      · exact k j hj h1)).trans (x.old c h n k)⟩
theorem Ow.trans {S S1 S2 : List Nat} {ρ ρ1 ρ2 : Env} {M M1 : Mem} (a : Ow S S1 ρ ρ1 M) (b : Ow S1 S2 ρ1 ρ2 M1) (l : M.length ≤ M1.length) : Ow S S2 ρ ρ2 M := fun i hi c e => by
  rcases b i hi c e with h | ⟨j, hj, h⟩
  · exact .inl (Nat.le_trans l h)
  · exact a j hj c h
theorem Pz.trans {γ1 γ2 : List Nat} {ρ ρ1 ρ2 : Env} {M M1 : Mem} (a : Pz γ1 ρ ρ1 M) (b : Pz γ2 ρ1 ρ2 M1) (l : M.length ≤ M1.length) (s : ∀ c, c ∈ γ1 → c ∈ γ2) : Pz γ2 ρ ρ2 M := fun i c e n => by
  rcases b i c e n with h | ⟨j, h⟩
  · exact .inl (Nat.le_trans l h)
  · exact a j c h fun z => n (s c z)
theorem FrS.sub {S : List Nat} {ρ : Env} {γ γ' : List Nat} {M M' : Mem} (x : FrS S ρ γ γ' M M') : ∀ c, c ∈ γ → c ∈ γ' := fun c h => by
  obtain ⟨j, hj⟩ := List.mem_iff_getElem?.mp h
  exact List.mem_of_getElem? (x.pre j c hj)
def OR (S S' B γ' : List Nat) (M M' : Mem) (ρ : Env) : Out → Out → Prop
  | .nx ρv', .nx ρ' => EV S' γ' M' ρv' ρ' ∧ Ow S S' ρ ρ' M ∧ Pz γ' ρ ρ' M
  | .bk ρv', .bk ρ' => EV B γ' M' ρv' ρ' ∧ Ow S B ρ ρ' M ∧ Pz γ' ρ ρ' M
  | .ct ρv', .ct ρ' => EV B γ' M' ρv' ρ' ∧ Ow S B ρ ρ' M ∧ Pz γ' ρ ρ' M
  | .rt r, .rt u => UR γ' M' r u ∧ ∀ c : Nat, u = U.cell c → c ∉ γ' → M.length ≤ c ∨ ∃ j : Nat, ρ[j]? = some (some (U.cell c))
  | _, _ => False
structure VS (S S' B : List Nat) (m v : MS) : Prop where
  run : ∀ (γ : List Nat) (ρ ρv : Env) (M Mv : Mem) (o : Out) (Mv' : Mem), SR γ Mv M → EV S γ M ρv ρ → v ρv Mv = some (o, Mv') →
    ∃ γ' o' M', m ρ M = some (o', M') ∧ SR γ' Mv' M' ∧ FrS S ρ γ γ' M M' ∧ OR S S' B γ' M M' ρ o o'
theorem Ow.self {S S' : List Nat} {ρ : Env} {M : Mem} (h : ∀ i ∈ S', i ∈ S) : Ow S S' ρ ρ M := fun i hi c e => .inr ⟨i, h i hi, e⟩
theorem Pz.self {γ : List Nat} {ρ : Env} {M : Mem} : Pz γ ρ ρ M := fun i c e _ => .inr ⟨i, e⟩
section
variable {S S' B : List Nat} {ma va : ME} {m v m2 v2 : MS} {mt vt : MT}
theorem vs_nil (h : ∀ i ∈ S', i ∈ S := by decide) : VS S S' B sNil sNil := ⟨fun γ ρ ρv M Mv o Mv' s ev e => by
  cases e
  exact ⟨γ, _, M, rfl, s, Fx.refl.s, ev.weak h, .self h, .self⟩⟩
theorem vs_seq {S1 : List Nat} (h1 : VS S S1 B m v) (h2 : VS S1 S' B m2 v2) : VS S S' B (sSeq m m2) (sSeq v v2) := ⟨fun γ ρ ρv M Mv o Mv' s ev e => by
  unfold sSeq at e
  split at e
  · rename_i ρ1 M1 e1
    obtain ⟨γ1, o1, N1, q1, s1, x1, r1⟩ := h1.run γ ρ ρv M Mv _ _ s ev e1
    cases o1 with
    | nx ρ2 =>
      obtain ⟨ev1, ow1, pz1⟩ := r1
      obtain ⟨γ2, o2, N2, q2, s2, x2, r2⟩ := h2.run γ1 ρ2 ρ1 N1 M1 _ _ s1 ev1 e
      refine ⟨γ2, o2, N2, by unfold sSeq; rw [q1]; exact q2, s2, x1.trans ow1 x2, ?_⟩
      cases o with
      | nx ρv' =>
        cases o2 with
        | nx ρ' => exact ⟨r2.1, ow1.trans r2.2.1 x1.len, pz1.trans r2.2.2 x1.len x2.sub⟩
        | _ => exact False.elim r2
      | bk ρv' =>
        cases o2 with
        | bk ρ' => exact ⟨r2.1, ow1.trans r2.2.1 x1.len, pz1.trans r2.2.2 x1.len x2.sub⟩
        | _ => exact False.elim r2
      | ct ρv' =>
        cases o2 with
        | ct ρ' => exact ⟨r2.1, ow1.trans r2.2.1 x1.len, pz1.trans r2.2.2 x1.len x2.sub⟩
        | _ => exact False.elim r2
      | rt r =>
        cases o2 with
        | rt u =>
          refine ⟨r2.1, fun c hc n => ?_⟩
          rcases r2.2 c hc n with h | ⟨j, h⟩
          · exact .inl (Nat.le_trans x1.len h)
          · exact pz1 j c h fun z => n (x2.sub c z)
        | _ => exact False.elim r2
    | _ => exact False.elim r1
  · rename_i hne
    obtain ⟨γ1, o1, N1, q1, s1, x1, r1⟩ := h1.run γ ρ ρv M Mv _ _ s ev e
    refine ⟨γ1, o1, N1, ?_, s1, x1, ?_⟩
    · unfold sSeq
      rw [q1]
      cases o with
      | nx ρv' => exact (hne _ _ e).elim
      | bk _ => cases o1 <;> first | rfl | exact False.elim r1
      | ct _ => cases o1 <;> first | rfl | exact False.elim r1
      | rt _ => cases o1 <;> first | rfl | exact False.elim r1
    · cases o with
      | nx ρv' => exact (hne _ _ e).elim
      | bk _ => cases o1 <;> first | exact r1 | exact False.elim r1
      | ct _ => cases o1 <;> first | exact r1 | exact False.elim r1
      | rt _ => cases o1 <;> first | exact r1 | exact False.elim r1⟩
theorem vs_ret (h : VJ [] ma va) : VS S S' B (sRet ma) (sRet va) := ⟨fun γ ρ ρv M Mv o Mv' s ev e => by
  unfold sRet at e
  split at e
  · rename_i u M1 e1
    cases e
    obtain ⟨γ1, u1, N1, q1, s1, r1, x1, p1⟩ := h.run γ ρ ρv M Mv _ _ s ev.nil e1
    refine ⟨γ1, .rt u1, N1, by unfold sRet; rw [q1], s1, x1.s, r1, fun c hc n => ?_⟩
    rcases p1 c hc n with k | ⟨i, w, _, _, k⟩
    · exact .inl k
    · exact .inr ⟨i, k⟩
  · cases e⟩
theorem vs_if (hc : VT mt vt) (h1 : VS S S' B m v) (h2 : VS S S' B m2 v2) : VS S S' B (sIf mt m m2) (sIf vt v v2) := ⟨fun γ ρ ρv M Mv o Mv' s ev e => by
  have fin : ∀ {γ1 : List Nat} {N1 : Mem} {γ2 : List Nat} {N2 : Mem} {o' : Out}, Fx γ γ1 M N1 → FrS S ρ γ1 γ2 N1 N2 → OR S S' B γ2 N1 N2 ρ o o' → FrS S ρ γ γ2 M N2 ∧ OR S S' B γ2 M N2 ρ o o' := by
    intro γ1 N1 γ2 N2 o' x y r
    refine ⟨x.s.trans (.self fun _ z => z) y, ?_⟩
    have l := x.len
    cases o with
    | nx _ =>
      cases o' with
      | nx _ => exact ⟨r.1, fun i hi c e => (r.2.1 i hi c e).imp (Nat.le_trans l) id, fun i c e n => (r.2.2 i c e n).imp (Nat.le_trans l) id⟩
      | _ => exact False.elim r
    | bk _ =>
      cases o' with
      | bk _ => exact ⟨r.1, fun i hi c e => (r.2.1 i hi c e).imp (Nat.le_trans l) id, fun i c e n => (r.2.2 i c e n).imp (Nat.le_trans l) id⟩
      | _ => exact False.elim r
    | ct _ =>
      cases o' with
      | ct _ => exact ⟨r.1, fun i hi c e => (r.2.1 i hi c e).imp (Nat.le_trans l) id, fun i c e n => (r.2.2 i c e n).imp (Nat.le_trans l) id⟩
      | _ => exact False.elim r
    | rt _ =>
      cases o' with
      | rt _ => exact ⟨r.1, fun c e n => (r.2 c e n).imp (Nat.le_trans l) id⟩
      | _ => exact False.elim r
  unfold sIf at e
  split at e
  · rename_i M1 e1
    obtain ⟨γ1, N1, q1, s1, x1⟩ := hc.run γ ρ ρv M Mv _ M1 s ev.nil e1
    obtain ⟨γ2, o2, N2, q2, s2, x2, r2⟩ := h1.run γ1 ρ ρv N1 M1 o Mv' s1 (ev.ext x1) e
    obtain ⟨a, b⟩ := fin x1 x2 r2
    exact ⟨γ2, o2, N2, by unfold sIf; rw [q1]; exact q2, s2, a, b⟩
  · rename_i M1 e1
    obtain ⟨γ1, N1, q1, s1, x1⟩ := hc.run γ ρ ρv M Mv _ M1 s ev.nil e1
    obtain ⟨γ2, o2, N2, q2, s2, x2, r2⟩ := h2.run γ1 ρ ρv N1 M1 o Mv' s1 (ev.ext x1) e
    obtain ⟨a, b⟩ := fin x1 x2 r2
    exact ⟨γ2, o2, N2, by unfold sIf; rw [q1]; exact q2, s2, a, b⟩
  · cases e⟩
/-! ### assignments -/
theorem own_lt {γ : List Nat} {M : Mem} {ρv ρ : Env} (ev : EV S γ M ρv ρ) {j c : Nat} (hj : j ∈ S) (h : ρ[j]? = some (some (.cell c))) : c < M.length ∧ c ∉ γ := by
  obtain ⟨c', f, ds, h1, h2, h3, h4, h5⟩ := ev.own j hj
  rw [h2] at h
  cases h
  exact ⟨(List.getElem?_eq_some_iff.mp h4).1, h3⟩
theorem pr_own {γ γ' : List Nat} {M N : Mem} {ρv ρ : Env} {u : U} (ev : EV S γ M ρv ρ) (l : M.length ≤ N.length) (p : Pr S γ' ρv ρ N u) {c : Nat} (hc : u = .cell c) (n : c ∉ γ') : ∀ j ∈ S, ρ[j]? ≠ some (some (.cell c)) := fun j hj e => by
  obtain ⟨c', f, ds, h1, h2, h3, h4, h5⟩ := ev.own j hj
  rw [h2] at e
  cases e
  rcases p c hc n with k | ⟨i, w, k1, k2, k3⟩
  · have := (List.getElem?_eq_some_iff.mp h4).1
    omega
  · exact h5 i w (fun z => k1 (z ▸ hj)) k2 k3
theorem pz_set {γ' : List Nat} {M : Mem} {ρv ρ : Env} {u : U} {i : Nat} (p : Pr S γ' ρv ρ M u) : Pz γ' ρ (ρ.set i (some u)) M := fun j c e n => by
  rcases set_some e with ⟨_, e2⟩ | ⟨_, e⟩
  · rcases p c e2.symm n with k | ⟨i', w, _, _, k⟩
    · exact .inl k
    · exact .inr ⟨i', k⟩
  · exact .inr ⟨j, e⟩
theorem vs_set {i : Nat} (h : VJ S ma va) (hs : ∀ j ∈ S', j ∈ S ∧ j ≠ i := by decide) : VS S S' B (sAsg ma (gNm i)) (sAsg va (gNm i)) := ⟨fun γ ρ ρv M Mv o Mv' s ev e => by
  unfold sAsg at e
  split at e
  · rename_i r M1 e1
    cases e
    obtain ⟨γ1, u1, N1, q1, s1, r1, x1, p1⟩ := h.run γ ρ ρv M Mv _ _ s ev e1
    have ev1 := (ev.ext x1).weak fun j hj => (hs j hj).1
    refine ⟨γ1, .nx (ρ.set i (some u1)), N1, by unfold sAsg; rw [q1]; rfl, s1, x1.s, ev1.set r1 (fun z => (hs i z).2 rfl) (fun c hc n j hj => pr_own ev (Nat.le_refl _) p1 hc n j (hs j hj).1), fun j hj c e => ?_, pz_set p1⟩
    rw [List.getElem?_set_ne (Ne.symm (hs j hj).2)] at e
    exact .inr ⟨j, (hs j hj).1, e⟩
  · cases e⟩
theorem ev_cells {γ : List Nat} {M Mv : Mem} {ρv ρ : Env} (s : SR γ Mv M) (ev : EV S γ M ρv ρ) {j c : Nat} {w : U} (hw : ρv[j]? = some (some w)) (e : ρ[j]? = some (some (.cell c))) : c < M.length := by
  obtain ⟨u, h1, h2⟩ := ev.ok j w hw
  rw [h1] at e
  cases e
  cases h2 with
  | of r => exact s.lt r.cellIn
  | lv _ l => exact l.lt
theorem EV.setF {γ : List Nat} {M : Mem} {ρv ρ : Env} {i c : Nat} {f : Bool} {ds : List PyData} (h : EV S γ M ρv ρ) (hi : i ∉ S) (n : c ∉ γ) (hm : M[c]? = some (.lst f (ds.map .dat))) (hc : ∀ (j : Nat) (w : U), ρv[j]? = some (some w) → ρ[j]? ≠ some (some (.cell c))) (hl : i < ρ.length) : EV (i :: S) γ M (ρv.set i (some (.lv ds))) (ρ.set i (some (.cell c))) := by
  have h0 := h.set (i := i) (.lv n (.inl ⟨f, hm⟩)) hi (fun b hb _ j hj e => by
    cases hb
    obtain ⟨c', f', ds', h1, h2, h3, h4, h5⟩ := h.own j hj
    exact hc j _ h1 e)
  refine ⟨h0.len, h0.ok, fun j hj => ?_⟩
  rcases List.mem_cons.mp hj with rfl | hj
  · refine ⟨c, f, ds, List.getElem?_set_self (by rw [h.len]; exact hl), List.getElem?_set_self hl, n, hm, fun k w hk hw e => ?_⟩
    rw [List.getElem?_set_ne (Ne.symm hk)] at e hw
    exact hc k w hw e
  · exact h0.own j hj
/-- a new list gets a name of its own -/
def sOwn (va : ME) (i : Nat) : MS := fun ρ M => if i < ρ.length then sAsg va (gNm i) ρ M else none
theorem vs_own {t : Bool} {i : Nat} (h : VFr t ma va) (hs : ∀ j ∈ S', j = i ∨ (j ∈ S ∧ j ≠ i) := by decide) : VS S S' B (sAsg ma (gNm i)) (sOwn va i) := ⟨fun γ ρ ρv M Mv o Mv' s ev e => by
  unfold sOwn at e
  split at e
  · rename_i hlv
    have hl : i < ρ.length := by rw [← ev.len]; exact hlv
    unfold sAsg at e
    split at e
    · rename_i r M1 e1
      cases e
      obtain ⟨γ1, c, N1, ds, f, rfl, q1, s1, x1, hc, hn, hm, _⟩ := h.run γ ρ ρv M Mv _ _ s ev.nil e1
      have ev0 := ev.ext x1
      have p1 : Pr S γ1 ρv ρ M (.cell c) := pr_new fun b hb _ => by cases hb; exact hc
      have ev1 : EV (S.filter (· ≠ i)) γ1 N1 ρv ρ := ev0.weak fun j hj => (List.mem_filter.mp hj).1
      have hcell : ∀ (j : Nat) (w : U), ρv[j]? = some (some w) → ρ[j]? ≠ some (some (.cell c)) := fun j w hw e => by
        have := ev_cells s ev hw e
        omega
      refine ⟨γ1, .nx (ρ.set i (some (.cell c))), N1, by unfold sAsg; rw [q1]; rfl, s1, x1.s, (ev1.setF (by simp) hn hm hcell hl).weak (fun j hj => ?_), fun j hj b e => ?_, pz_set p1⟩
      · rcases hs j hj with rfl | ⟨h1, h2⟩
        · exact List.mem_cons_self
        · exact List.mem_cons_of_mem _ (List.mem_filter.mpr ⟨h1, by simpa using h2⟩)
      · rcases set_some e with ⟨_, e2⟩ | ⟨hji, e⟩
        · cases e2
          exact .inl hc
        · rcases hs j hj with rfl | ⟨hj', _⟩
          · exact absurd rfl hji
          · exact .inr ⟨j, hj', e⟩
    · cases e
  · cases e⟩
/-- a tuple to several names -/
theorem vs_asgT {sl : List Nat} {k : Nat} {g g' : MGs} (h : VJ [] ma va) (hg : VGs sl g g') (hs : ∀ j ∈ S', j ∈ S := by decide) (hd : ∀ j ∈ sl, j ∉ S' := by decide) : VS S S' B (sAsg ma (gTp k g)) (sAsg va (gTp k g')) := ⟨fun γ ρ ρv M Mv o Mv' s ev e => by
  unfold sAsg at e
  split at e
  · rename_i r M1 e1
    split at e
    · rename_i ρv' M2 e2
      cases e
      obtain ⟨γ1, u1, N1, q1, s1, r1, x1, p1⟩ := h.run γ ρ ρv M Mv _ _ s ev.nil e1
      cases r1 with
      | lv n l => cases e2
      | of r1 =>
        obtain ⟨rfl, ρ', q2, ev2, k2, z2⟩ := (vg_tp (k := k) hg).run S' γ1 N1 M1 r u1 ρv ρ ρv' _ hd r1 ((ev.ext x1).weak hs) e2
        refine ⟨γ1, .nx ρ', N1, by unfold sAsg; rw [q1]; simp only; rw [q2], s1, x1.s, ev2, fun j hj c e => ?_, fun j c e n => .inr ⟨j, k2 j c e n⟩⟩
        obtain ⟨c', f, ds, h1, h2, h3, h4, h5⟩ := ev2.own j hj
        rw [h2] at e
        cases e
        exact .inr ⟨j, hs j hj, k2 j _ h2 h3⟩
    · cases e
  · cases e⟩
/-- a, b = x, y -/
def vPar (i j : Nat) (va vb : ME) : MS := fun ρ M => match va ρ M with
  | some (x, M1) => match vb ρ M1 with
    | some (y, M2) => some (.nx ((ρ.set i (some x)).set j (some y)), M2)
    | none => none
  | none => none
theorem par_m {mb : ME} {i j : Nat} {ρ : Env} {M N1 N2 : Mem} {u1 u2 : U} (q1 : ma ρ M = some (u1, N1)) (q2 : mb ρ N1 = some (u2, N2)) : sPar i j (aCons ma (aCons mb aNil)) ρ M = some (.nx ((ρ.set i (some u1)).set j (some u2)), N2) := by
  unfold sPar aCons
  rw [q1]
  simp only
  rw [q2]
  rfl
theorem parn_m {mb : ME} {i j : Nat} {ρ : Env} {M N1 N2 : Mem} {u1 u2 : U} (q1 : ma ρ M = some (u1, N1)) (q2 : mb ρ N1 = some (u2, N2)) : sAsg (eTupN (aCons ma (aCons mb aNil))) (gTp 2 (gCn (gNm i) (gCn (gNm j) gN0))) ρ M = some (.nx ((ρ.set i (some u1)).set j (some u2)), N2) := by
  have e : eTupN (aCons ma (aCons mb aNil)) ρ M = some (.tupc [u1, u2], N2) := by
    unfold eTupN aCons
    rw [q1]
    simp only
    rw [q2]
    simp only [aNil]
    rw [if_pos (by show 2 ≤ sizeLine; decide)]
  unfold sAsg
  rw [e]
  rfl
theorem vs_par2 {i j : Nat} {mb vb : ME} {mm : MS} (hm : ∀ {ρ : Env} {M N1 N2 : Mem} {u1 u2 : U}, ma ρ M = some (u1, N1) → mb ρ N1 = some (u2, N2) → mm ρ M = some (.nx ((ρ.set i (some u1)).set j (some u2)), N2))
    (ha : VJ S ma va) (hb : VJ S mb vb) (hij : i ≠ j := by decide) (hs : ∀ k ∈ S', k ∈ S ∧ k ≠ i ∧ k ≠ j := by decide) : VS S S' B mm (vPar i j va vb) := ⟨fun γ ρ ρv M Mv o Mv' s ev e => by
  unfold vPar at e
  split at e
  · rename_i x M1 e1
    split at e
    · rename_i y M2 e2
      cases e
      obtain ⟨γ1, u1, N1, q1, s1, r1, x1, p1⟩ := ha.run γ ρ ρv M Mv _ _ s ev e1
      obtain ⟨γ2, u2, N2, q2, s2, r2, x2, p2⟩ := hb.run γ1 ρ ρv N1 M1 _ _ s1 (ev.ext x1) e2
      have ev2 := ((ev.ext x1).ext x2).weak (S' := S') fun k hk => (hs k hk).1
      have p1' := p1.mono (M0 := M) x2.sub (Nat.le_refl _)
      have p2' := p2.mono (M0 := M) (fun _ z => z) x1.len
      have a := ev2.set (i := i) (r1.ext x2) (fun z => (hs i z).2.1 rfl) (fun c hc n k hk => pr_own ev (Nat.le_refl _) p1' hc n k (hs k hk).1)
      have b := a.set (i := j) r2 (fun z => (hs j z).2.2 rfl) (fun c hc n k hk => by
        rw [List.getElem?_set_ne (Ne.symm (hs k hk).2.1)]
        exact pr_own ev (Nat.le_refl _) p2' hc n k (hs k hk).1)
      refine ⟨γ2, _, N2, hm q1 q2, s2, (x1.trans x2).s, b, fun k hk c e => ?_, fun k c e n => ?_⟩
      · rw [List.getElem?_set_ne (Ne.symm (hs k hk).2.2), List.getElem?_set_ne (Ne.symm (hs k hk).2.1)] at e
        exact .inr ⟨k, (hs k hk).1, e⟩
      · rcases set_some e with ⟨_, e2⟩ | ⟨_, e⟩
        · rcases p2' c e2.symm n with z | ⟨i', w, _, _, z⟩
          · exact .inl z
          · exact .inr ⟨i', z⟩
        · exact pz_set p1' k c e n
    · cases e
  · cases e⟩
/-- the second one is a new list -/
def vParF (i j : Nat) (va vb : ME) : MS := fun ρ M => if j < ρ.length then vPar i j va vb ρ M else none
theorem vs_parF {t : Bool} {i j : Nat} {mb vb : ME} {mm : MS} (hm : ∀ {ρ : Env} {M N1 N2 : Mem} {u1 u2 : U}, ma ρ M = some (u1, N1) → mb ρ N1 = some (u2, N2) → mm ρ M = some (.nx ((ρ.set i (some u1)).set j (some u2)), N2))
    (ha : VJ S ma va) (hb : VFr t mb vb) (hij : i ≠ j := by decide) (hs : ∀ k ∈ S', k = j ∨ (k ∈ S ∧ k ≠ i ∧ k ≠ j) := by decide) : VS S S' B mm (vParF i j va vb) := ⟨fun γ ρ ρv M Mv o Mv' s ev e => by
  unfold vParF at e
  split at e
  · rename_i hlv
    have hl : j < ρ.length := by rw [← ev.len]; exact hlv
    unfold vPar at e
    split at e
    · rename_i x M1 e1
      split at e
      · rename_i y M2 e2
        cases e
        obtain ⟨γ1, u1, N1, q1, s1, r1, x1, p1⟩ := ha.run γ ρ ρv M Mv _ _ s ev e1
        obtain ⟨γ2, c, N2, ds, f, rfl, q2, s2, x2, hc, hn, hmm, _⟩ := hb.run γ1 ρ ρv N1 M1 _ _ s1 (ev.nil.ext x1) e2
        have p1' := p1.mono (M0 := M) x2.sub (Nat.le_refl _)
        have ev2 : EV (S.filter fun k => k ≠ i ∧ k ≠ j) γ2 N2 ρv ρ := ((ev.ext x1).ext x2).weak fun k hk => (List.mem_filter.mp hk).1
        have mem : ∀ {k}, k ∈ (S.filter fun k => k ≠ i ∧ k ≠ j) → k ∈ S ∧ k ≠ i ∧ k ≠ j := fun hk => by
          have := List.mem_filter.mp hk
          exact ⟨this.1, by simpa using this.2⟩
        have a := ev2.set (i := i) (r1.ext x2) (fun z => (mem z).2.1 rfl) (fun b hb n k hk => pr_own ev (Nat.le_refl _) p1' hb n k (mem hk).1)
        have l1 := x1.len
        have ev1 := (ev.ext x1)
        have b := a.setF (i := j) (fun z => (mem z).2.2 rfl) hn hmm (fun k w hw e => by
          rcases set_some e with ⟨_, e2⟩ | ⟨hki, e⟩
          · have r1' := r1
            rw [← e2] at r1'
            cases r1' with
            | of z => exact absurd (s1.lt z.cellIn) (by omega)
            | lv _ z => exact absurd z.lt (by omega)
          · rw [List.getElem?_set_ne (Ne.symm hki)] at hw
            have := ev_cells s ev hw e
            omega) (by rw [List.length_set]; exact hl)
        refine ⟨γ2, _, N2, hm q1 q2, s2, (x1.trans x2).s, b.weak (fun k hk => ?_), fun k hk d e => ?_, fun k d e n => ?_⟩
        · rcases hs k hk with rfl | ⟨h1, h2⟩
          · exact List.mem_cons_self
          · exact List.mem_cons_of_mem _ (List.mem_filter.mpr ⟨h1, by simpa using h2⟩)
        · rcases set_some e with ⟨_, e2⟩ | ⟨hkj, e⟩
          · cases e2
            exact .inl (Nat.le_trans l1 hc)
          · rcases hs k hk with rfl | ⟨h1, h2, h3⟩
            · exact absurd rfl hkj
            · rw [List.getElem?_set_ne (Ne.symm h2)] at e
              exact .inr ⟨k, h1, e⟩
        · rcases set_some e with ⟨_, e2⟩ | ⟨_, e⟩
          · cases e2
            exact .inl (Nat.le_trans l1 hc)
          · exact pz_set p1' k d e n
      · cases e
    · cases e
  · cases e⟩
/-- the first one is a new list -/
def vParG (i j : Nat) (va vb : ME) : MS := fun ρ M => if i < ρ.length then vPar i j va vb ρ M else none
theorem vs_parG {t : Bool} {i j : Nat} {mb vb : ME} {mm : MS} (hm : ∀ {ρ : Env} {M N1 N2 : Mem} {u1 u2 : U}, ma ρ M = some (u1, N1) → mb ρ N1 = some (u2, N2) → mm ρ M = some (.nx ((ρ.set i (some u1)).set j (some u2)), N2))
    (ha : VFr t ma va) (hb : VJ S mb vb) (hij : i ≠ j := by decide) (hs : ∀ k ∈ S', k = i ∨ (k ∈ S ∧ k ≠ i ∧ k ≠ j) := by decide) : VS S S' B mm (vParG i j va vb) := ⟨fun γ ρ ρv M Mv o Mv' s ev e => by
  unfold vParG at e
  split at e
  · rename_i hlv
    have hl : i < ρ.length := by rw [← ev.len]; exact hlv
    unfold vPar at e
    split at e
    · rename_i x M1 e1
      split at e
      · rename_i y M2 e2
        cases e
        obtain ⟨γ1, c, N1, ds, f, rfl, q1, s1, x1, hc, hn, hmm, _⟩ := ha.run γ ρ ρv M Mv _ _ s ev.nil e1
        obtain ⟨γ2, u2, N2, q2, s2, r2, x2, p2⟩ := hb.run γ1 ρ ρv N1 M1 _ _ s1 (ev.ext x1) e2
        have hcl := (List.getElem?_eq_some_iff.mp hmm).1
        have p2' := p2.mono (M0 := M) (fun _ z => z) x1.len
        have ev2 : EV (S.filter fun k => k ≠ i ∧ k ≠ j) γ2 N2 ρv ρ := ((ev.ext x1).ext x2).weak fun k hk => (List.mem_filter.mp hk).1
        have mem : ∀ {k}, k ∈ (S.filter fun k => k ≠ i ∧ k ≠ j) → k ∈ S ∧ k ≠ i ∧ k ≠ j := fun hk => by
          have := List.mem_filter.mp hk
          exact ⟨this.1, by simpa using this.2⟩
        have a := ev2.setF (i := i) (fun z => (mem z).2.1 rfl) (x2.out hcl hn) ((x2.old c hcl hn).trans hmm) (fun k w hw e => by
          have := ev_cells s ev hw e
          omega) hl
        have b := a.set (i := j) r2 (fun z => by
          rcases List.mem_cons.mp z with z | z
          · exact hij z.symm
          · exact (mem z).2.2 rfl) (fun d hd n k hk e => by
          rcases List.mem_cons.mp hk with rfl | hk
          · rw [List.getElem?_set_self hl] at e
            cases e
            rcases p2 c hd n with z | ⟨i', w, _, z1, z2⟩
            · omega
            · have := ev_cells s ev z1 z2
              omega
          · rw [List.getElem?_set_ne (Ne.symm (mem hk).2.1)] at e
            exact pr_own ev (Nat.le_refl _) p2' hd n k (mem hk).1 e)
        have l1 := x1.len
        refine ⟨γ2, _, N2, hm q1 q2, s2, (x1.trans x2).s, b.weak (fun k hk => ?_), fun k hk d e => ?_, fun k d e n => ?_⟩
        · rcases hs k hk with rfl | ⟨h1, h2⟩
          · exact List.mem_cons_self
          · exact List.mem_cons_of_mem _ (List.mem_filter.mpr ⟨h1, by simpa using h2⟩)
        · have hkj : k ≠ j := by
            rcases hs k hk with rfl | ⟨_, _, h3⟩
            · exact hij
            · exact h3
          rw [List.getElem?_set_ne (Ne.symm hkj)] at e
          rcases set_some e with ⟨_, e2⟩ | ⟨hki, e⟩
          · cases e2
            exact .inl hc
          · rcases hs k hk with rfl | ⟨h1, h2, h3⟩
            · exact absurd rfl hki
            · exact .inr ⟨k, h1, e⟩
        · rcases set_some e with ⟨_, e2⟩ | ⟨_, e⟩
          · rcases p2' d e2.symm n with z | ⟨i', w, _, _, z⟩
            · exact .inl z
            · exact .inr ⟨i', z⟩
          · rcases set_some e with ⟨_, e2⟩ | ⟨_, e⟩
            · cases e2
              exact .inl hc
            · exact .inr ⟨k, e⟩
      · cases e
    · cases e
  · cases e⟩
end
end Pu

namespace Pu
open PySem PySem.Spec PyProof.Rows L2 Lw
open Classical
/-! ### loops -/
noncomputable def vFor (mi : MI) (g : MG) (b : MS) : MS := fun ρ M => match mi ρ M with
  | some ((items, _), M1) => forM (fun _ => True) g b items ρ M1
  | none => none
section
variable {S B : List Nat} {sl : List Nat} {mi vi : MI} {g g' : MG} {b b' : MS} {c c' : MT}
theorem OR.loop {S B γ' : List Nat} {M M' : Mem} {ρ : Env} {ρv' : Env} {o' : Out} (h : OR S S S γ' M M' ρ (.nx ρv') o' ∨ OR S S S γ' M M' ρ (.ct ρv') o') : ∃ ρ', (o' = .nx ρ' ∨ o' = .ct ρ') ∧ EV S γ' M' ρv' ρ' ∧ Ow S S ρ ρ' M ∧ Pz γ' ρ ρ' M := by
  rcases h with h | h
  · cases o' with
    | nx ρ' => exact ⟨ρ', .inl rfl, h⟩
    | _ => exact False.elim h
  · cases o' with
    | ct ρ' => exact ⟨ρ', .inr rfl, h⟩
    | _ => exact False.elim h
theorem for_sim {cs : List Nat} {Mb : Mem} (hg : VG sl g g') (hsl : ∀ i ∈ sl, i ∉ S) (hb : VS S S S b b') :
    ∀ (items its : List U) (γ : List Nat) (Mv M : Mem) (ρv ρ : Env) (o : Out) (Mv2 : Mem), SR γ Mv M → EV S γ M ρv ρ → UR0s γ items its → (∀ a ∈ cs, a < M.length ∧ a ∉ γ ∧ (∀ i ∈ S, ρ[i]? ≠ some (some (U.cell a))) ∧ M[a]? = Mb[a]?) →
      forM (fun _ => True) g' b' items ρv Mv = some (o, Mv2) → ∃ γ2 o' M2, forM (Wt Mb cs) g b its ρ M = some (o', M2) ∧ SR γ2 Mv2 M2 ∧ FrS S ρ γ γ2 M M2 ∧ OR S S B γ2 M M2 ρ o o'
  | [], _, γ, Mv, M, ρv, ρ, o, Mv2, s, ev, .nil, hc, h => by
    cases h
    exact ⟨γ, _, M, rfl, s, Fx.refl.s, ev, .self fun _ z => z, .self⟩
  | v :: items, _, γ, Mv, M, ρv, ρ, o, Mv2, s, ev, .cons (u := u) (us := its) r rs, hc, h => by
    unfold forM at h
    split at h
    · rename_i ρ1 M1 e1
      obtain ⟨rfl, ρ2, q1, ev1, k1, z1⟩ := hg.run S γ M Mv v u ρv ρ ρ1 M1 hsl r ev e1
      have ow1 : Ow S S ρ ρ2 M := fun i hi a e => .inr ⟨i, hi, k1 i a e (own_lt ev1 hi e).2⟩
      have pz1 : Pz γ ρ ρ2 M := fun i a e n => .inr ⟨i, k1 i a e n⟩
      have go : ∀ {γ3 : List Nat} {N3 : Mem} {ρ3v ρ3 : Env} {M3 : Mem}, SR γ3 M3 N3 → FrS S ρ2 γ γ3 M N3 → EV S γ3 N3 ρ3v ρ3 → Ow S S ρ2 ρ3 M → Pz γ3 ρ2 ρ3 M → forM (fun _ => True) g' b' items ρ3v M3 = some (o, Mv2) →
          Wt Mb cs N3 ∧ ∃ γ2 o' M2, forM (Wt Mb cs) g b its ρ3 N3 = some (o', M2) ∧ SR γ2 Mv2 M2 ∧ FrS S ρ γ γ2 M M2 ∧ OR S S B γ2 M M2 ρ o o' := by
        intro γ3 N3 ρ3v ρ3 M3 s3 x3 ev3 ow3 pz3 e4
        have hc3 : ∀ a ∈ cs, a < N3.length ∧ a ∉ γ3 ∧ (∀ i ∈ S, ρ3[i]? ≠ some (some (U.cell a))) ∧ N3[a]? = Mb[a]? := fun a ha => by
          obtain ⟨h1, h2, h3, h4⟩ := hc a ha
          have no2 : ∀ i ∈ S, ρ2[i]? ≠ some (some (U.cell a)) := fun i hi e => h3 i hi (k1 i a e h2)
          refine ⟨Nat.lt_of_lt_of_le h1 x3.len, x3.out h1 h2, fun i hi e => ?_, (x3.old a h1 h2 no2).trans h4⟩
          rcases ow3 i hi a e with z | ⟨j, hj, z⟩
          · omega
          · exact no2 j hj z
        refine ⟨fun a ha => (hc3 a ha).2.2.2, ?_⟩
        obtain ⟨γ5, o5, N5, q5, s5, x5, r5⟩ := for_sim hg hsl hb items its γ3 M3 N3 ρ3v ρ3 o Mv2 s3 ev3 (rs.ext x3.pre) hc3 e4
        have owt := ow1.trans ow3 (Nat.le_refl _)
        have pzt : Pz γ3 ρ ρ3 M := pz1.trans pz3 (Nat.le_refl _) x3.sub
        have xt : FrS S ρ γ γ3 M N3 := ⟨x3.len, x3.pre, x3.new, fun a h1 h2 h3 => x3.old a h1 h2 fun i hi e => h3 i hi (k1 i a e h2)⟩
        refine ⟨γ5, o5, N5, q5, s5, xt.trans owt x5, ?_⟩
        cases o with
        | nx _ =>
          cases o5 with
          | nx _ => exact ⟨r5.1, owt.trans r5.2.1 x3.len, pzt.trans r5.2.2 x3.len x5.sub⟩
          | _ => exact False.elim r5
        | bk _ =>
          cases o5 with
          | bk _ => exact ⟨r5.1, owt.trans r5.2.1 x3.len, pzt.trans r5.2.2 x3.len x5.sub⟩
          | _ => exact False.elim r5
        | ct _ =>
          cases o5 with
          | ct _ => exact ⟨r5.1, owt.trans r5.2.1 x3.len, pzt.trans r5.2.2 x3.len x5.sub⟩
          | _ => exact False.elim r5
        | rt _ =>
          cases o5 with
          | rt _ =>
            refine ⟨r5.1, fun a ha n => ?_⟩
            rcases r5.2 a ha n with z | ⟨j, z⟩
            · exact .inl (Nat.le_trans x3.len z)
            · exact pzt j a z fun w => n (x5.sub a w)
          | _ => exact False.elim r5
      have xt2 : ∀ {γ3 : List Nat} {N3 : Mem}, FrS S ρ2 γ γ3 M N3 → FrS S ρ γ γ3 M N3 := fun x3 => ⟨x3.len, x3.pre, x3.new, fun a h1 h2 h3 => x3.old a h1 h2 fun i hi e => h3 i hi (k1 i a e h2)⟩
      split at h
      · rename_i ρ3v M3 e3
        rw [if_pos trivial] at h
        obtain ⟨γ3, o3, N3, q3, s3, x3, r3⟩ := hb.run γ ρ2 ρ1 M _ _ _ s ev1 e3
        obtain ⟨ρ3, ho, ev3, ow3, pz3⟩ := OR.loop (B := S) (.inl r3)
        obtain ⟨hw, γ5, o5, N5, q5, s5, x5, r5⟩ := go s3 x3 ev3 ow3 pz3 h
        refine ⟨γ5, o5, N5, ?_, s5, x5, r5⟩
        unfold forM
        rw [q1]
        simp only
        rw [q3]
        rcases ho with rfl | rfl <;> simp only <;> rw [if_pos hw] <;> exact q5
      · rename_i ρ3v M3 e3
        rw [if_pos trivial] at h
        obtain ⟨γ3, o3, N3, q3, s3, x3, r3⟩ := hb.run γ ρ2 ρ1 M _ _ _ s ev1 e3
        obtain ⟨ρ3, ho, ev3, ow3, pz3⟩ := OR.loop (B := S) (.inr r3)
        obtain ⟨hw, γ5, o5, N5, q5, s5, x5, r5⟩ := go s3 x3 ev3 ow3 pz3 h
        refine ⟨γ5, o5, N5, ?_, s5, x5, r5⟩
        unfold forM
        rw [q1]
        simp only
        rw [q3]
        rcases ho with rfl | rfl <;> simp only <;> rw [if_pos hw] <;> exact q5
      · rename_i ρ3v M3 e3
        cases h
        obtain ⟨γ3, o3, N3, q3, s3, x3, r3⟩ := hb.run γ ρ2 ρ1 M _ _ _ s ev1 e3
        cases o3 with
        | bk ρ3 =>
          refine ⟨γ3, .nx ρ3, N3, ?_, s3, xt2 x3, r3.1, ow1.trans r3.2.1 (Nat.le_refl _), pz1.trans r3.2.2 (Nat.le_refl _) x3.sub⟩
          unfold forM
          rw [q1]
          simp only
          rw [q3]
        | _ => exact False.elim r3
      · rename_i w M3 e3
        cases h
        obtain ⟨γ3, o3, N3, q3, s3, x3, r3⟩ := hb.run γ ρ2 ρ1 M _ _ _ s ev1 e3
        cases o3 with
        | rt u3 =>
          refine ⟨γ3, .rt u3, N3, ?_, s3, xt2 x3, r3.1, fun a ha n => ?_⟩
          · unfold forM
            rw [q1]
            simp only
            rw [q3]
          · rcases r3.2 a ha n with z | ⟨j, z⟩
            · exact .inl z
            · exact pz1 j a z fun w => n (x3.sub a w)
        | _ => exact False.elim r3
      · cases h
    · cases h
theorem vs_for (hi : VI S mi vi) (hg : VG sl g g') (hb : VS S S S b b') (hsl : ∀ i ∈ sl, i ∉ S := by decide) : VS S S B (sFor mi g b) (vFor vi g' b') := ⟨fun γ ρ ρv M Mv o Mv' s ev e => by
  unfold vFor at e
  split at e
  · rename_i items ws M1 e1
    obtain ⟨γ1, its, cs, N1, q1, s1, x1, rs, hcs⟩ := hi.run γ ρ ρv M Mv _ _ _ s ev e1
    have ev1 := ev.ext x1
    obtain ⟨γ2, o2, N2, q2, s2, x2, r2⟩ := for_sim (cs := cs) (Mb := N1) (B := B) hg hsl hb items its γ1 M1 N1 ρv ρ o Mv' s1 ev1 rs (fun a ha => by
      obtain ⟨h1, h2, h3⟩ := hcs a ha
      refine ⟨h2, h1, fun i hi e => ?_, rfl⟩
      obtain ⟨k1, k2⟩ := own_lt ev hi e
      rcases h3 with h3 | ⟨j, w, j1, j2, j3⟩
      · omega
      · obtain ⟨c', f, ds, z1, z2, z3, z4, z5⟩ := ev.own i hi
        rw [z2] at e
        cases e
        exact z5 j w (fun z => j1 (z ▸ hi)) j2 j3) e
    refine ⟨γ2, o2, N2, by unfold sFor; rw [q1]; exact q2, s2, x1.s.trans (.self fun _ z => z) x2, ?_⟩
    have l := x1.len
    cases o with
    | nx _ =>
      cases o2 with
      | nx _ => exact ⟨r2.1, fun i hi c e => (r2.2.1 i hi c e).imp (Nat.le_trans l) id, fun i c e n => (r2.2.2 i c e n).imp (Nat.le_trans l) id⟩
      | _ => exact False.elim r2
    | bk _ =>
      cases o2 with
      | bk _ => exact ⟨r2.1, fun i hi c e => (r2.2.1 i hi c e).imp (Nat.le_trans l) id, fun i c e n => (r2.2.2 i c e n).imp (Nat.le_trans l) id⟩
      | _ => exact False.elim r2
    | ct _ =>
      cases o2 with
      | ct _ => exact ⟨r2.1, fun i hi c e => (r2.2.1 i hi c e).imp (Nat.le_trans l) id, fun i c e n => (r2.2.2 i c e n).imp (Nat.le_trans l) id⟩
      | _ => exact False.elim r2
    | rt _ =>
      cases o2 with
      | rt _ => exact ⟨r2.1, fun c e n => (r2.2 c e n).imp (Nat.le_trans l) id⟩
      | _ => exact False.elim r2
  · cases e⟩
end
/-! ### weakening -/
theorem VS.weak {S S' S'' B : List Nat} {m v : MS} (h : VS S S' B m v) (w : ∀ i ∈ S'', i ∈ S' := by decide) : VS S S'' B m v := ⟨fun γ ρ ρv M Mv o Mv' s ev e => by
  obtain ⟨γ', o', M', q, s', x, r⟩ := h.run γ ρ ρv M Mv o Mv' s ev e
  refine ⟨γ', o', M', q, s', x, ?_⟩
  cases o with
  | nx _ =>
    cases o' with
    | nx _ => exact ⟨r.1.weak w, fun i hi => r.2.1 i (w i hi), r.2.2⟩
    | _ => exact False.elim r
  | bk _ => cases o' <;> first | exact r | exact False.elim r
  | ct _ => cases o' <;> first | exact r | exact False.elim r
  | rt _ => cases o' <;> first | exact r | exact False.elim r⟩
theorem VS.pre {S S0 S' B : List Nat} {m v : MS} (h : VS S0 S' B m v) (w : ∀ i ∈ S0, i ∈ S := by decide) : VS S S' B m v := ⟨fun γ ρ ρv M Mv o Mv' s ev e => by
  obtain ⟨γ', o', M', q, s', x, r⟩ := h.run γ ρ ρv M Mv o Mv' s (ev.weak w) e
  have x' : FrS S ρ γ γ' M M' := ⟨x.len, x.pre, x.new, fun c h1 h2 h3 => x.old c h1 h2 fun i hi => h3 i (w i hi)⟩
  have ow : ∀ {T : List Nat} {ρ' : Env}, Ow S0 T ρ ρ' M → Ow S T ρ ρ' M := fun h i hi c e => (h i hi c e).imp id fun ⟨j, hj, z⟩ => ⟨j, w j hj, z⟩
  refine ⟨γ', o', M', q, s', x', ?_⟩
  cases o with
  | nx _ =>
    cases o' with
    | nx _ => exact ⟨r.1, ow r.2.1, r.2.2⟩
    | _ => exact False.elim r
  | bk _ =>
    cases o' with
    | bk _ => exact ⟨r.1, ow r.2.1, r.2.2⟩
    | _ => exact False.elim r
  | ct _ =>
    cases o' with
    | ct _ => exact ⟨r.1, ow r.2.1, r.2.2⟩
    | _ => exact False.elim r
  | rt _ => cases o' <;> first | exact r | exact False.elim r⟩
end Pu

namespace Pu
open PySem PySem.Spec PyProof.Rows L2 Lw
open Classical
/-! ### a list of one's own grows -/
def vApp (i : Nat) (va : ME) : MS := fun ρ M => match ρ[i]? with
  | some (some (.lv ds)) => match va ρ M with
    | some (.dat d, M1) => if ds.length < sizeLine then some (.nx (ρ.set i (some (.lv (ds ++ [d])))), M1) else none
    | _ => none
  | _ => none
section
variable {S B : List Nat} {ma va : ME}
/-- what an owner does to its list -/
theorem EV.grow {γ : List Nat} {M N : Mem} {ρv ρ : Env} {i c : Nat} {f : Bool} {ds : List PyData} (ev : EV S γ M ρv ρ) (hi : i ∈ S) (hc : ρ[i]? = some (some (.cell c))) (hn : c ∉ γ) (hN : N = M.set c (.lst f (ds.map .dat))) (hl : c < M.length) : EV S γ N (ρv.set i (some (.lv ds))) ρ := by
  subst hN
  obtain ⟨c0, f0, ds0, a1, a2, a3, a4, a5⟩ := ev.own i hi
  rw [a2] at hc
  cases hc
  have hil : i < ρv.length := (List.getElem?_eq_some_iff.mp a1).1
  have hset := List.getElem?_set_self (a := Cell.lst f (ds.map .dat)) hl
  refine ⟨by rw [List.length_set]; exact ev.len, fun j w e => ?_, fun j hj => ?_⟩
  · rcases set_some e with ⟨rfl, rfl⟩ | ⟨hji, e⟩
    · exact ⟨_, a2, .lv hn (.inl ⟨f, hset⟩)⟩
    · obtain ⟨u, h1, h2⟩ := ev.ok j w e
      refine ⟨u, h1, ?_⟩
      cases h2 with
      | of r => exact .of r
      | lv n l =>
        have hb := fun z => a5 j _ hji e (h1.trans (congrArg (fun q => some (some (U.cell q))) z))
        refine .lv n ?_
        unfold LstAt
        rw [List.getElem?_set_ne fun z => hb z.symm]
        exact l
  · by_cases hji : j = i
    · subst hji
      refine ⟨c, f, ds, List.getElem?_set_self hil, a2, hn, hset, fun k w hk hw => ?_⟩
      rw [List.getElem?_set_ne (Ne.symm hk)] at hw
      exact a5 k w hk hw
    · obtain ⟨b, g, es, h1, h2, h3, h4, h5⟩ := ev.own j hj
      have hb : b ≠ c := fun z => h5 i _ (Ne.symm hji) a1 (by rw [a2, z])
      refine ⟨b, g, es, by rw [List.getElem?_set_ne (Ne.symm hji)]; exact h1, h2, h3, by rw [List.getElem?_set_ne (Ne.symm hb)]; exact h4, fun k w hk hw => ?_⟩
      rcases set_some hw with ⟨rfl, _⟩ | ⟨_, hw⟩
      · exact h5 k _ hk a1
      · exact h5 k w hk hw
theorem vs_app {i : Nat} (h : VX (aCons ma aNil) (aCons va aNil)) (hi : i ∈ S := by decide) : VS S S B (sDrop (eMt "list" appendF (eVar i) (aCons ma aNil))) (vApp i va) := ⟨fun γ ρ ρv M Mv o Mv' s ev e => by
  unfold vApp at e
  split at e
  · rename_i ds eds
    split at e
    · rename_i d M1 e1
      split at e
      · rename_i hz
        cases e
        obtain ⟨c, f, ds', a1, a2, a3, a4, a5⟩ := ev.own i hi
        rw [eds] at a1
        cases a1
        have hcl := (List.getElem?_eq_some_iff.mp a4).1
        obtain ⟨γ1, us, N1, N2, q1, hl, f1, s2, x2⟩ := vx_frz (ds := [d]) h s ev.nil (by unfold aCons; rw [e1]; rfl)
        match us, hl with
        | [u], _ =>
          have hfz : frzU u N1 = (.dat d, N2) := by
            unfold frzAll at f1
            simp only [frzAll] at f1
            injection f1 with g1 g2
            have : (frzU u N1).1 = .dat d := by simpa using g1
            rw [← this, ← g2]
          have a4' := (x2.old c hcl a3).trans a4
          have hn := x2.out hcl a3
          have hcl2 := (List.getElem?_eq_some_iff.mp a4').1
          have q : sDrop (eMt "list" appendF (eVar i) (aCons ma aNil)) ρ M = some (.nx ρ, N2.set c (.lst f ((ds ++ [d]).map .dat))) := by
            unfold sDrop eMt eVar
            rw [a2]
            simp only
            rw [if_pos (show isTyM "list" M (.cell c) = true by unfold isTyM lstOf; simp only [a4, if_true]; rfl), q1]
            simp only
            unfold appendF
            simp only [hfz, a4']
            rw [if_pos (by rw [List.length_map]; exact hz), List.map_append]
            rfl
          refine ⟨γ1, .nx ρ, _, q, sr_set s2 hn, ⟨by rw [List.length_set]; exact x2.len, x2.pre, x2.new, fun b h1 h2 h3 => ?_⟩, (ev.ext x2).grow hi a2 hn rfl hcl2, .self fun _ z => z, .self⟩
          have hb : b ≠ c := fun z => h3 i hi (by rw [a2, z])
          rw [List.getElem?_set_ne (Ne.symm hb)]
          exact x2.old b h1 h2
      · cases e
    · cases e
  · cases e⟩
def vExt (i : Nat) (va : ME) : MS := fun ρ M => match ρ[i]? with
  | some (some (.lv ds)) => match va ρ M with
    | some (u, M1) => match (lstOf M1 u).bind allDat with
      | some es => if ds.length + es.length ≤ sizeLine then some (.nx (ρ.set i (some (.lv (ds ++ es)))), M1) else none
      | none => none
    | none => none
  | _ => none
/-! ### o[k] = e, o a list that is shared -/
def vSb (va vo vi : ME) : MS := fun ρ M => match va ρ M with
  | some (.dat d, M1) => match vo ρ M1 with
    | some (.cell j, M2) => match vi ρ M2 with
      | some (.dat (.int k), M3) => match M3[j]? with
        | some (.lst f ws) => match ixN ws.length k with
          | some n => some (.nx ρ, M3.set j (.lst f (ws.set n (.dat d))))
          | none => none
        | _ => none
      | _ => none
    | _ => none
  | _ => none
theorem sr_put {γ : List Nat} {Mv M : Mem} {j c : Nat} {x y : Cell} (s : SR γ Mv M) (hj : γ[j]? = some c) (r : CR γ x y) : SR γ (Mv.set j x) (M.set c y) ∧ Fx γ γ M (M.set c y) := by
  have hc : c ∈ γ := List.mem_of_getElem? hj
  have hcl := s.lt hc
  refine ⟨⟨by rw [List.length_set]; exact s.len, s.nd, fun k b z hk hz => ?_⟩, ⟨by rw [List.length_set]; exact Nat.le_refl _, fun _ _ z => z, fun _ z => .inl z, fun b h1 h2 => List.getElem?_set_ne (by intro e; subst e; exact h2 hc)⟩⟩
  by_cases e : k = j
  · subst e
    rw [hj] at hk
    cases hk
    have hl : k < Mv.length := by
      have := (List.getElem?_eq_some_iff.mp hz).1
      rw [List.length_set] at this
      exact this
    rw [List.getElem?_set_self hl] at hz
    cases hz
    exact ⟨y, List.getElem?_set_self hcl, r⟩
  · rw [List.getElem?_set_ne (Ne.symm e)] at hz
    obtain ⟨w, h1, h2⟩ := s.ok k b z hk hz
    refine ⟨w, ?_, h2⟩
    rw [List.getElem?_set_ne]
    · exact h1
    · intro z
      subst z
      obtain ⟨h3, h4⟩ := List.getElem?_eq_some_iff.mp hk
      obtain ⟨h5, h6⟩ := List.getElem?_eq_some_iff.mp hj
      exact e ((List.getElem_inj s.nd).mp (h4.trans h6.symm))
theorem ur_cell {γ : List Nat} {M : Mem} {j : Nat} {u : U} (h : UR γ M (.cell j) u) : ∃ c, u = .cell c ∧ γ[j]? = some c := by
  cases h with
  | of h =>
    cases h with
    | cell h => exact ⟨_, rfl, h⟩
theorem vs_sb {mo mi vo vi : ME} (ha : VJ [] ma va) (ho : VJ [] mo vo) (hi : VJ [] mi vi) : VS S S B (sAsg ma (gSb mo mi)) (vSb va vo vi) := ⟨fun γ ρ ρv M Mv o Mv' s ev e => by
  unfold vSb at e
  split at e
  · rename_i d M1 e1
    split at e
    · rename_i j M2 e2
      split at e
      · rename_i k M3 e3
        split at e
        · rename_i f ws hj
          split at e
          · rename_i n hn
            cases e
            obtain ⟨γ1, u1, N1, q1, s1, r1, x1, _⟩ := ha.run γ ρ ρv M Mv _ _ s ev.nil e1
            obtain rfl := ur_dat r1
            obtain ⟨γ2, u2, N2, q2, s2, r2, x2, _⟩ := ho.run γ1 ρ ρv N1 M1 _ _ s1 (ev.nil.ext x1) e2
            obtain ⟨γ3, u3, N3, q3, s3, r3, x3, _⟩ := hi.run γ2 ρ ρv N2 M2 _ _ s2 (ev.nil.ext (x1.trans x2)) e3
            obtain rfl := ur_dat r3
            obtain ⟨c, hc, hg⟩ := ur_cell (r2.ext x3)
            subst hc
            obtain ⟨y, hy, cr⟩ := s3.ok j c _ hg hj
            cases cr with
            | lst rr =>
              rename_i ys
              obtain ⟨s4, x4⟩ := sr_put s3 hg (CR.lst (f := f) (rr.set n (.dat d)))
              refine ⟨γ3, .nx ρ, _, ?_, s4, (x1.trans (x2.trans (x3.trans x4))).s, ev.ext (x1.trans (x2.trans (x3.trans x4))), .self fun _ z => z, .self⟩
              unfold sAsg
              rw [q1]
              simp only
              unfold gSb
              rw [q2]
              simp only
              rw [q3]
              simp only
              have hfz : frzU (.dat d) N3 = (.dat d, N3) := rfl
              simp only [hfz, hy]
              rw [← rr.length, hn]
          · cases e
        · cases e
      · cases e
    · cases e
  · cases e⟩
end
/-! ### new lists by built-in functions -/
section
variable {ma va : ME} {m v : MA}
/-- list(t), t a tuple -/
def vlistT : FA := fun us M => match us with
  | [u] => match (tupOf u).bind allDat with
    | some ds => some (.lv ds, M)
    | none => none
  | _ => none
/-- a list display that becomes a shared list -/
def vHnd (m : MA) : ME := fun ρ M => match m ρ M with
  | some (us, M1) => match allDat us with
    | some ds => if ds.length ≤ sizeLine then some (.cell M1.length, M1 ++ [.lst true (ds.map .dat)]) else none
    | none => none
  | none => none
theorem sr_more {γ : List Nat} {Mv M : Mem} {x y : Cell} (s : SR γ Mv M) (r : CR (γ ++ [M.length]) x y) : SR (γ ++ [M.length]) (Mv ++ [x]) (M ++ [y]) ∧ Fx γ (γ ++ [M.length]) M (M ++ [y]) := by
  have pre : ∀ (j c : Nat), γ[j]? = some c → (γ ++ [M.length])[j]? = some c := fun j c h => by
    rw [List.getElem?_append_left (List.getElem?_eq_some_iff.mp h).1]
    exact h
  have crx : ∀ {a b : Cell}, CR γ a b → CR (γ ++ [M.length]) a b := fun h => by
    cases h with
    | lst h => exact .lst (h.ext pre)
    | fz ds => exact .fz ds
    | dk h => exact .dk (h.ext pre)
    | ins h => exact .ins (h.ext pre)
  refine ⟨⟨by rw [List.length_append, List.length_append, s.len]; rfl, ?_, fun j c z hj hz => ?_⟩, ⟨by simp, pre, fun c h => ?_, fun c h _ => List.getElem?_append_left h⟩⟩
  · rw [List.nodup_append]
    refine ⟨s.nd, by simp, fun a ha b hb => ?_⟩
    rw [List.mem_singleton.mp hb]
    exact Nat.ne_of_lt (s.lt ha)
  · by_cases h : j < γ.length
    · rw [List.getElem?_append_left h] at hj
      rw [List.getElem?_append_left (by rw [← s.len]; exact h)] at hz
      obtain ⟨w, h1, h2⟩ := s.ok j c z hj hz
      exact ⟨w, by rw [List.getElem?_append_left (List.getElem?_eq_some_iff.mp h1).1]; exact h1, crx h2⟩
    · have hl := (List.getElem?_eq_some_iff.mp hj).1
      rw [List.length_append] at hl
      simp at hl
      have e : j = γ.length := by omega
      subst e
      have h1 : c = M.length := by simpa using hj.symm
      have h2 : z = x := by
        rw [s.len] at hz
        simpa using hz.symm
      subst h1 h2
      exact ⟨y, List.getElem?_concat_length .., r⟩
  · rcases List.mem_append.mp h with h | h
    · exact .inl h
    · rw [List.mem_singleton.mp h]
      exact .inr (Nat.le_refl _)
theorem vj_hnd {S : List Nat} (h : VX m v) : VJ S (eLst m) (vHnd v) := ⟨fun γ ρ ρv M Mv r Mv' s ev e => by
  unfold vHnd at e
  split at e
  · rename_i us M1 e1
    split at e
    · rename_i ds hds
      split at e
      · rename_i hz
        cases e
        obtain rfl := allDat_some hds
        obtain ⟨γ', ws, N, M2, q, hl, f1, s2, x2⟩ := vx_frz h s ev.nil e1
        obtain ⟨s3, x3⟩ := sr_more s2 (CR.lst (f := true) (UR0s.dats ds))
        refine ⟨γ' ++ [M2.length], .cell M2.length, _, ?_, s3, .of (.cell ?_), x2.trans x3, fun c hc _ => by cases hc; exact .inl x2.len⟩
        · unfold eLst
          rw [q]
          simp only [f1]
          rw [if_pos (by omega)]
        · rw [← s2.len]
          simp
      · cases e
    · cases e
  · cases e⟩
end
/-! ### functions -/
theorem ev_start {γ : List Nat} {M : Mem} {vs us : List U} {n : Nat} (r : URs γ M vs us) : EV [] γ M (vs.map some ++ List.replicate n none) (us.map some ++ List.replicate n none) := by
  have hl := r.length
  refine ⟨by simp [hl], fun i v e => ?_, fun i h => by cases h⟩
  have get : ∀ {vs us : List U}, URs γ M vs us → ∀ (i : Nat) (v : U), vs[i]? = some v → ∃ u, us[i]? = some u ∧ UR γ M v u := by
    intro vs us r
    induction r with
    | nil => intro i v h; simp at h
    | cons h t ih =>
      intro i v e
      cases i with
      | zero => simp at e; subst e; exact ⟨_, rfl, h⟩
      | succ i =>
        obtain ⟨u, h1, h2⟩ := ih i v (by simpa using e)
        exact ⟨u, by simpa using h1, h2⟩
  by_cases hi : i < vs.length
  · rw [List.getElem?_append_left (by rw [List.length_map]; exact hi), List.getElem?_map] at e
    obtain ⟨w, h1, h2⟩ := Option.map_eq_some_iff.mp e
    injection h2 with h2
    subst h2
    obtain ⟨u, h3, h4⟩ := get r i _ h1
    exact ⟨u, by rw [List.getElem?_append_left (by rw [List.length_map, ← hl]; exact hi), List.getElem?_map, h3]; rfl, h4⟩
  · rw [List.getElem?_append_right (by rw [List.length_map]; omega)] at e
    have := List.mem_of_getElem? e
    have := List.eq_of_mem_replicate this
    cases this
theorem start_cells {us : List U} {n j c : Nat} (h : (us.map some ++ List.replicate n none)[j]? = some (some (U.cell c))) : U.cell c ∈ us := by
  by_cases hj : j < us.length
  · rw [List.getElem?_append_left (by rw [List.length_map]; exact hj), List.getElem?_map] at h
    obtain ⟨w, h1, h2⟩ := Option.map_eq_some_iff.mp h
    cases h2
    exact List.mem_of_getElem? h1
  · rw [List.getElem?_append_right (by rw [List.length_map]; omega)] at h
    have := List.eq_of_mem_replicate (List.mem_of_getElem? h)
    cases this
theorem FrS.x {ρ : Env} {γ γ' : List Nat} {M M' : Mem} (x : FrS [] ρ γ γ' M M') : Fx γ γ' M M' := ⟨x.len, x.pre, x.new, fun c h1 h2 => x.old c h1 h2 fun i hi => by cases hi⟩
theorem vf_fn {k n : Nat} {S' : List Nat} {m v : MS} (h : VS [] S' [] m v) : VF (mkFn k n m) (mkFn k n v) := ⟨fun γ Mv M vs us r Mv' s rs e => by
  unfold mkFn at e
  split at e
  · rename_i hk
    split at e
    · rename_i e1
      cases e
      obtain ⟨γ', o', M', q, s', x, rr⟩ := h.run γ _ _ M Mv _ _ s (ev_start rs) e1
      cases o' with
      | rt u =>
        refine ⟨γ', u, M', ?_, s', rr.1, x.x, fun c hc hn => ?_⟩
        · unfold mkFn
          rw [if_pos (by rw [← rs.length]; exact hk), q]
        · rcases rr.2 c hc hn with z | ⟨j, z⟩
          · exact .inl z
          · rw [hc]
            exact .inr (start_cells z)
      | _ => exact False.elim rr
    · rename_i e1
      cases e
      obtain ⟨γ', o', M', q, s', x, rr⟩ := h.run γ _ _ M Mv _ _ s (ev_start rs) e1
      cases o' with
      | nx u =>
        refine ⟨γ', .dat .none, M', ?_, s', .of (.dat _), x.x, fun c hc => by cases hc⟩
        unfold mkFn
        rw [if_pos (by rw [← rs.length]; exact hk), q]
      | _ => exact False.elim rr
    · cases e
  · cases e⟩
/-- from values to the plain function, for the law itself -/
theorem vf_law {f g : FA} (h : VF f g) {ns : List Int} {r : U} {Mv : Mem} (e : g [.scr ns] [] = some (r, Mv)) (hr : r = .dat (.bool true)) : ∃ M, f [.scr ns] [] = some (.dat (.bool true), M) := by
  subst hr
  obtain ⟨γ', u, M', q, _, ur, _, _⟩ := h.run [] [] [] [.scr ns] [.scr ns] _ _ ⟨rfl, List.nodup_nil, fun j c x h => by simp at h⟩ (.cons (.of (.scr ns)) .nil) e
  obtain rfl := ur_bool ur
  exact ⟨M', q⟩
end Pu

namespace Pu
open PySem PySem.Spec PyProof.Rows L2 Lw
open Classical
section
variable {ρ : Env} {M : Mem} {Q : U → Mem → Prop} {QS : Out → Mem → Prop} {QI : List U × List Nat → Mem → Prop} {QA : List U → Mem → Prop}
theorem W.ex {α : Type} {r : Option (α × Mem)} {Q : α → Mem → Prop} (h : W r Q) : ∃ u M', r = some (u, M') ∧ Q u M' := h
theorem w_vtup {m : MA} : W (vTup m ρ M) Q ↔ W (m ρ M) fun us M1 => ∃ ds, allDat us = some ds ∧ ds.length ≤ sizeLine ∧ Q (.dat (.tuple ds)) M1 := by
  unfold vTup
  constructor
  · rintro ⟨u, M', h, q⟩
    split at h
    · rename_i us M1 e1
      split at h
      · rename_i ds e2
        split at h
        · rename_i hz
          cases h
          exact ⟨us, _, e1, ds, e2, hz, q⟩
        · cases h
      · cases h
    · cases h
  · rintro ⟨us, M1, e1, ds, e2, hz, q⟩
    simp only [e1, e2, if_pos hz]
    exact ⟨_, _, rfl, q⟩
theorem w_vlst {m : MA} : W (vLst m ρ M) Q ↔ W (m ρ M) fun us M1 => ∃ ds, allDat us = some ds ∧ ds.length ≤ sizeLine ∧ Q (.lv ds) M1 := by
  unfold vLst
  constructor
  · rintro ⟨u, M', h, q⟩
    split at h
    · rename_i us M1 e1
      split at h
      · rename_i ds e2
        split at h
        · rename_i hz
          cases h
          exact ⟨us, _, e1, ds, e2, hz, q⟩
        · cases h
      · cases h
    · cases h
  · rintro ⟨us, M1, e1, ds, e2, hz, q⟩
    simp only [e1, e2, if_pos hz]
    exact ⟨_, _, rfl, q⟩
theorem w_vhnd {m : MA} : W (vHnd m ρ M) Q ↔ W (m ρ M) fun us M1 => ∃ ds, allDat us = some ds ∧ ds.length ≤ sizeLine ∧ Q (.cell M1.length) (M1 ++ [.lst true (ds.map .dat)]) := by
  unfold vHnd
  constructor
  · rintro ⟨u, M', h, q⟩
    split at h
    · rename_i us M1 e1
      split at h
      · rename_i ds e2
        split at h
        · rename_i hz
          cases h
          exact ⟨us, _, e1, ds, e2, hz, q⟩
        · cases h
      · cases h
    · cases h
  · rintro ⟨us, M1, e1, ds, e2, hz, q⟩
    simp only [e1, e2, if_pos hz]
    exact ⟨_, _, rfl, q⟩
theorem ad_nil : allDat [] = some [] := rfl
theorem ad_dat {d : PyData} {us : List U} : allDat (.dat d :: us) = (allDat us).map (d :: ·) := rfl
theorem ad_map {ds : List PyData} : allDat (ds.map U.dat) = some ds := allDat_map ds
theorem ad_app {ds : List PyData} {us : List U} : allDat (ds.map U.dat ++ us) = (allDat us).map (ds ++ ·) := by
  induction ds with
  | nil =>
    show allDat us = _
    cases allDat us <;> rfl
  | cons d ds ih =>
    rw [List.map_cons, List.cons_append, ad_dat, ih, Option.map_map]
    rfl
theorem w_fzl {v : ME} : W (fzL v ρ M) Q ↔ W (v ρ M) fun u M1 => ∃ ds, u = .lv ds ∧ Q (.dat (.list ds)) M1 := by
  unfold fzL
  constructor
  · rintro ⟨u, M', h, q⟩
    split at h
    · rename_i ds M1 e
      cases h
      exact ⟨_, _, e, ds, rfl, q⟩
    · cases h
  · rintro ⟨u, M', h, ds, rfl, q⟩
    rw [h]
    exact ⟨_, _, rfl, q⟩
theorem w_vlc {mi : MI} {g : MG} {c : MT} {e : ME} {vs : List Nat} : W (vLc mi g c e vs ρ M) Q ↔ W (mi ρ M) fun it M1 => W (vlcM g c e (wipeR ρ vs) it.1 M1) fun ds M2 => ds.length ≤ sizeLine ∧ Q (.lv ds) M2 := by
  unfold vLc
  constructor
  · rintro ⟨u, M', h, q⟩
    split at h
    · rename_i items ws M1 e1
      split at h
      · rename_i ds M2 e2
        split at h
        · rename_i hz
          cases h
          exact ⟨_, _, e1, ds, _, e2, hz, q⟩
        · cases h
      · cases h
    · cases h
  · rintro ⟨⟨items, ws⟩, M1, h1, ds, M2, h3, h4, h5⟩
    rw [h1]
    simp only
    rw [show vlcM g c e (wipeR ρ vs) items M1 = some (ds, M2) from h3]
    simp only [if_pos h4]
    exact ⟨_, _, rfl, h5⟩
theorem w_vlc2 {mi mi1 : MI} {g g1 : MG} {c c1 : MT} {e : ME} {vs vs1 : List Nat} : W (vLc2 mi g c mi1 g1 c1 e vs vs1 ρ M) Q ↔ W (mi ρ M) fun it M1 => W (vlc2M g c mi1 g1 c1 e vs1 (wipeR ρ vs) it.1 M1) fun ds M2 => ds.length ≤ sizeLine ∧ Q (.lv ds) M2 := by
  unfold vLc2
  constructor
  · rintro ⟨u, M', h, q⟩
    split at h
    · rename_i items ws M1 e1
      split at h
      · rename_i ds M2 e2
        split at h
        · rename_i hz
          cases h
          exact ⟨_, _, e1, ds, _, e2, hz, q⟩
        · cases h
      · cases h
    · cases h
  · rintro ⟨⟨items, ws⟩, M1, h1, ds, M2, h3, h4, h5⟩
    rw [h1]
    simp only
    rw [show vlc2M g c mi1 g1 c1 e vs1 (wipeR ρ vs) items M1 = some (ds, M2) from h3]
    simp only [if_pos h4]
    exact ⟨_, _, rfl, h5⟩
theorem w_viseq {me : ME} : W (viSeq me ρ M) QI ↔ W (me ρ M) fun u M1 => noC u = true ∧ ∃ us, seqOf M1 u = some us ∧ QI (us, []) M1 := by
  unfold viSeq
  constructor
  · rintro ⟨w, M', h, q⟩
    split at h
    · rename_i u M1 e1
      split at h
      · rename_i hn
        split at h
        · rename_i us e2
          cases h
          exact ⟨u, _, e1, hn, us, e2, q⟩
        · cases h
      · cases h
    · cases h
  · rintro ⟨u, M1, e1, hn, us, e2, q⟩
    rw [e1]
    simp only [if_pos hn, e2]
    exact ⟨_, _, rfl, q⟩
theorem w_vien {m : MA} : W (viEn m ρ M) QI ↔ W (m ρ M) fun ws M1 => ∃ u us, ws = [u] ∧ noC u = true ∧ seqOf M1 u = some us ∧ QI (enumU us 0, []) M1 := by
  unfold viEn
  constructor
  · rintro ⟨w, M', h, q⟩
    split at h
    · rename_i u M1 e1
      split at h
      · rename_i hn
        split at h
        · rename_i us e2
          cases h
          exact ⟨_, _, e1, u, us, rfl, hn, e2, q⟩
        · cases h
      · cases h
    · cases h
  · rintro ⟨ws, M1, e1, u, us, rfl, hn, e2, q⟩
    rw [e1]
    simp only [if_pos hn, e2]
    exact ⟨_, _, rfl, q⟩
theorem w_vizp {m : MA} : W (viZp m ρ M) QI ↔ W (m ρ M) fun ws M1 => ∃ a b us zs, ws = [a, b] ∧ (noC a = true ∧ noC b = true) ∧ seqOf M1 a = some us ∧ seqOf M1 b = some zs ∧ isTp a = isTp b ∧ QI (zipU us zs, []) M1 := by
  unfold viZp
  constructor
  · rintro ⟨w, M', h, q⟩
    split at h
    · rename_i a b M1 e1
      split at h
      · rename_i hn
        split at h
        · rename_i us zs e2 e3
          split at h
          · rename_i ht
            cases h
            exact ⟨_, _, e1, a, b, us, zs, rfl, hn, e2, e3, ht, q⟩
          · cases h
        · cases h
      · cases h
    · cases h
  · rintro ⟨ws, M1, e1, a, b, us, zs, rfl, hn, e2, e3, ht, q⟩
    rw [e1]
    simp only [if_pos hn, e2, e3, if_pos ht]
    exact ⟨_, _, rfl, q⟩
theorem w_irg2 {m : MA} : W (iRg2 m ρ M) QI ↔ W (m ρ M) fun us M1 => ∃ i j, us = [.dat (.int i), .dat (.int j)] ∧ (-(2 ^ 62) ≤ i ∧ i < 2 ^ 62 ∧ -(2 ^ 62) ≤ j ∧ j < 2 ^ 62) ∧ QI (rangeU i (j - i).toNat, []) M1 := by
  unfold iRg2
  constructor
  · rintro ⟨w, M', h, q⟩
    split at h
    · rename_i i j M1 e1
      split at h
      · rename_i hz
        cases h
        exact ⟨_, _, e1, i, j, rfl, hz, q⟩
      · cases h
    · cases h
  · rintro ⟨us, M1, e1, i, j, rfl, hz, q⟩
    rw [e1]
    simp only [if_pos hz]
    exact ⟨_, _, rfl, q⟩
theorem w_vtxt {me : ME} : W (iTxt me ρ M) QI ↔ W (me ρ M) fun u M1 => ∃ z, u = .dat (.str z) ∧ QI (signsOf z, []) M1 := by
  unfold iTxt
  constructor
  · rintro ⟨w, M', e, q⟩
    split at e
    · rename_i z M1 e1
      cases e
      exact ⟨_, _, e1, z, rfl, q⟩
    · cases e
  · rintro ⟨u, M1, e1, z, rfl, q⟩
    rw [e1]
    exact ⟨_, _, rfl, q⟩
theorem w_vfor {mi : MI} {g : MG} {b : MS} : W (vFor mi g b ρ M) QS ↔ W (mi ρ M) fun it M1 => W (forM (fun _ => True) g b it.1 ρ M1) QS := by
  unfold vFor
  constructor
  · rintro ⟨w, M', e, q⟩
    split at e
    · rename_i items ws M1 e1
      exact ⟨_, _, e1, w, M', e, q⟩
    · cases e
  · rintro ⟨⟨items, ws⟩, M1, e1, w, M', e, q⟩
    rw [e1]
    exact ⟨w, M', e, q⟩
theorem w_sown {va : ME} {i : Nat} : W (sOwn va i ρ M) QS ↔ i < ρ.length ∧ W (va ρ M) fun u M1 => QS (.nx (ρ.set i (some u))) M1 := by
  unfold sOwn
  rw [w_if, w_asg]
  simp only [w_gnm]
theorem w_vapp {va : ME} {i : Nat} : W (vApp i va ρ M) QS ↔ ∃ ds, ρ[i]? = some (some (.lv ds)) ∧ W (va ρ M) fun u M1 => ∃ d, u = .dat d ∧ ds.length < sizeLine ∧ QS (.nx (ρ.set i (some (.lv (ds ++ [d]))))) M1 := by
  unfold vApp
  constructor
  · rintro ⟨w, M', e, q⟩
    split at e
    · rename_i ds e1
      split at e
      · rename_i d M1 e2
        split at e
        · rename_i hz
          cases e
          exact ⟨ds, e1, _, _, e2, d, rfl, hz, q⟩
        · cases e
      · cases e
    · cases e
  · rintro ⟨ds, e1, u, M1, e2, d, rfl, hz, q⟩
    simp only [e1, e2, if_pos hz]
    exact ⟨_, _, rfl, q⟩
theorem w_vext {va : ME} {i : Nat} : W (vExt i va ρ M) QS ↔ ∃ ds, ρ[i]? = some (some (.lv ds)) ∧ W (va ρ M) fun u M1 => ∃ ws es, lstOf M1 u = some ws ∧ allDat ws = some es ∧ ds.length + es.length ≤ sizeLine ∧ QS (.nx (ρ.set i (some (.lv (ds ++ es))))) M1 := by
  unfold vExt
  constructor
  · rintro ⟨w, M', e, q⟩
    split at e
    · rename_i ds e1
      split at e
      · rename_i u M1 e2
        split at e
        · rename_i es e3
          split at e
          · rename_i hz
            cases e
            obtain ⟨ws, k1, k2⟩ := Option.bind_eq_some_iff.mp e3
            exact ⟨ds, e1, _, _, e2, ws, es, k1, k2, hz, q⟩
          · cases e
        · cases e
      · cases e
    · cases e
  · rintro ⟨ds, e1, u, M1, e2, ws, es, k1, k2, hz, q⟩
    simp only [e1, e2, k1, Option.bind, k2, if_pos hz]
    exact ⟨_, _, rfl, q⟩
theorem w_vsb {va vo vi : ME} : W (vSb va vo vi ρ M) QS ↔ W (va ρ M) fun u M1 => ∃ d, u = .dat d ∧ W (vo ρ M1) fun o M2 => ∃ j, o = .cell j ∧ W (vi ρ M2) fun x M3 => ∃ k f ws n, x = .dat (.int k) ∧ M3[j]? = some (.lst f ws) ∧ ixN ws.length k = some n ∧ QS (.nx ρ) (M3.set j (.lst f (ws.set n (.dat d)))) := by
  unfold vSb
  constructor
  · rintro ⟨w, M', e, q⟩
    split at e
    · rename_i d M1 e1
      split at e
      · rename_i j M2 e2
        split at e
        · rename_i k M3 e3
          split at e
          · rename_i f ws e4
            split at e
            · rename_i n e5
              cases e
              exact ⟨_, _, e1, d, rfl, _, _, e2, j, rfl, _, _, e3, k, f, ws, n, rfl, e4, e5, q⟩
            · cases e
          · cases e
        · cases e
      · cases e
    · cases e
  · rintro ⟨_, _, e1, d, rfl, _, _, e2, j, rfl, _, _, e3, k, f, ws, n, rfl, e4, e5, q⟩
    simp only [e1, e2, e3, e4, e5]
    exact ⟨_, _, rfl, q⟩
theorem w_vpar {va vb : ME} {i j : Nat} : W (vPar i j va vb ρ M) QS ↔ W (va ρ M) fun x M1 => W (vb ρ M1) fun y M2 => QS (.nx ((ρ.set i (some x)).set j (some y))) M2 := by
  unfold vPar
  constructor
  · rintro ⟨w, M', e, q⟩
    split at e
    · rename_i x M1 e1
      split at e
      · rename_i y M2 e2
        cases e
        exact ⟨_, _, e1, _, _, e2, q⟩
      · cases e
    · cases e
  · rintro ⟨x, M1, e1, y, M2, e2, q⟩
    rw [e1]
    simp only [e2]
    exact ⟨_, _, rfl, q⟩
theorem w_vparf {va vb : ME} {i j : Nat} : W (vParF i j va vb ρ M) QS ↔ j < ρ.length ∧ W (vPar i j va vb ρ M) QS := by
  unfold vParF
  rw [w_if]
theorem w_vparg {va vb : ME} {i j : Nat} : W (vParG i j va vb ρ M) QS ↔ i < ρ.length ∧ W (vPar i j va vb ρ M) QS := by
  unfold vParG
  rw [w_if]
theorem w_vsl {ma : ME} {ml mh : MO} : W (vSl ma ml mh ρ M) Q ↔ W (ma ρ M) fun x M1 => W (ml ρ M1) fun l M2 => W (mh ρ M2) fun h M3 => W (vslU x l h M3) Q := by
  unfold vSl
  constructor
  · rintro ⟨w, M', e, q⟩
    split at e
    · rename_i x M1 e1
      split at e
      · rename_i l M2 e2
        split at e
        · rename_i h M3 e3
          exact ⟨_, _, e1, _, _, e2, _, _, e3, w, M', e, q⟩
        · cases e
      · cases e
    · cases e
  · rintro ⟨_, _, e1, _, _, e2, _, _, e3, w, M', e, q⟩
    rw [e1]
    simp only [e2, e3]
    exact ⟨w, M', e, q⟩
/-! ### what the operations answer -/
variable {i j : Int} {d e : PyData} {ds es : List PyData} {x y : Str} {lo hi : Option Int}
theorem vadd_ii : vaddU (.dat (.int i)) (.dat (.int j)) M = some (.dat (.int (i + j)), M) := rfl
theorem vadd_ss : W (vaddU (.dat (.str x)) (.dat (.str y)) M) Q ↔ x.length + y.length ≤ sizeLine ∧ Q (.dat (.str (x ++ y))) M := by
  have e : vaddU (.dat (.str x)) (.dat (.str y)) M = if x.length + y.length ≤ sizeLine then some (.dat (.str (x ++ y)), M) else none := by
    unfold vaddU orF fNI fSS addS numD
    by_cases h : x.length + y.length ≤ sizeLine
    · simp [h]
    · simp [h, catT, dtup, vcatL, lstOf]
  rw [e, w_if, w_some]
theorem vadd_tt : W (vaddU (.dat (.tuple ds)) (.dat (.tuple es)) M) Q ↔ ds.length + es.length ≤ sizeLine ∧ Q (.dat (.tuple (ds ++ es))) M := by
  have e : vaddU (.dat (.tuple ds)) (.dat (.tuple es)) M = if ds.length + es.length ≤ sizeLine then some (.dat (.tuple (ds ++ es)), M) else none := by
    unfold vaddU orF fNI fSS catT
    simp only [dtup]
    by_cases h : ds.length + es.length ≤ sizeLine
    · simp only [if_pos h]
    · simp [h, vcatL, lstOf]
  rw [e, w_if, w_some]
theorem vadd_ll : W (vaddU (.lv ds) (.lv es) M) Q ↔ ds.length + es.length ≤ sizeLine ∧ Q (.lv (ds ++ es)) M := by
  have e : vaddU (.lv ds) (.lv es) M = if ds.length + es.length ≤ sizeLine then some (.lv (ds ++ es), M) else none := by
    unfold vaddU orF fNI fSS catT vcatL
    simp only [dtup, lstOf, ← List.map_append, ad_map, List.length_map]
  rw [e, w_if, w_some]
theorem vmul_ii : W (vmulU (.dat (.int i)) (.dat (.int j)) M) Q ↔ CMulW i j ∧ Q (.dat (.int (i * j))) M := by
  have e : vmulU (.dat (.int i)) (.dat (.int j)) M = if CMulW i j then some (.dat (.int (i * j)), M) else none := by
    unfold vmulU orF fI
    by_cases h : CMulW i j
    · simp [h]
    · simp [h, mulS, repT, dtup, vrepL, lstOf]
  rw [e, w_if, w_some]
theorem vmul_ti : W (vmulU (.dat (.tuple ds)) (.dat (.int j)) M) Q ↔ (ds ≠ [] ∧ 0 ≤ j ∧ j ≤ 1000 ∧ ds.length ≤ 1000) ∧ Q (.dat (.tuple (List.replicate j.toNat ds).flatten)) M := by
  have e : vmulU (.dat (.tuple ds)) (.dat (.int j)) M = if ds ≠ [] ∧ 0 ≤ j ∧ j ≤ 1000 ∧ ds.length ≤ 1000 then some (.dat (.tuple (List.replicate j.toNat ds).flatten), M) else none := by
    unfold vmulU orF fI mulS repT
    simp only [dtup]
    by_cases h : ds ≠ [] ∧ 0 ≤ j ∧ j ≤ 1000 ∧ ds.length ≤ 1000
    · simp only [if_pos h]
    · simp only [if_neg h]
      first | rfl | done
  rw [e, w_if, w_some]
theorem vsl_t : vslU (.dat (.tuple ds)) lo hi M = some (.dat (.tuple (Lw.cutD ds lo hi)), M) := by
  unfold vslU
  simp only [dtup]
theorem vsl_l : vslU (.lv ds) lo hi M = some (.lv (Lw.cutD ds lo hi), M) := by
  unfold vslU
  simp only [dtup, lstOf, ad_map]
theorem vsl_s : W (vslU (.dat (.str x)) lo hi M) Q ↔ x.length ≤ sizeLine ∧ Q (.dat (.str (cutS x lo hi))) M := by
  have e : vslU (.dat (.str x)) lo hi M = if x.length ≤ sizeLine then some (.dat (.str (cutS x lo hi)), M) else none := rfl
  rw [e, w_if, w_some]
theorem seq_lv : seqOf M (.lv ds) = some (ds.map .dat) := rfl
theorem seq_dl : seqOf M (.dat (.list ds)) = some (ds.map .dat) := rfl
theorem lst_lv : lstOf M (.lv ds) = some (ds.map .dat) := rfl
theorem nc_lv : noC (.lv ds) = true := rfl
theorem nc_dat : noC (.dat d) = true := rfl
theorem nc_scr {ns : List Int} : noC (.scr ns) = true := rfl
theorem len_lv : lenF [.lv ds] M = some (.dat (.int ds.length), M) := by
  unfold lenF
  simp only [seq_lv, List.length_map]
theorem ix_lv : W (ixU (.lv ds) (.dat (.int i)) M) Q ↔ ∃ d, atI ds i = some d ∧ Q (.dat d) M := by
  rw [ix_seq' seq_lv, atI_map]
  constructor
  · rintro ⟨u, h, q⟩
    obtain ⟨d, h1, h2⟩ := Option.map_eq_some_iff.mp h
    subst h2
    exact ⟨d, h1, q⟩
  · rintro ⟨d, h, q⟩
    exact ⟨.dat d, by rw [h]; rfl, q⟩
theorem vlist_t : vlistF [.dat (.tuple ds)] M = some (.lv ds, M) := by
  unfold vlistF
  simp only [seq_t, Option.bind, ad_map]
theorem vlist_l : vlistF [.lv ds] M = some (.lv ds, M) := by
  unfold vlistF
  simp only [seq_lv, Option.bind, ad_map]
theorem vlistT_t : vlistT [.dat (.tuple ds)] M = some (.lv ds, M) := by
  unfold vlistT
  simp only [tupOf, Option.bind, ad_map]
theorem vtup_l : vtupleF [.lv ds] M = some (.dat (.tuple ds), M) := by
  unfold vtupleF
  simp only [tupOf, lstOf, Option.bind, ad_map]
theorem vtup_t : vtupleF [.dat (.tuple ds)] M = some (.dat (.tuple ds), M) := rfl
theorem vrepr_d : W (vreprF [.dat d] M) Q ↔ Ok d ∧ Q (.dat (.str d.shown)) M := by
  have e : vreprF [.dat d] M = if Ok d then some (.dat (.str d.shown), M) else none := rfl
  rw [e, w_if, w_some]
theorem vrepr_l : W (vreprF [.lv ds] M) Q ↔ (Ok (.list ds) ∧ (PyData.list ds).hasDict = false) ∧ Q (.dat (.str (PyData.list ds).shown)) M := by
  have e : vreprF [.lv ds] M = if Ok (.list ds) ∧ (PyData.list ds).hasDict = false then some (.dat (.str (PyData.list ds).shown), M) else none := rfl
  rw [e, w_if, w_some]
theorem vsort_l : W (vsortF [.lv ds] M) Q ↔ SortOk ds ∧ Q (.lv (sortD ds)) M := by
  have e : vsortF [.lv ds] M = if SortOk ds then some (.lv (sortD ds), M) else none := by
    unfold vsortF
    simp only [lstOf, Option.bind, ad_map]
  rw [e, w_if, w_some]
theorem bools_map : ∀ bs : List Bool, boolsOf ((bs.map PyData.bool).map U.dat) = some bs
  | [] => rfl
  | b :: bs => by
    show (boolsOf ((bs.map PyData.bool).map U.dat)).map (b :: ·) = _
    rw [bools_map bs]
    rfl
theorem strs_map : ∀ bs : List Str, strsOf ((bs.map PyData.str).map U.dat) = some bs
  | [] => rfl
  | b :: bs => by
    show (strsOf ((bs.map PyData.str).map U.dat)).map (b :: ·) = _
    rw [strs_map bs]
    rfl
theorem all_lv {bs : List Bool} : allF [.lv (bs.map .bool)] M = some (.dat (.bool (bs.all id)), M) := by
  unfold allF bsF
  simp only [lst_lv, Option.bind, bools_map]
theorem ty_lv : isTyM "list" M (.lv ds) = true := rfl
/-! ### comprehensions -/
/-- nothing is drawn: each item gives what f says -/
theorem vlc_map {g : MG} {e : ME} {ρ : Env} (f : U → PyData) : ∀ (items : List U) {M : Mem}, (∀ u ∈ items, W (g u ρ M) fun ρ1 M1 => W (e ρ1 M1) fun y M2 => y = .dat (f u) ∧ M2 = M) → vlcM g tYesM e ρ items M = some (items.map f, M)
  | [], _, _ => rfl
  | u :: items, M, h => by
    obtain ⟨ρ1, M1, e1, y, M2, e2, rfl, rfl⟩ := h u List.mem_cons_self
    unfold vlcM
    rw [e1]
    simp only [tYesM]
    rw [e2]
    simp only
    rw [vlc_map f items fun w hw => h w (List.mem_cons_of_mem _ hw)]
    rfl
/-- the same, the items data -/
theorem vlc_mapD {g : MG} {e : ME} {ρ : Env} (f : PyData → PyData) (ds : List PyData) (h : ∀ d ∈ ds, W (g (.dat d) ρ M) fun ρ1 M1 => W (e ρ1 M1) fun y M2 => y = .dat (f d) ∧ M2 = M) : vlcM g tYesM e ρ (ds.map U.dat) M = some (ds.map f, M) := by
  rw [vlc_map (fun u => match u with
    | .dat d => f d
    | _ => .none) (ds.map U.dat) (fun u hu => by
      obtain ⟨d, hd, rfl⟩ := List.mem_map.mp hu
      exact h d hd), List.map_map]
  rfl
/-- a test, and what is kept -/
theorem vlc_filter {g : MG} {c : MT} {e : ME} {ρ : Env} (p : U → Bool) (f : U → PyData) : ∀ (items : List U) {M : Mem}, (∀ u ∈ items, W (g u ρ M) fun ρ1 M1 => W (c ρ1 M1) fun b M2 => b = p u ∧ M2 = M ∧ (b = true → W (e ρ1 M2) fun y M3 => y = .dat (f u) ∧ M3 = M)) → vlcM g c e ρ items M = some ((items.filter p).map f, M)
  | [], _, _ => rfl
  | u :: items, M, h => by
    obtain ⟨ρ1, M1, e1, b, M2, e2, hb, rfl, h3⟩ := h u List.mem_cons_self
    have ih := vlc_filter p f items fun w hw => h w (List.mem_cons_of_mem _ hw)
    unfold vlcM
    rw [e1]
    simp only
    rw [e2]
    cases b with
    | false =>
      simp only
      rw [ih, List.filter_cons_of_neg (by rw [← hb]; exact Bool.false_ne_true)]
    | true =>
      obtain ⟨y, M3, e3, rfl, rfl⟩ := h3 rfl
      simp only
      rw [e3]
      simp only
      rw [ih, List.filter_cons_of_pos (by rw [← hb])]
      rfl
/-- what is drawn: an invariant of the memory, and what holds of each item -/
theorem vlc_draw {g : MG} {e : ME} {ρ : Env} (J : Nat → Mem → Prop) (R : Nat → U → PyData → Prop) : ∀ (items : List U) (k : Nat) (M : Mem) (Q : List PyData → Mem → Prop), J k M →
      (∀ (j : Nat) (u : U) (M : Mem), items[j]? = some u → J (k + j) M → W (g u ρ M) fun ρ1 M1 => W (e ρ1 M1) fun y M2 => ∃ d, y = .dat d ∧ R (k + j) u d ∧ J (k + j + 1) M2) →
      (∀ ds M', ds.length = items.length → (∀ (j : Nat) (u : U) (d : PyData), items[j]? = some u → ds[j]? = some d → R (k + j) u d) → J (k + items.length) M' → Q ds M') → W (vlcM g tYesM e ρ items M) Q
  | [], k, M, Q, hJ, _, q => w_some.mpr (q [] M rfl (fun j u d h => by simp at h) hJ)
  | u :: items, k, M, Q, hJ, h, q => by
    obtain ⟨ρ1, M1, e1, y, M2, e2, d, rfl, hr, hJ2⟩ := h 0 u M rfl hJ
    have ih := vlc_draw J R items (k + 1) M2 (fun ds M' => W (some (d :: ds, M')) Q) hJ2 (fun j w M' hj hJ' => by
        have := h (j + 1) w M' (by simpa using hj) (by rw [show k + (j + 1) = k + 1 + j by omega]; exact hJ')
        rw [show k + (j + 1) = k + 1 + j by omega] at this
        exact this) (fun ds M' hl hR hJ' => w_some.mpr (q (d :: ds) M' (by rw [List.length_cons, List.length_cons, hl]) (fun j w x hj hx => by
          cases j with
          | zero =>
            simp at hj hx
            subst hj hx
            exact hr
          | succ j =>
            have := hR j w x (by simpa using hj) (by simpa using hx)
            rw [show k + (j + 1) = k + 1 + j by omega]
            exact this) (by rw [List.length_cons, show k + (items.length + 1) = k + 1 + items.length by omega]; exact hJ')))
    obtain ⟨ds, M3, e3, hq⟩ := ih
    refine W.mono ?_ fun _ _ z => z
    unfold vlcM
    rw [e1]
    simp only [tYesM]
    rw [e2]
    simp only
    rw [e3]
    exact hq
end
end Pu

/-! ### the set of some texts -/
namespace Ss
open PySem PySem.Spec PyProof.Rows
section
variable {P : Program} {w : World} {A : Around} {R : Result → Shared → Prop} {I : Addr} {fp wr : List Addr} {G : Array GenState → Array GenState → Prop} {n : Nat} {Pv : Nat → Value → Prop} {St : Nat → Shared → Prop}
end
section
variable {P : Program} {w : World} {A : Around} {E : Value → Shared → Prop} {s : Shared}
end
end Ss

namespace Pu
open PySem PySem.Spec PyProof.Rows L2 Lw
open Classical
/-! ### len(set(texts)) -/
section
variable {X : Cx}
/-! ### methods of tuples -/
variable {o e : Expr} {es : List Expr} {to : TE} {t : TA} {name : Str} {apos cpos : Pos} {id : String} {r : V → List V → Hp → VK → Prop}
/-! ### count -/
/-! ### index of a text -/
end
/-! ### the same over values -/
section
variable {S : List Nat} {ma va : ME} {m v : MA}
end
/-! ### a function over values, seen by the plain one: nothing is changed but that there is more -/
end Pu

namespace Pu
open PySem PySem.Spec PyProof.Rows L2 Lw
open Classical
/-! ### the sum of two lists is a new list -/
section
variable {ma mb va vb : ME}
end
theorem vcat_ll {ds es : List PyData} {M : Mem} {Q : U → Mem → Prop} : W (vcatL (.lv ds) (.lv es) M) Q ↔ ds.length + es.length ≤ sizeLine ∧ Q (.lv (ds ++ es)) M := by
  have e : vcatL (.lv ds) (.lv es) M = if ds.length + es.length ≤ sizeLine then some (.lv (ds ++ es), M) else none := by
    unfold vcatL
    simp only [lst_lv, ← List.map_append, allDat_map, List.length_map]
  rw [e, w_if, w_some]
end Pu

namespace Z
open PySem PySem.Spec PyProof.Rows L2 Lw Pu
theorem log_small {i : Int} {k : Nat} (hk : 0 < k) (h : i.natAbs < 2 ^ k) : i.natAbs.log2 < k := PySem.Flt.log2_lt_of hk h
theorem cmul {i j : Int} (hi : i.natAbs < 2 ^ 4000) (hj : j.natAbs < 2 ^ 4000) : CMulW i j := by
  have h1 := log_small (by decide) hi
  have h2 := log_small (by decide) hj
  show i.natAbs.log2 + j.natAbs.log2 < 1000000
  omega
theorem small4 {i : Int} (h : i.natAbs < 2 ^ 64) : i.natAbs < 2 ^ 4000 := Nat.lt_of_lt_of_le h (Nat.pow_le_pow_right (by decide) (by decide))
theorem cmul_s {i j : Int} (hi : i.natAbs < 2 ^ 64) (hj : j.natAbs < 2 ^ 64) : CMulW i j := cmul (small4 hi) (small4 hj)
theorem cdiv {i j : Int} (h0 : 0 < j) (hj : j.natAbs < 2 ^ 64) : CDivW i j := ⟨h0, by have := log_small (by decide) hj; omega⟩
theorem bits_small {i : Int} (h : i.natAbs < 2 ^ 64) : Builtin.Int.intBits i ≤ 64 := by
  have := log_small (k := 64) (by decide) h
  unfold Builtin.Int.intBits
  split <;> omega
theorem cpow3 {i : Int} (h : i.natAbs < 2 ^ 64) : CPowW i 3 := by
  refine ⟨by decide, ?_⟩
  have := bits_small h
  omega
theorem ix_h {M : Mem} {h : Nat} {f : Bool} {a b c : U} {Q : U → Mem → Prop} (e : M[h]? = some (.lst f [a, b, c])) : (W (ixU (.cell h) (.dat (.int 0)) M) Q ↔ Q a M) ∧ (W (ixU (.cell h) (.dat (.int 1)) M) Q ↔ Q b M) ∧ (W (ixU (.cell h) (.dat (.int 2)) M) Q ↔ Q c M) := by
  have s := seq_cell e
  refine ⟨?_, ?_, ?_⟩ <;> rw [ix_seq' s] <;> constructor
  · rintro ⟨u, hu, q⟩; cases hu; exact q
  · exact fun q => ⟨_, rfl, q⟩
  · rintro ⟨u, hu, q⟩; cases hu; exact q
  · exact fun q => ⟨_, rfl, q⟩
  · rintro ⟨u, hu, q⟩; cases hu; exact q
  · exact fun q => ⟨_, rfl, q⟩
def primes : List Int := [2147483629, 2147483587, 2147483579, 2147483563, 2147483549, 2147483543, 2147483497]
theorem prime_at {c : Int} (h : 0 ≤ c) : ∃ p, atI primes (c % 7) = some p ∧ 2147483497 ≤ p ∧ p ≤ 2147483629 := by
  have h1 : 0 ≤ c % 7 := Int.emod_nonneg _ (by decide)
  have h2 : c % 7 < 7 := Int.emod_lt_of_pos _ (by decide)
  obtain ⟨k, hk⟩ : ∃ k : Nat, c % 7 = k := ⟨(c % 7).toNat, by omega⟩
  rw [hk]
  have hk7 : k < 7 := by omega
  match k, hk7 with
  | 0, _ => exact ⟨_, rfl, by decide, by decide⟩
  | 1, _ => exact ⟨_, rfl, by decide, by decide⟩
  | 2, _ => exact ⟨_, rfl, by decide, by decide⟩
  | 3, _ => exact ⟨_, rfl, by decide, by decide⟩
  | 4, _ => exact ⟨_, rfl, by decide, by decide⟩
  | 5, _ => exact ⟨_, rfl, by decide, by decide⟩
  | 6, _ => exact ⟨_, rfl, by decide, by decide⟩
theorem cdivL {i j : Int} (h0 : 0 < j) (hj : j.natAbs < 2 ^ 400) : CDivW i j := ⟨h0, by have := log_small (by decide) hj; omega⟩
theorem abs_nn (i : Int) : 0 ≤ (if i < 0 then -i else i) := by split <;> omega
theorem cpow60 : CPowW 10 60 := ⟨by decide, by decide⟩
theorem cpow18 : CPowW 10 18 := ⟨by decide, by decide⟩
theorem cpow15 : CPowW (10 ^ (60 : Int).toNat) 15 := ⟨by decide, by decide +kernel⟩
/-! ### things that are not too large -/
mutual
def asc : PyData → Bool
  | .str z => z.cps.toList.all fun c => decide (c < 128)
  | .list ds => ascAll ds
  | .tuple ds => ascAll ds
  | .dict kvs => kvs.isEmpty
  | _ => true
def ascAll : List PyData → Bool
  | [] => true
  | d :: ds => asc d && ascAll ds
end
theorem ascAll_iff : ∀ {ds : List PyData}, ascAll ds = true ↔ ∀ d ∈ ds, asc d = true
  | [] => ⟨fun _ d h => (by cases h), fun _ => (by simp only [ascAll])⟩
  | d :: ds => by
    simp only [ascAll, Bool.and_eq_true, List.mem_cons, ascAll_iff (ds := ds)]
    constructor
    · rintro ⟨a, b⟩ x (rfl | h)
      · exact a
      · exact b x h
    · exact fun h => ⟨h d (.inl rfl), fun x hx => h x (.inr hx)⟩
structure Gd (n m B : Nat) (d : PyData) : Prop where
  bd : Bd n m d
  ib : inB B d = true
  as : asc d = true
structure GA (n t B : Nat) (ds : List PyData) : Prop where
  ba : BA n t ds
  ib : ∀ d ∈ ds, inB B d = true
  as : ∀ d ∈ ds, asc d = true
theorem Gd.mono {n m B n' m' B' : Nat} {d : PyData} (h : Gd n m B d) (h1 : n ≤ n') (h2 : m ≤ m') (h3 : B ≤ B') : Gd n' m' B' d := ⟨h.bd.mono h1 h2, inB_mono h3 d h.ib, h.as⟩
theorem GA.mono {n m B n' m' B' : Nat} {d : List PyData} (h : GA n m B d) (h1 : n ≤ n') (h2 : m ≤ m') (h3 : B ≤ B') : GA n' m' B' d := ⟨h.ba.mono h1 h2, fun d hd => inB_mono h3 d (h.ib d hd), h.as⟩
theorem GA.nil {n t B : Nat} : GA n t B [] := ⟨BA.nil, fun d h => (by cases h), fun d h => (by cases h)⟩
theorem GA.append {n t u B : Nat} {ds es : List PyData} (h : GA n t B ds) (g : GA n u B es) : GA n (t + u) B (ds ++ es) :=
  ⟨h.ba.append g.ba, fun d hd => (List.mem_append.mp hd).elim (h.ib d) (g.ib d), fun d hd => (List.mem_append.mp hd).elim (h.as d) (g.as d)⟩
theorem GA.one {n m B : Nat} {d : PyData} (h : Gd n m B d) : GA n (m + 1) B [d] := ⟨BA.one h.bd, fun x hx => (by rw [List.mem_singleton.mp hx]; exact h.ib), fun x hx => (by rw [List.mem_singleton.mp hx]; exact h.as)⟩
theorem GA.cons {n m t B : Nat} {d : PyData} {ds : List PyData} (h : Gd n m B d) (g : GA n t B ds) : GA n (m + 1 + t) B (d :: ds) := (GA.one h).append g
theorem GA.cut {n t B : Nat} {ds : List PyData} (h : GA n t B ds) (lo hi : Option Int) : GA n t B (Lw.cutD ds lo hi) := ⟨h.ba.cut lo hi, fun d hd => h.ib d (cutD_mem hd), fun d hd => h.as d (cutD_mem hd)⟩
theorem GA.rev {n t B : Nat} {ds : List PyData} (h : GA n t B ds) : GA n t B ds.reverse := ⟨h.ba.rev, fun d hd => h.ib d (List.mem_reverse.mp hd), fun d hd => h.as d (List.mem_reverse.mp hd)⟩
theorem GA.tuple {n t B : Nat} {ds : List PyData} (h : GA n t B ds) : Gd (n + 1) t B (.tuple ds) := ⟨h.ba.tuple, inB_tup.mpr h.ib, by simp only [asc]; exact ascAll_iff.mpr h.as⟩
theorem GA.list {n t B : Nat} {ds : List PyData} (h : GA n t B ds) : Gd (n + 1) t B (.list ds) := ⟨h.ba.list, inB_lst.mpr h.ib, by simp only [asc]; exact ascAll_iff.mpr h.as⟩
theorem GA.split {n t B : Nat} {ds es : List PyData} (h : GA n t B (ds ++ es)) : ∃ t1 t2, t1 + t2 ≤ t ∧ GA n t1 B ds ∧ GA n t2 B es := by
  have p := h.ba.parts
  have hw := h.ba.wt
  rw [wa_append] at hw
  exact ⟨_, _, hw, ⟨⟨p.1.lf, p.1.sh, p.1.dp, Nat.le_refl _⟩, fun d hd => h.ib d (List.mem_append_left _ hd), fun d hd => h.as d (List.mem_append_left _ hd)⟩, ⟨⟨p.2.lf, p.2.sh, p.2.dp, Nat.le_refl _⟩, fun d hd => h.ib d (List.mem_append_right _ hd), fun d hd => h.as d (List.mem_append_right _ hd)⟩⟩
theorem GA.head {n t B : Nat} {d : PyData} {ds : List PyData} (h : GA n t B (d :: ds)) : ∃ m t2, m + 1 + t2 ≤ t ∧ Gd n m B d ∧ GA n t2 B ds := by
  have hw := h.ba.wt
  have h1 := h.ba.lf
  have h2 := h.ba.sh
  have h3 := h.ba.dp
  simp only [PyData.weightAll] at hw
  simp only [PyData.leavesShortAll, Bool.and_eq_true] at h1
  simp only [PyData.showableAll, Bool.and_eq_true] at h2
  simp only [PyData.depthAll] at h3
  exact ⟨d.weight, PyData.weightAll ds, by omega, ⟨⟨h1.1, h2.1, by omega, Nat.le_refl _⟩, h.ib d List.mem_cons_self, h.as d List.mem_cons_self⟩, ⟨⟨h1.2, h2.2, by omega, Nat.le_refl _⟩, fun x hx => h.ib x (List.mem_cons_of_mem _ hx), fun x hx => h.as x (List.mem_cons_of_mem _ hx)⟩⟩
theorem GA.at {n t B k : Nat} {ds : List PyData} (h : GA n t B ds) (hk : k < ds.length) : ∃ d a m b, ds[k]? = some d ∧ a + (m + 1) + b ≤ t ∧ GA n a B (ds.take k) ∧ Gd n m B d ∧ GA n b B (ds.drop (k + 1)) := by
  have e : ds.take k ++ ds[k] :: ds.drop (k + 1) = ds := by
    rw [← List.drop_eq_getElem_cons hk, List.take_append_drop]
  have h' := h
  rw [← e] at h'
  obtain ⟨t1, t2, ht, g1, g2⟩ := h'.split
  obtain ⟨m, t3, ht3, g3, g4⟩ := g2.head
  exact ⟨ds[k], t1, m, t3, List.getElem?_eq_getElem hk, by omega, g1, g3, g4⟩
def wordsL : List Str := ["none", "cell", "came", "kth", "greatest", "least"]
def Nm (w : Str) : Prop := Lt w ∧ 1 ≤ w.length ∧ w.length ≤ 8 ∧ wordsL.any (fun y => y == w) = false
def LET : Str := Str.ofString "abcdefghijklmnopqrstuvwxyz"
theorem abc_list : LET.cps.toList = (List.range 26).map (97 + ·) := by decide +kernel
theorem abc_lt : Lt LET := by
  intro c hc
  rw [abc_list] at hc
  obtain ⟨x, hx, rfl⟩ := List.mem_map.mp hc
  have := List.mem_range.mp hx
  omega
theorem abc_len : LET.length = 26 := by decide +kernel
theorem vmul_sb {b : Bool} {x : Str} {M : Mem} : vmulU (.dat (.str x)) (.dat (.int (if b = true then 1 else 0))) M = some (.dat (.str (if b = true then x else Str.empty)), M) := by
  cases b <;> rfl
/-- all of a row are not too large -/
def GL (n m B : Nat) (ds : List PyData) : Prop := ∀ d ∈ ds, Gd n m B d
theorem GL.nil {n m B : Nat} : GL n m B [] := fun u h => by cases h
theorem GL.cons {n m B : Nat} {d : PyData} {us : List PyData} (h : Gd n m B d) (g : GL n m B us) : GL n m B (d :: us) := fun u hu => by
  rcases List.mem_cons.mp hu with rfl | hu
  · exact h
  · exact g u hu
theorem GL.app {n m B : Nat} {us ws : List PyData} (h : GL n m B us) (g : GL n m B ws) : GL n m B (us ++ ws) := fun u hu => (List.mem_append.mp hu).elim (h u) (g u)
theorem GL.mono {n m B n' m' B' : Nat} {us : List PyData} (h : GL n m B us) (h1 : n ≤ n') (h2 : m ≤ m') (h3 : B ≤ B') : GL n' m' B' us := fun u hu => (h u hu).mono h1 h2 h3
end Z

/-! ### a dict of two tuples put side by side -/
namespace Lw
open PySem PySem.Spec PyProof.Rows L2
open PySem.Sem (wp)
section
variable {pr : Program} {wd : World} {Ar : Around} {Ex : Value → Shared → Prop} {st : Shared}
end
end Lw
namespace Lw
open PySem PySem.Spec PyProof.Rows L2
end Lw

namespace Pu
open PySem PySem.Spec PyProof.Rows L2 Lw
open Classical
/-! ### rows of tuples of whole numbers, also empty ones, sorted either way -/
def tupI (ks : List Int) : PyData := .tuple (ks.map .int)
def leI (rev : Bool) (x y : List Int) : Bool := if rev = true then !lex x y else !lex y x
def sortI (rev : Bool) (kss : List (List Int)) : List (List Int) := kss.mergeSort (leI rev)
end Pu

namespace Pu
open PySem PySem.Spec PyProof.Rows L2 Lw
open Classical
def intsI : List PyData → Option (List Int)
  | [] => some []
  | .int i :: ds => (intsI ds).map (i :: ·)
  | _ => none
def tupsI : List PyData → Option (List (List Int))
  | [] => some []
  | .tuple es :: ds => match intsI es, tupsI ds with
    | some ks, some kss => some (ks :: kss)
    | _, _ => none
  | _ => none
/-- sorted(x, reverse=True) -/
def descI (ns : List Int) : List Int := ns.mergeSort fun x y => decide (y ≤ x)
noncomputable def sortRD (ds : List PyData) : Option (List PyData) := match tupsI ds with
  | some kss => some ((sortI true kss).map tupI)
  | none => match intsI ds with
    | some ns => some ((descI ns).map .int)
    | none => none
/-! ### over values -/
section
variable {ma va : ME} {m v : MA}
noncomputable def vSortR (va : ME) : ME := fun ρ M => match va ρ M with
  | some (u, M1) => match ((lstOf M1 u).bind allDat).bind sortRD with
    | some es => some (.lv es, M1)
    | none => none
  | none => none
end
theorem w_vsortr {va : ME} {ρ : Env} {M : Mem} {Q : U → Mem → Prop} : W (vSortR va ρ M) Q ↔ W (va ρ M) fun u N => ∃ ds es, (lstOf N u).bind allDat = some ds ∧ sortRD ds = some es ∧ Q (.lv es) N := by
  unfold vSortR
  constructor
  · rintro ⟨u, M', e, q⟩
    split at e
    · rename_i x N e1
      split at e
      · rename_i es e2
        cases e
        obtain ⟨ds, e3, e4⟩ := Option.bind_eq_some_iff.mp e2
        exact ⟨x, _, e1, ds, es, e3, e4, q⟩
      · cases e
    · cases e
  · rintro ⟨x, N, e1, ds, es, e3, e4, q⟩
    rw [e1]
    have e5 : ((lstOf N x).bind allDat).bind sortRD = some es := by rw [e3]; exact e4
    simp only [e5]
    exact ⟨_, _, rfl, q⟩
end Pu

namespace Pu
open PySem PySem.Spec PyProof.Rows L2 Lw
open Classical
/-! ### dicts that never change: made of two tuples, read by a key -/
def keyOf : PyData → Option Key
  | .int i => some (.inl i)
  | .str x => some (.inr x)
  | _ => none
theorem keyOf_some {d : PyData} {k : Key} (h : keyOf d = some k) : d = keyD k := by
  cases d <;> cases h <;> rfl
theorem keyOf_keyD (k : Key) : keyOf (keyD k) = some k := by cases k <;> rfl
def keysOf : List PyData → Option (List Key)
  | [] => some []
  | d :: ds => match keyOf d, keysOf ds with
    | some k, some ks => some (k :: ks)
    | _, _ => none
theorem putK_new {kvs : List (Key × V)} {k : Key} {v : V} (h : k ∉ kvs.map (·.1)) : putK kvs k v = kvs ++ [(k, v)] := by
  unfold putK
  rw [if_neg]
  intro z
  obtain ⟨p, hp, e⟩ := List.any_eq_true.mp z
  exact h (List.mem_map.mpr ⟨p, hp, of_decide_eq_true e⟩)
noncomputable def dictZ (a b : U) : Option PyData := match dtup a, dtup b with
  | some ka, some ds => match keysOf ka with
    | some ks => if ks.Nodup ∧ ks.length = ds.length then some (.dict (ka.zip ds)) else none
    | none => none
  | _, _ => none
noncomputable def eDictZ (m : MA) : ME := fun ρ M => match m ρ M with
  | some ([a, b], N) => (dictZ a b).map fun d => (.dat d, N)
  | _ => none
/-! ### read by a key -/
def getD : List (PyData × PyData) → Key → Option PyData
  | [], _ => none
  | (d, x) :: t, k => if keyOf d = some k then some x else getD t k
def ixDU : F2 := fun a b M => match a, b with
  | .dat (.dict kvs), .dat d => match keyOf d with
    | some k => (getD kvs k).map fun x => (.dat x, M)
    | none => none
  | _, _ => none
noncomputable def ixG : F2 := orF ixU ixDU
theorem getD_ok {G : Hp} : ∀ {kvs : List (Key × V)} {ds : List PyData} {k : Key} {x : PyData}, DA true G (kvs.map (·.2)) ds → getD ((kvs.map fun p => keyD p.1).zip ds) k = some x → ∃ v, valV kvs k = some v ∧ D true G v x
  | [], _, k, x, .nil, h => by cases h
  | p :: kvs, _, k, x, .cons h1 t, h => by
    unfold getD at h
    rw [List.map_cons, List.zip_cons_cons] at h
    simp only [keyOf_keyD, Option.some.injEq] at h
    by_cases z : p.1 = k
    · rw [if_pos z] at h
      cases h
      exact ⟨p.2, valV_pos z, h1⟩
    · rw [if_neg z] at h
      obtain ⟨v, hv, hd⟩ := getD_ok t h
      exact ⟨v, by rw [valV_neg z]; exact hv, hd⟩
theorem pe_or {X : Cx} {e : Expr} {t t' : TE} (h : PE X e t) (h' : PE X e t') : PE X e (fun σ H Q => t σ H Q ∨ t' σ H Q) := ⟨fun pins s σ H Q I q => q.elim (h.run pins s σ H Q I) (h'.run pins s σ H Q I)⟩
theorem key_of {K : PySem.W.Frag} {α : List Addr} {G : Hp} {v : V} {d : PyData} {k : Key} (r : VR K α G v (.dat d)) (h : keyOf d = some k) : v = kV k := by
  have := keyOf_some h
  subst this
  cases r with
  | dat r =>
    cases k with
    | inl i => cases r; rfl
    | inr x => cases r; rfl
theorem qe_ixG {X : Cx} {a b : Expr} {ma mb : ME} {pos : Pos} {k : Nat} (room : Room k X.A) (ha : QE X a ma) (hb : QE X b mb) (hs : PlainIx b := by intro _ _; rfl) (hs2 : NoSl b := by intro _ _; rfl) : QE X (.Subscript a b pos) (eOp ixG ma mb) := by
  obtain ⟨r, h1, h2⟩ := q_ix (X := X)
  obtain ⟨ta, a1, a2⟩ := ha.ex
  obtain ⟨tb, b1, b2⟩ := hb.ex
  refine ⟨_, pe_or (pe_ix h1 a1 b1 hs) (pe_dget (hu_of room) a1 b1 hs2), ?_⟩
  intro σ H α ρ M u M' Q R er h P
  unfold eOp at h
  split at h
  · rename_i x N1 e1
    split at h
    · rename_i y N2 e2
      unfold ixG orF at h
      cases hx : ixU x y N2 with
      | some w =>
        rw [hx] at h
        cases h
        refine .inl (sim_op2 h2 a2 b2 σ H α ρ M u M' Q R er ?_ P)
        unfold eOp
        rw [e1]
        simp only
        rw [e2]
        exact hx
      | none =>
        rw [hx] at h
        simp only at h
        refine .inr ?_
        refine a2 σ H α ρ M x N1 _ R er e1 fun v1 α1 H1 R1 x1 r1 => ?_
        refine b2 σ H1 α1 ρ N1 y N2 _ R1 (er.ext x1) e2 fun v2 α2 H2 R2 x2 r2 => ?_
        unfold ixDU at h
        split at h
        · rename_i kvs d
          split at h
          · rename_i k hk
            obtain ⟨z, hz, hh⟩ := Option.map_eq_some_iff.mp h
            cases hh
            have r3 := r1.ext x2
            cases r3 with
            | dat r3 =>
              cases r3 with
              | dct hl da =>
                obtain ⟨v, hv, hd⟩ := getD_ok da hz
                obtain rfl := key_of r2 hk
                refine ⟨_, v, rfl, ?_, P v α2 H2 R2 (x1.trans x2) (.dat hd)⟩
                rw [← hv]
                exact DGet.k (fzH_le _ _ hl)
          · cases h
        · cases h
    · cases h
  · cases h
/-! ### over values -/
theorem d_ixDU : R2d ixDU := .key (fun _ => dOf) (fun _ => dOf) (fun a b => match a, b with
  | some (.dict kvs), some d => match keyOf d with
    | some k => getD kvs k
    | none => none
  | _, _ => none) dOf_n dOf_n fun a b M => by
  unfold ixDU
  split
  · rename_i kvs d
    show _ = (match keyOf d with
      | some k => getD kvs k
      | none => none).map _
    cases keyOf d <;> rfl
  · rename_i hn
    split
    · rename_i kvs d e1 e2
      cases a <;> cases e1
      cases b <;> cases e2
      exact (hn _ _ rfl rfl).elim
    · rfl
theorem n_ixG : N2 ixG ixG := (d_ixU.or d_ixDU).n2
section
variable {S : List Nat} {m v : MA}
end
theorem w_dictz {m : MA} {ρ : Env} {M : Mem} {Q : U → Mem → Prop} : W (eDictZ m ρ M) Q ↔ W (m ρ M) fun us N => ∃ a b d, us = [a, b] ∧ dictZ a b = some d ∧ Q (.dat d) N := by
  unfold eDictZ
  constructor
  · rintro ⟨u, M', e, q⟩
    split at e
    · rename_i a b N e1
      obtain ⟨d, hd, hh⟩ := Option.map_eq_some_iff.mp e
      cases hh
      exact ⟨_, _, e1, a, b, d, rfl, hd, q⟩
    · cases e
  · rintro ⟨us, N, e1, a, b, d, rfl, hd, q⟩
    rw [e1]
    simp only [hd]
    exact ⟨_, _, rfl, q⟩
theorem ixg_t {ds : List PyData} {i : Int} {M : Mem} {Q : U → Mem → Prop} : W (ixG (.dat (.tuple ds)) (.dat (.int i)) M) Q ↔ ∃ d, atI ds i = some d ∧ Q (.dat d) M := by
  have e : ixG (.dat (.tuple ds)) (.dat (.int i)) M = ixU (.dat (.tuple ds)) (.dat (.int i)) M := by
    unfold ixG orF
    cases ixU (.dat (.tuple ds)) (.dat (.int i)) M <;> rfl
  rw [e]
  exact ix_t
theorem ixg_d {kvs : List (PyData × PyData)} {d : PyData} {M : Mem} {Q : U → Mem → Prop} : W (ixG (.dat (.dict kvs)) (.dat d) M) Q ↔ ∃ k x, keyOf d = some k ∧ getD kvs k = some x ∧ Q (.dat x) M := by
  have e0 : ixU (.dat (.dict kvs)) (.dat d) M = none := by
    unfold ixU
    cases d <;> rfl
  have e : ixG (.dat (.dict kvs)) (.dat d) M = ixDU (.dat (.dict kvs)) (.dat d) M := by
    unfold ixG orF
    rw [e0]
  rw [e]
  unfold ixDU
  constructor
  · rintro ⟨u, M', h, q⟩
    simp only at h
    split at h
    · rename_i k hk
      obtain ⟨x, hx, hh⟩ := Option.map_eq_some_iff.mp h
      cases hh
      exact ⟨k, x, hk, hx, q⟩
    · cases h
  · rintro ⟨k, x, hk, hx, q⟩
    simp only [hk, hx]
    exact ⟨_, _, rfl, q⟩
end Pu

namespace Pu
open PySem PySem.Spec PyProof.Rows L2 Lw
open Classical
/-! ### instances of own classes -/
def putU (f : Str) (v : U) : List (Str × U) → List (Str × U)
  | [] => [(f, v)]
  | (g, x) :: r => if g = f then (g, v) :: r else (g, x) :: putU f v r
/-- o.f -/
def fldOf (C : Addr) (f : Str) (N : Mem) : U → Option U
  | .cell i => match N[i]? with
    | some (.ins D fs) => if D = C then fs.lookup f else none
    | _ => none
  | _ => none
def eFld (C : Addr) (f : Str) (mo : ME) : ME := fun ρ M => match mo ρ M with
  | some (o, N) => (fldOf C f N o).map fun u => (u, N)
  | none => none
def setFld (C : Addr) (f : Str) (u o : U) (N : Mem) : Option Mem := match o with
  | .cell i => match N[i]? with
    | some (.ins D fs) => if D = C ∧ fs.length < 1000 then some (N.set i (.ins C (putU f u fs))) else none
    | _ => none
  | _ => none
def gFld (C : Addr) (f : Str) (mo : ME) : MG := fun u ρ M => match mo ρ M with
  | some (o, N) => (setFld C f u o N).map fun N' => (ρ, N')
  | none => none
/-- o.f += a number -/
def sFldA (C : Addr) (f : Str) (mo mv : ME) : MS := fun ρ M => match mo ρ M with
  | some (o, N) => match fldOf C f N o with
    | some (.dat (.int i)) => match mv ρ N with
      | some (.dat (.int j), N2) => (setFld C f (.dat (.int (i + j))) o N2).map fun N' => (.nx ρ, N')
      | _ => none
    | _ => none
  | none => none
end Pu

namespace Pu
open PySem PySem.Spec PyProof.Rows L2 Lw
open Classical
/-! ### methods, new instances, calls of what a name holds -/
def isIns (C : Addr) (m : Str) (N : Mem) : U → Bool
  | .cell i => match N[i]? with
    | some (.ins D fs) => decide (D = C) && (fs.lookup m).isNone
    | _ => false
  | _ => false
def eMe (C : Addr) (m : Str) (f : FA) (ds : List PyData) (mo : ME) (ma : MA) : ME := fun ρ M => match mo ρ M with
  | some (o, N) => if isIns C m N o = true then (match ma ρ N with
    | some (us, N2) => f (o :: (us ++ ds.map .dat)) N2
    | none => none) else none
  | none => none
section
variable {X : Cx} {k : Nat} {g C : Addr} {fd : FuncData} {ps : List Str} {f : FA} {x mname : Str} {p pos apos : Pos} {e o : Expr} {es : List Expr} {mo : ME} {m : MA} {dvs : List V} {ds : List PyData} {dv : List Value}
def eMk (C : Addr) (f : FA) (ds : List PyData) (m : MA) : ME := fun ρ M => match m ρ M with
  | some (us, N) => match f (.cell N.length :: (us ++ ds.map .dat)) (N ++ [.ins C []]) with
    | some (.dat .none, N2) => some (.cell N.length, N2)
    | _ => none
  | none => none
/-- a call of what the i-th name holds -/
noncomputable def eCA (S : Addr → Option FA) (i : Nat) (m : MA) : ME := fun ρ M => match ρ[i]? with
  | some (some (.adr a)) => match S a with
    | some f => match m ρ M with
      | some (us, N) => f us N
      | none => none
    | none => none
  | _ => none
end
/-- what is never come to -/
def sNever : MS := fun _ _ => none
end Pu

namespace Pu
open PySem PySem.Spec PyProof.Rows L2 Lw
open Classical
/-! ### instances, over values -/
section
variable {S S' B : List Nat} {ma va mo vo : ME} {m v : MA}
/-- a value that is no list of one owner -/
def isLv : U → Bool
  | .lv _ => true
  | _ => false
def eNoLv (va : ME) : ME := fun ρ M => match va ρ M with
  | some (u, N) => if isLv u = true then none else some (u, N)
  | none => none
theorem URs.append {γ : List Nat} {M : Mem} : ∀ {vs us ws ys : List U}, URs γ M vs us → URs γ M ws ys → URs γ M (vs ++ ws) (us ++ ys)
  | _, _, _, _, .nil, h => h
  | _, _, _, _, .cons h t, g => .cons h (t.append g)
end
end Pu

namespace Pu
open PySem PySem.Spec PyProof.Rows L2 Lw
open Classical
/-! ### what these give -/
section
variable {Q : U → Mem → Prop} {QS : Out → Mem → Prop} {QG : Env → Mem → Prop} {ρ : Env} {M : Mem} {C : Addr} {f : Str} {mo mv : ME} {m : MA} {g : FA} {ds : List PyData}
theorem w_efld : W (eFld C f mo ρ M) Q ↔ W (mo ρ M) fun o N => ∃ u, fldOf C f N o = some u ∧ Q u N := by
  unfold eFld
  constructor
  · rintro ⟨u, M', e, q⟩
    split at e
    · rename_i o N e1
      obtain ⟨w, hw, hh⟩ := Option.map_eq_some_iff.mp e
      cases hh
      exact ⟨o, _, e1, _, hw, q⟩
    · cases e
  · rintro ⟨o, N, e1, u, hu, q⟩
    rw [e1]
    simp only [hu]
    exact ⟨_, _, rfl, q⟩
theorem w_gfld {u : U} : W (gFld C f mo u ρ M) QG ↔ W (mo ρ M) fun o N => ∃ N', setFld C f u o N = some N' ∧ QG ρ N' := by
  unfold gFld
  constructor
  · rintro ⟨r, M', e, q⟩
    split at e
    · rename_i o N e1
      obtain ⟨w, hw, hh⟩ := Option.map_eq_some_iff.mp e
      cases hh
      exact ⟨o, _, e1, _, hw, q⟩
    · cases e
  · rintro ⟨o, N, e1, u, hu, q⟩
    rw [e1]
    simp only [hu]
    exact ⟨_, _, rfl, q⟩
theorem w_flda : W (sFldA C f mo mv ρ M) QS ↔ W (mo ρ M) fun o N => ∃ i, fldOf C f N o = some (.dat (.int i)) ∧ W (mv ρ N) fun y N2 => ∃ j N', y = .dat (.int j) ∧ setFld C f (.dat (.int (i + j))) o N2 = some N' ∧ QS (.nx ρ) N' := by
  unfold sFldA
  constructor
  · rintro ⟨r, M', e, q⟩
    split at e
    · rename_i o N e1
      split at e
      · rename_i i hi
        split at e
        · rename_i j N2 e2
          obtain ⟨w, hw, hh⟩ := Option.map_eq_some_iff.mp e
          cases hh
          exact ⟨o, _, e1, i, hi, _, _, e2, j, _, rfl, hw, q⟩
        · cases e
      · cases e
    · cases e
  · rintro ⟨o, N, e1, i, hi, y, N2, e2, j, N', rfl, hw, q⟩
    rw [e1]
    simp only [hi]
    rw [e2]
    simp only [hw]
    exact ⟨_, _, rfl, q⟩
theorem w_eme : W (eMe C f g ds mo m ρ M) Q ↔ W (mo ρ M) fun o N => isIns C f N o = true ∧ W (m ρ N) fun us N2 => W (g (o :: (us ++ ds.map .dat)) N2) Q := by
  unfold eMe
  constructor
  · rintro ⟨r, M', e, q⟩
    split at e
    · rename_i o N e1
      split at e
      · rename_i hi
        split at e
        · rename_i us N2 e2
          exact ⟨o, N, e1, hi, us, N2, e2, r, M', e, q⟩
        · cases e
      · cases e
    · cases e
  · rintro ⟨o, N, e1, hi, us, N2, e2, r, M', e, q⟩
    rw [e1]
    simp only
    rw [if_pos hi, e2]
    exact ⟨r, M', e, q⟩
theorem w_emk : W (eMk C g ds m ρ M) Q ↔ W (m ρ M) fun us N => W (g (.cell N.length :: (us ++ ds.map .dat)) (N ++ [.ins C []])) fun u N2 => u = .dat .none ∧ Q (.cell N.length) N2 := by
  unfold eMk
  constructor
  · rintro ⟨r, M', e, q⟩
    split at e
    · rename_i us N e1
      split at e
      · rename_i N2 e2
        cases e
        exact ⟨us, N, e1, _, _, e2, rfl, q⟩
      · cases e
    · cases e
  · rintro ⟨us, N, e1, u, N2, e2, rfl, q⟩
    rw [e1]
    simp only
    rw [e2]
    exact ⟨_, _, rfl, q⟩
theorem w_eca {S : Addr → Option FA} {i : Nat} : W (eCA S i m ρ M) Q ↔ ∃ a g, ρ[i]? = some (some (.adr a)) ∧ S a = some g ∧ W (m ρ M) fun us N => W (g us N) Q := by
  unfold eCA
  constructor
  · rintro ⟨r, M', e, q⟩
    split at e
    · rename_i a ea
      split at e
      · rename_i g hg
        split at e
        · rename_i us N e1
          exact ⟨a, g, ea, hg, us, N, e1, r, M', e, q⟩
        · cases e
      · cases e
    · cases e
  · rintro ⟨a, g, ea, hg, us, N, e1, r, M', e, q⟩
    rw [ea]
    simp only [hg]
    rw [e1]
    exact ⟨r, M', e, q⟩
theorem w_nolv {va : ME} : W (eNoLv va ρ M) Q ↔ W (va ρ M) fun u N => isLv u = false ∧ Q u N := by
  unfold eNoLv
  constructor
  · rintro ⟨r, M', e, q⟩
    split at e
    · rename_i u N e1
      split at e
      · cases e
      · rename_i h
        cases e
        exact ⟨_, _, e1, Bool.eq_false_iff.mpr h, q⟩
    · cases e
  · rintro ⟨u, N, e1, h, q⟩
    rw [e1]
    simp only [h]
    exact ⟨_, _, rfl, q⟩
theorem w_never : W (sNever ρ M) QS ↔ False := w_none
theorem isLv_dat {d : PyData} : isLv (.dat d) = false := rfl
theorem isLv_cell {i : Nat} : isLv (.cell i) = false := rfl
theorem isLv_adr {a : Addr} : isLv (.adr a) = false := rfl
end
end Pu

/-! ### sorted(set(rows of whole numbers)) -/
namespace Pu
open PySem PySem.Spec PyProof.Rows L2 Lw
open Classical
section
variable {P : Program} {w : World} {A : Around} {E : Value → Shared → Prop} {s : Shared}
end
/-- each once -/
def nub : List (List Int) → List (List Int)
  | [] => []
  | x :: xs => if x ∈ xs then nub xs else x :: nub xs
end Pu

namespace Pu
open PySem PySem.Spec PyProof.Rows L2 Lw
open Classical
/-! ### sorted(set(..)) and dict(..) of a list of pairs -/
noncomputable def setSort (ds : List PyData) : Option (List PyData) := match tupsI ds with
  | some kss => if kss.length < 64 then some ((sortI false (nub kss)).map tupI) else none
  | none => none
end Pu

namespace Pu
open PySem PySem.Spec PyProof.Rows L2 Lw
open Classical
noncomputable def vSortSet (va : ME) : ME := fun ρ M => match va ρ M with
  | some (u, N) => match ((lstOf N u).bind allDat).bind setSort with
    | some es => some (.lv es, N)
    | none => none
  | none => none
theorem w_vsortset {va : ME} {ρ : Env} {M : Mem} {Q : U → Mem → Prop} : W (vSortSet va ρ M) Q ↔ W (va ρ M) fun u N => ∃ ds es, (lstOf N u).bind allDat = some ds ∧ setSort ds = some es ∧ Q (.lv es) N := by
  unfold vSortSet
  constructor
  · rintro ⟨u, M', e, q⟩
    split at e
    · rename_i x N e1
      split at e
      · rename_i es e2
        cases e
        obtain ⟨ds, e3, e4⟩ := Option.bind_eq_some_iff.mp e2
        exact ⟨x, _, e1, ds, es, e3, e4, q⟩
      · cases e
    · cases e
  · rintro ⟨x, N, e1, ds, es, e3, e4, q⟩
    rw [e1]
    have e5 : ((lstOf N x).bind allDat).bind setSort = some es := by rw [e3]; exact e4
    simp only [e5]
    exact ⟨_, _, rfl, q⟩
/-! ### dict(pairs) -/
def pairD : PyData → Option (Key × PyData)
  | .tuple [d, x] => (keyOf d).map fun k => (k, x)
  | _ => none
def pairsD : List PyData → Option (List (Key × PyData))
  | [] => some []
  | d :: ds => match pairD d, pairsD ds with
    | some p, some ps => some (p :: ps)
    | _, _ => none
def dctD (ps : List (Key × PyData)) : PyData := .dict (ps.map fun p => (keyD p.1, p.2))
theorem pairD_some {d : PyData} {p : Key × PyData} (h : pairD d = some p) : d = .tuple [keyD p.1, p.2] := by
  unfold pairD at h
  split at h
  · obtain ⟨k, h1, h2⟩ := Option.map_eq_some_iff.mp h
    subst h2
    rw [keyOf_some h1]
  · cases h
theorem pairsD_some : ∀ {ds : List PyData} {ps : List (Key × PyData)}, pairsD ds = some ps → ds = ps.map fun p => .tuple [keyD p.1, p.2]
  | [], _, h => by cases h; rfl
  | d :: ds, ps, h => by
    unfold pairsD at h
    split at h
    · rename_i p ls h1 h2
      cases h
      rw [pairD_some h1, pairsD_some h2]
      rfl
    · cases h
theorem da_pairs {K : PySem.W.Frag} {G H : Hp} (sg : Same G H) : ∀ {xs : List V} {ps : List (Key × PyData)}, DA true G xs (ps.map fun p => .tuple [keyD p.1, p.2]) →
    ∃ (ts : List Addr) (kvs : List (Key × V)), xs = ts.map V.ref ∧ Paired (fun p kv => SqT K H p [kV kv.1, kv.2]) ts kvs ∧ kvs.map (·.1) = ps.map (·.1) ∧ DA true G (kvs.map (·.2)) (ps.map (·.2))
  | _, [], .nil => ⟨[], [], rfl, .nil, rfl, .nil⟩
  | _, p :: ps, .cons d t => by
    obtain ⟨ts, kvs, h1, h2, h3, h4⟩ := da_pairs sg t
    cases d with
    | tup e t' =>
      rename_i a xs'
      cases t' with
      | cons dk t2 =>
        cases t2 with
        | cons dx t3 =>
          cases t3
          rename_i vk vx
          have ek : vk = kV p.1 := by
            obtain ⟨k, x⟩ := p
            cases k with
            | inl i => cases dk; rfl
            | inr z => cases dk; rfl
          subst ek
          exact ⟨a :: ts, (p.1, vx) :: kvs, by rw [h1]; rfl, .cons (.inl (Rd.ext sg e.rd)) h2, by rw [List.map_cons, List.map_cons, h3], .cons dx h4⟩
theorem mergeK_nd : ∀ (kvs acc : List (Key × V)), (kvs.map (·.1)).Nodup → (∀ k ∈ kvs.map (·.1), k ∉ acc.map (·.1)) → mergeK acc kvs = acc ++ kvs
  | [], acc, _, _ => by simp [mergeK]
  | (k, y) :: kvs, acc, hn, ha => by
    show mergeK (putK acc k y) kvs = _
    rw [List.map_cons] at hn ha
    rw [putK_new (ha k List.mem_cons_self), mergeK_nd kvs _ (List.nodup_cons.mp hn).2 ?_, List.append_assoc]
    · rfl
    · intro k' hk' z
      rw [List.map_append, List.mem_append] at z
      rcases z with z | z
      · exact ha k' (List.mem_cons_of_mem _ hk') z
      · have : k' = k := by simpa using z
        exact (List.nodup_cons.mp hn).1 (this ▸ hk')
noncomputable def dictP (ds : List PyData) : Option PyData := match pairsD ds with
  | some ps => if (ps.map (·.1)).Nodup then some (dctD ps) else none
  | none => none
noncomputable def dictPF : FA := fun us M => match us with
  | [u] => match ((lstOf M u).bind allDat).bind dictP with
    | some d => some (.dat d, M)
    | none => none
  | _ => none
theorem dct_rel {G : Hp} {a : Addr} {kvs : List (Key × V)} {ps : List (Key × PyData)} (h : G a = some (.dK kvs)) (hk : kvs.map (·.1) = ps.map (·.1)) (hd : DA true G (kvs.map (·.2)) (ps.map (·.2))) : D true G (.ref a) (dctD ps) := by
  have d := D.dct (f := true) h hd
  have e : ((kvs.map fun p => keyD p.1).zip (ps.map (·.2))) = ps.map fun p => (keyD p.1, p.2) := by
    rw [show (kvs.map fun p => keyD p.1) = (kvs.map (·.1)).map keyD by rw [List.map_map]; rfl, hk]
    clear d hd hk h
    induction ps with
    | nil => rfl
    | cons p ps ih => simp only [List.map_cons, List.zip_cons_cons, ih]
  rw [e] at d
  exact d
theorem q_dictP {X : Cx} (hc : X.calm = true) : QC X (.type "dict") dictPF := by
  refine ⟨_, call_dictP hc, fun H α M xs us u M' Q R rx e P => ?_⟩
  unfold dictPF at e
  split at e
  · rename_i w
    split at e
    · rename_i d e1
      cases e
      obtain ⟨v, rfl, rv⟩ := vrs1 rx
      obtain ⟨ds, e0, e4⟩ := Option.bind_eq_some_iff.mp e1
      obtain ⟨ws, e2, e3⟩ := Option.bind_eq_some_iff.mp e0
      obtain ⟨p, ys, rfl, hq, r⟩ := lstOf_ok R rv e2
      unfold dictP at e4
      split at e4
      · rename_i ps hp
        split at e4
        · rename_i hn
          cases e4
          rw [allDat_some e3, pairsD_some hp] at r
          obtain ⟨ts, kvs, rfl, h2, h3, h4⟩ := da_pairs (K := X.K) (fzH_le (α := α) (M := M) (H := H)) (da_of_vrs r)
          refine ⟨p, ts, kvs, rfl, SqL.of hq, h2, fun l nl => ?_⟩
          rw [mergeK_nd kvs [] (by rw [h3]; exact hn) (fun k _ z => by cases z), List.nil_append]
          obtain ⟨R3, x3, e5⟩ := R.newFix (o := .dK kvs) nl
          exact P _ _ _ R3 x3 (.dat (dct_rel e5 h3 (h4.same x3.same)))
        · cases e4
      · cases e4
    · cases e
  · cases e
theorem na_dictP : NA dictPF dictPF := .dat fun γ Mv M vs us r Mv' s rs e => by
  unfold dictPF at e
  split at e
  · rename_i w
    obtain ⟨u, rfl, r1⟩ := urs1 rs
    split at e
    · rename_i d e1
      cases e
      obtain ⟨ds, e0, e4⟩ := Option.bind_eq_some_iff.mp e1
      obtain ⟨ws, h1, h2⟩ := Option.bind_eq_some_iff.mp e0
      refine ⟨rfl, _, rfl, ?_⟩
      rcases lstOf_nat s r1 with ⟨g1, _⟩ | ⟨ws', ys, g1, g2, g3⟩
      · rw [g1] at h1
        cases h1
      · rw [g1] at h1
        cases h1
        have hy := g3.eqDat h2
        subst hy
        unfold dictPF
        simp only [g2, Option.bind, allDat_map, e4]
    · cases e
  · cases e
theorem dictp_l {ds : List PyData} {M : Mem} {Q : U → Mem → Prop} : W (dictPF [.lv ds] M) Q ↔ ∃ d, dictP ds = some d ∧ Q (.dat d) M := by
  unfold dictPF
  simp only [lst_lv, Option.bind, allDat_map]
  constructor
  · rintro ⟨u, M', e, q⟩
    split at e
    · rename_i d hd
      cases e
      exact ⟨d, hd, q⟩
    · cases e
  · rintro ⟨d, hd, q⟩
    simp only [hd]
    exact ⟨_, _, rfl, q⟩
theorem tupK_d {ds : List PyData} : tupK (.dat (.tuple ds)) = some (ds.map .dat) := rfl
end Pu

namespace Pu
open PySem PySem.Spec PyProof.Rows L2 Lw
open Classical
/-! ### rows of numbers compared; the k-th greatest under a bar -/
end Pu

namespace Pu
open PySem PySem.Spec PyProof.Rows L2 Lw
open Classical
end Pu

namespace Pu
open PySem PySem.Spec PyProof.Rows L2 Lw
open Classical
/-! ### x or y of any values, by truth -/
def eOrU (m n : ME) : ME := fun ρ M => match m ρ M with
  | some (u, M1) => match truthN M1 u with
    | some true => some (u, M1)
    | some false => n ρ M1
    | none => none
  | none => none
section
variable {X : Cx} {a b : Expr} {ma mb va vb : ME} {pos : Pos} {rest : List Expr} {S : List Nat}
end
section
variable {Q : U → Mem → Prop} {m n : ME} {ρ : Pu.Env} {M : Mem} {ds es : List PyData} {k : Int}
theorem w_orU : W (eOrU m n ρ M) Q ↔ W (m ρ M) fun u M1 => ∃ b, truthN M1 u = some b ∧ match b with
    | true => Q u M1
    | false => W (n ρ M1) Q := by
  unfold eOrU
  constructor
  · rintro ⟨u, M', e, q⟩
    split at e
    · rename_i w M1 e1
      split at e
      · rename_i h
        cases e
        exact ⟨_, _, e1, true, h, q⟩
      · rename_i h
        exact ⟨_, _, e1, false, h, u, M', e, q⟩
      · cases e
    · cases e
  · rintro ⟨w, M1, e1, b, h, q⟩
    rw [e1]
    cases b with
    | true => simp only [h]; exact ⟨_, M1, rfl, q⟩
    | false => simp only [h]; exact q
theorem tr_lv : truthN M (.lv ds) = some (!ds.isEmpty) := by
  show (seqOf M (.lv ds)).map (fun us => !us.isEmpty) = _
  cases ds <;> rfl
theorem vmul_lv : W (vmulU (.lv ds) (.dat (.int k)) M) Q ↔ (-(2 ^ 63) ≤ k ∧ k < 2 ^ 63 ∧ ds.length * k.toNat ≤ sizeLine) ∧ Q (.lv (List.replicate k.toNat ds).flatten) M := by
  have e : vmulU (.lv ds) (.dat (.int k)) M = if -(2 ^ 63) ≤ k ∧ k < 2 ^ 63 ∧ ds.length * k.toNat ≤ sizeLine then some (.lv (List.replicate k.toNat ds).flatten, M) else none := by
    unfold vmulU orF fI mulS repT vrepL
    simp only [dtup, lstOf, ad_map, List.length_map]
  rw [e, w_if, w_some]
theorem ne_lvv (h1 : SeqAt.shaped (.list ds) = true) (h2 : SeqAt.shaped (.list es) = true) : neU (.lv ds) (.lv es) M = some (.dat (.bool (!PyData.eqv (.list ds) (.list es))), M) := by
  have a1 : neSS (.lv ds) (.lv es) M = none := rfl
  have a3 : eqT0 true (.lv ds) (.lv es) M = none := rfl
  have e1 : datOf M (.lv ds) = some (.list ds) := rfl
  have e2 : datOf M (.lv es) = some (.list es) := rfl
  unfold neU orF
  simp only [a1, a3]
  unfold neD
  simp only [e1, e2, h1, h2, and_self, if_true]
/-- data of plain shape, by depth -/
def Shp (n : Nat) (d : PyData) : Prop := d.canLay0 = true ∧ d.depth ≤ n
theorem Shp.mono {n m : Nat} {d : PyData} (h : Shp n d) (l : n ≤ m) : Shp m d := ⟨h.1, Nat.le_trans h.2 l⟩
theorem shp_all {n : Nat} : ∀ {ds : List PyData}, (∀ d ∈ ds, Shp n d) → PyData.canLayAll0 ds = true ∧ PyData.depthAll ds ≤ n
  | [], _ => ⟨rfl, by simp [PyData.depthAll]⟩
  | d :: ds, h => by
    obtain ⟨h1, h2⟩ := h d (List.mem_cons_self ..)
    obtain ⟨h3, h4⟩ := shp_all fun x hx => h x (List.mem_cons_of_mem _ hx)
    refine ⟨?_, ?_⟩
    · rw [PyData.canLayAll0, h1, h3]; rfl
    · rw [PyData.depthAll]
      omega
theorem Shp.tup {n : Nat} {ds : List PyData} (h : ∀ d ∈ ds, Shp n d) : Shp (n + 1) (.tuple ds) := by
  obtain ⟨h1, h2⟩ := shp_all h
  refine ⟨?_, ?_⟩
  · rw [PyData.canLay0]; exact h1
  · rw [PyData.depth]; omega
theorem Shp.lst {n : Nat} {ds : List PyData} (h : ∀ d ∈ ds, Shp n d) : Shp (n + 1) (.list ds) := by
  obtain ⟨h1, h2⟩ := shp_all h
  refine ⟨?_, ?_⟩
  · rw [PyData.canLay0]; exact h1
  · rw [PyData.depth]; omega
theorem Shp.int {n : Nat} {i : Int} : Shp (n + 1) (.int i) := ⟨rfl, by rw [PyData.depth]; omega⟩
theorem Shp.bool {n : Nat} {i : Bool} : Shp (n + 1) (.bool i) := ⟨rfl, by rw [PyData.depth]; omega⟩
theorem Shp.str {n : Nat} {i : Str} (h : PyData.strOk i = true) : Shp (n + 1) (.str i) := ⟨by rw [PyData.canLay0]; exact h, by rw [PyData.depth]; omega⟩
theorem Shp.none {n : Nat} : Shp (n + 1) .none := ⟨rfl, by rw [PyData.depth]; omega⟩
theorem Shp.ok {n : Nat} {d : PyData} (h : Shp n d) (l : n ≤ 64) : SeqAt.shaped d = true := by
  unfold SeqAt.shaped
  rw [h.1, decide_eq_true (Nat.le_trans h.2 l)]
  rfl
end
/-! ### a, b = a list -/
def gTpL (n : Nat) (m : MGs) : MG := fun u ρ M => match lstOf M u with
  | some us => if us.length = n then m us ρ M else none
  | none => none
section
variable {X : Cx} {pos : Pos} {ma va : ME} {S S' : List Nat} {B : List Nat} {u : U} {ρ : Env} {M : Mem}
theorem w_gtpl {n : Nat} {m : MGs} {QG : Env → Mem → Prop} : W (gTpL n m u ρ M) QG ↔ ∃ us, lstOf M u = some us ∧ us.length = n ∧ W (m us ρ M) QG := by
  unfold gTpL
  constructor
  · rintro ⟨w, M', e, q⟩
    split at e
    · rename_i us e1
      split at e
      · rename_i h
        exact ⟨us, e1, h, w, M', e, q⟩
      · cases e
    · cases e
  · rintro ⟨us, e1, h, w, M', e, q⟩
    rw [e1]
    simp only [if_pos h]
    exact ⟨w, M', e, q⟩
end
/-! ### rows of numbers sorted -/
/-! ### a, b, c = x, y, z with lists or instances among them -/
def setNs : List Nat → List U → Env → Env
  | i :: is, u :: us, ρ => setNs is us (ρ.set i (some u))
  | _, _, ρ => ρ
def gsN : List Nat → MGs
  | [] => gN0
  | i :: is => gCn (gNm i) (gsN is)
theorem gsN_run : ∀ (is : List Nat) (us : List U) (ρ : Env) (M : Mem), us.length = is.length → gsN is us ρ M = some (setNs is us ρ, M)
  | [], [], _, _, _ => rfl
  | i :: is, u :: us, ρ, M, h => by
    show gCn (gNm i) (gsN is) (u :: us) ρ M = _
    have ih := gsN_run is us (ρ.set i (some u)) M (by simpa using h)
    exact ih
def vParN (is : List Nat) (v : MA) : MS := fun ρ M => match v ρ M with
  | some (us, M1) => if us.length = is.length then some (.nx (setNs is us ρ), M1) else none
  | none => none
theorem setN_sim {S S' γ γ0 : List Nat} {M M0 : Mem} {ρv ρ : Env} (ev : EV S γ0 M0 ρv ρ) (hs : ∀ k ∈ S', k ∈ S) :
    ∀ (is : List Nat) (rs us : List U) (ρv' ρ' : Env), (∀ k ∈ is, k ∉ S') → URs γ M rs us → (∀ u ∈ us, Pr S γ ρv ρ M0 u) → EV S' γ M ρv' ρ' → (∀ j ∈ S', ρ'[j]? = ρ[j]?) → Pz γ ρ ρ' M0 →
      EV S' γ M (setNs is rs ρv') (setNs is us ρ') ∧ (∀ j ∈ S', (setNs is us ρ')[j]? = ρ[j]?) ∧ Pz γ ρ (setNs is us ρ') M0
  | [], rs, us, ρv', ρ', _, _, _, e, h, z => ⟨by unfold setNs; exact e, by unfold setNs; exact h, by unfold setNs; exact z⟩
  | i :: is, _, _, ρv', ρ', hi, .nil, _, e, h, z => ⟨by unfold setNs; exact e, by unfold setNs; exact h, by unfold setNs; exact z⟩
  | i :: is, r :: rs, u :: us, ρv', ρ', hi, .cons r1 t, p, e, h, z => by
    have ni := hi i (List.mem_cons_self ..)
    have pu := p u (List.mem_cons_self ..)
    have e2 := e.set (i := i) r1 ni fun c hc n j hj => by
      rw [h j hj]
      exact pr_own ev (Nat.le_refl _) pu hc n j (hs j hj)
    show EV S' γ M (setNs is rs (ρv'.set i (some r))) (setNs is us (ρ'.set i (some u))) ∧ _
    refine setN_sim ev hs is rs us _ _ (fun k hk => hi k (List.mem_cons_of_mem _ hk)) t (fun w hw => p w (List.mem_cons_of_mem _ hw)) e2 (fun j hj => ?_) (fun j c e3 n => ?_)
    · rw [List.getElem?_set_ne (fun q : i = j => ni (by rw [q]; exact hj))]
      exact h j hj
    · rcases set_some e3 with ⟨_, e4⟩ | ⟨_, e4⟩
      · rcases pu c e4.symm n with k | ⟨i', w, _, _, k⟩
        · exact .inl k
        · exact .inr ⟨i', k⟩
      · exact z j c e4 n
theorem vs_parN {S S' B is : List Nat} {m v : MA} (ha : VA S m v) (hn : is.length ≤ sizeLine := by decide) (hs : ∀ k ∈ S', k ∈ S ∧ k ∉ is := by decide) : VS S S' B (sAsg (eTupN m) (gTp is.length (gsN is))) (vParN is v) := ⟨fun γ ρ ρv M Mv o Mv' s ev e => by
  unfold vParN at e
  split at e
  · rename_i rs M1 e1
    split at e
    · rename_i hl
      cases e
      obtain ⟨γ1, us, N1, q1, s1, r1, x1, p1⟩ := ha.run γ ρ ρv M Mv _ _ s ev e1
      have hlu : us.length = is.length := by rw [← r1.length]; exact hl
      have ev1 := (ev.ext x1).weak (S' := S') fun k hk => (hs k hk).1
      obtain ⟨a1, a2, a3⟩ := setN_sim ev (fun k hk => (hs k hk).1) is rs us ρv ρ (fun k hk z => (hs k z).2 hk) r1 p1 ev1 (fun _ _ => rfl) Pz.self
      refine ⟨γ1, .nx (setNs is us ρ), N1, ?_, s1, x1.s, a1, fun j hj c e => ?_, a3⟩
      · have e2 : eTupN m ρ M = some (.tupc us, N1) := by
          unfold eTupN
          rw [q1]
          simp only
          rw [if_pos (by rw [hlu]; exact hn)]
        have e3 : gTp is.length (gsN is) (.tupc us) ρ N1 = some (setNs is us ρ, N1) := by
          show (if us.length = is.length then gsN is us ρ N1 else none) = _
          rw [if_pos hlu, gsN_run _ _ _ _ hlu]
        unfold sAsg
        rw [e2]
        simp only
        rw [e3]
      · rw [a2 j hj] at e
        exact .inr ⟨j, (hs j hj).1, e⟩
    · cases e
  · cases e⟩
theorem w_vparn {is : List Nat} {v : MA} {ρ : Env} {M : Mem} {QS : Out → Mem → Prop} : W (vParN is v ρ M) QS ↔ W (v ρ M) fun us M1 => us.length = is.length ∧ QS (.nx (setNs is us ρ)) M1 := by
  unfold vParN
  constructor
  · rintro ⟨w, M', e, q⟩
    split at e
    · rename_i us M1 e1
      split at e
      · rename_i h
        cases e
        exact ⟨us, _, e1, h, q⟩
      · cases e
    · cases e
  · rintro ⟨us, M1, e1, h, q⟩
    rw [e1]
    simp only [if_pos h]
    exact ⟨_, _, rfl, q⟩
theorem setNs_cons {i : Nat} {is : List Nat} {u : U} {us : List U} {ρ : Env} : setNs (i :: is) (u :: us) ρ = setNs is us (ρ.set i (some u)) := rfl
theorem setNs_nil {us : List U} {ρ : Env} : setNs [] us ρ = ρ := rfl
end Pu

namespace Pu
open PySem PySem.Spec PyProof.Rows L2 Lw
open Classical
/-! ### dicts that change: cells, shared -/
/-! ### over values -/
section
variable {S : List Nat}
end
/-! ### what these give -/
section
variable {Q : U → Mem → Prop} {QG : Env → Mem → Prop} {ρ : Env} {M : Mem} {mo mi : ME}
end
end Pu

/-! ### sorted(set(whole numbers)) -/
namespace Si
open PySem PySem.Spec PyProof.Rows L2
section
variable {P : Program} {w : World} {A : Around} {R : Result → Shared → Prop} {I : Addr} {fp wr : List Addr} {G : Array GenState → Array GenState → Prop} {n : Nat} {Pv : Nat → Value → Prop} {St : Nat → Shared → Prop}
end
section
variable {P : Program} {w : World} {A : Around} {E : Value → Shared → Prop} {s : Shared}
end
end Si

namespace Pu
open PySem PySem.Spec PyProof.Rows L2 Lw
open Classical
section
variable {P : Program} {w : World} {A : Around} {E : Value → Shared → Prop} {s : Shared}
end
section
variable {X : Cx}
end
/-! ### over values -/
end Pu

namespace Pu
open PySem PySem.Spec PyProof.Rows L2 Lw
open Classical

/-! ### an exception that is caught and kept by a name -/
theorem xo_at {P : Program} {w : World} {H : Hp} {h : Heap} {a C : Addr} {d : Option Addr} {oe : Obj} {vs : Array Value} (e : h.get? a = some oe) (z : Zc (.ref C) d oe) (q : oe.data = .fields vs) : ObjOk P w H h a (XO a C d) :=
  ⟨⟨oe, vs, e, z, q⟩, ⟨oe, e⟩, fun _ _ ⟨o', vs', e1, z1, q1⟩ k => ⟨o', vs', k o' e1, z1, q1⟩⟩
/-- a thing of ours is told of from now on -/
theorem Inv.noted {X : Cx} {pins : List (Addr × Obj)} {σ : L2.St} {H : Hp} {s : Shared} {a : Addr} {φ : Heap → Prop} (I : Inv X pins σ H s) (n0 : X.s_0.heap.get? a = none) (nH : H a = none)
    (ok : ObjOk X.prog X.w (upd H a (.ext φ)) s.heap a (.ext φ)) (nL : a ≠ X.env.locals) (nC : ∀ x c, X.env.cells.lookup x = some c → c ≠ a) (nP : ∀ p ∈ X.pn ++ pins, p.1 ≠ a) : Inv X pins σ (upd H a (.ext φ)) s := by
  have ne0 : ∀ b o, X.s_0.heap.get? b = some o → b ≠ a := fun b o e z => by
    rw [z, n0] at e
    cases e
  refine ⟨I.ok, I.os, I.bare, ⟨I.base.keep, I.base.slot, fun b o e n hx => ?_, I.base.there, fun b xs e => ?_, fun b o u e => ?_, fun b ps e => ?_⟩, I.loc, I.cell, ?_, fun x c e => ?_, fun p hp => ?_, I.hok.laidN (fun _ _ z => z) nH ok, I.len⟩
  · rw [upd_ne (ne0 b o e)]
    exact I.base.free b o e n hx
  · have q := I.base.tups b xs e
    rw [upd_ne (ne_of_none q nH)]
    exact q
  · have q := I.base.frzs b o u e
    rw [upd_ne (ne_of_none q nH)]
    exact q
  · obtain ⟨m, q⟩ := I.base.tbls b ps e
    exact ⟨m, by rw [upd_ne (ne_of_none q nH)]; exact q⟩
  · rw [upd_ne (Ne.symm nL)]
    exact I.free
  · rw [upd_ne (nC x c e)]
    exact I.freeC x c e
  · obtain ⟨e, n, z⟩ := I.pin p hp
    exact ⟨e, by rw [upd_ne (nP p hp)]; exact n, z⟩
/-- what the clause 'except x as n: y = n' wishes of the body's exception: slot i is n's, slot j is y's -/
def wKp (K : PySem.W.Frag) (c : Value) (i j : Nat) (Wout : WX) (D : Ends) : WX := fun cls d σ H =>
  ∃ b, PySem.W.exmOne K cls c = some b ∧ (b = true → ∃ C, cls = .ref C ∧ ∀ a, H a = none → D.nx (((σ.set i (some (.ref a))).set j (some (.ref a))).set i none) (upd H a (XO a C d))) ∧ (b = false → Wout cls d σ H)
section
variable {X : Cx} {x n y : Str} {c : Value} {i j : Nat} {body : List Stmt} {st : Stmt} {np pos pos' : Pos} {tb : WX → TS} {Wout : WX}
theorem ps_try_keep (hs : X.stack = X.env :: X.outer) (hf : X.env.frame = some X.env.locals) (hex : X.ex = []) (hN : X.N.Nodup) (hi : X.N[i]? = some n) (hln : X.env.kindOf n = some .local) (hc : Names X x c) (tk : Takes X Wout)
    (hb : ∀ (W : WX) (qn : List (Addr × Obj)) (xe : Value → Shared → Prop), Takes (X.tr qn xe) W → PassesOwn (model X.prog X.w) X.A X.env xe → PSs (X.tr qn xe) body (tb W))
    (hsu : ∀ (a : Addr) (oe : Obj) (qn : List (Addr × Obj)), PSs (X.suite a ((a, oe) :: qn)) [st] (tAsg (tVar i) (gName j))) :
    PS X (.Try body [.ExceptHandler (some (.Name x np)) (some n) [st] pos'] [] [] pos) (fun D σ H => tb (wKp X.K c i j Wout D) D σ H) := by
  refine ⟨fun pins s σ H D I h => ?_⟩
  have okX := I.ok
  have frX : X.A.frames = some (X.env :: X.outer) := by rw [okX.frames, hs]
  have locN : Loc X.env.scope n := .inl hln
  refine wpAny_Try_except ?_
  refine wpAny_mono ((hb (wKp X.K c i j Wout D) (X.pn ++ pins) (fun e z1 => wpAny (model X.prog X.w) X.A (noteFrame e X.env) (fun _ z2 => wpAny (model X.prog X.w) X.A (setFlight e none) (fun _ z3 =>
    wpAny (model X.prog X.w) X.A (handleBy e X.env [.ExceptHandler (some (.Name x np)) (some n) [st] pos']) (SP X pins D) X.xe z3) X.xe z2) X.xe z1) (fun u z xx => ?_) PassesOwn.looking).run [] s σ H D (I.toTry _) h) (fun f z1 sp1 => ?_) (fun e z1 he => he)
  · obtain ⟨a, B, zI, qins, σ1, H1, cls, d, rfl, J', nb, up, sky, na, hos, ag, b, hb1, hyes, hno⟩ := xx
    have J : Inv X pins σ1 H1 zI := J'.ofTry okX
    have skyX : Sky B (X.env :: X.outer) a (Zc cls d) X.env.locals z.heap := by rw [← hs]; exact sky
    have Bnone : B.get? a = none := by
      rcases skyX with ⟨_, e, _⟩ | ⟨_, e, _⟩ | ⟨_, e, _⟩
      · exact e
      · exact e
      · exact e
    show wpAny _ _ (noteFrame (.ref a) X.env) _ _ _
    refine Sky.land Zc.steady frX hf skyX fun g3 fl3 up3 => ?_
    have K3 : Inv X pins σ1 H1 { z with heap := g3 } := J.landed nb fl3.1 (up.trans up3) hos ag
    obtain ⟨o3, v3, e3, y3, d3⟩ := fl3.there
    have noFr : ∀ {g : Heap} {o : Obj} {vs : Array Value}, g.FunFrames B (X.env :: X.outer) → g.get? a = some o → o.data = .fields vs → a ∉ frs (X.env :: X.outer) := fun {g o vs} ff e dd hm => by
      obtain ⟨_, o', e', hnf⟩ := ff.mem hm
      rw [e] at e'
      cases e'
      exact (hnf _ dd)
    have nfr := noFr fl3.2.2.1 e3 d3
    have nL : a ≠ X.env.locals := fun q => nfr (List.mem_filterMap.mpr ⟨X.env, List.mem_cons_self, by rw [hf, q]⟩)
    have nF : a ∉ X.fs := fun hm => by
      obtain ⟨e, he, q⟩ := List.mem_filterMap.mp hm
      exact (nfr (List.mem_filterMap.mpr ⟨e, List.mem_cons_of_mem _ he, q⟩))
    have nI : zI.heap.get? a = none := by
      cases e : zI.heap.get? a with
      | none => rfl
      | some o =>
        have q := nb a o e (by rw [hs]; exact nfr)
        rw [Bnone] at q
        cases q
    have n0 : X.s_0.heap.get? a = none := by
      cases e : X.s_0.heap.get? a with
      | none => rfl
      | some o =>
        obtain ⟨o', q⟩ := J.base.there a o e (by rw [hex]; exact fun w => nomatch w)
        rw [nI] at q
        cases q
    have nC : ∀ w c', X.env.cells.lookup w = some c' → c' ≠ a := fun w c' e q => by
      obtain ⟨v, o, ho, hd⟩ := J.cell w c' e
      rw [q, nI] at ho
      cases ho
    have S3 := K3.suite e3 d3 na nL nF
    refine wpAny_handleBy_cons (codeAny_handlers_test ?_) (by intro q; cases q)
    have T1 : PySem.W.Looks (model X.prog X.w) g3 (typeOf (.ref a)) cls := fun A Q E s k q => wpAny_typeOf_ref (k _ _ e3) (by rw [y3.1]; exact q)
    have T2 := PySem.W.exm_one (M := model X.prog X.w) (K3.kIn) T1 hb1
    have test : ∀ {Q : Value → Shared → Prop} {E : Value → Shared → Prop}, Q c { z with heap := g3 } → wpAny (model X.prog X.w) (X.A.mark (some (.ref a))) (eval (.Name x np) X.env) Q E { z with heap := g3 } := fun {Q E} q => by
      obtain ⟨hg, hdbg, hm | ⟨hm, hv, hnn⟩⟩ := hc
      · exact (ld_glob (X := X.suite a ((a, o3) :: (X.pn ++ pins))) S3 hg hm q hdbg)
      · exact (ld_blt (X := X.suite a ((a, o3) :: (X.pn ++ pins))) S3 hg hm hv q hnn hdbg)
    refine test (T2.here ?_)
    cases b with
    | true =>
      obtain ⟨C, rfl, hy⟩ := hyes rfl
      refine codeAny_handlers_suite_as ?_
      refine HandSPX.lands_againZ fl3 fun g4 fl4 up4 => ?_
      have K4 : Inv X pins σ1 H1 { z with heap := g4 } := J.landed nb fl4.1 ((up.trans up3).trans up4) hos ag
      obtain ⟨o4, v4, e4, y4, d4⟩ := fl4.there
      have S4 := K4.suite e4 d4 na nL nF
      have il : i < σ1.length := by
        rw [J.len]
        exact (List.getElem?_eq_some_iff.mp hi).1
      refine store_ok (X := X.suite a ((a, o4) :: (X.pn ++ pins))) (v := .ref a) S4 hN hi locN rfl (fun z5 S5 => ?_) (.inr hln)
      refine wpAny_mono ((hsu a o4 (X.pn ++ pins)).run [] z5 _ H1 { nx := fun σ' H' => σ' = (σ1.set i (some (.ref a))).set j (some (.ref a)) ∧ H' = H1, rt := fun _ _ => False } S5 ?_) ?_ (fun _ _ q => False.elim q)
      · exact ⟨_, List.getElem?_set_self il, rfl, rfl⟩
      · intro f z6 sp6
        cases f with
        | next =>
          obtain ⟨σ6, H6, S6, rfl, rfl⟩ := sp6
          refine gone_ok (X := X.suite a ((a, o4) :: (X.pn ++ pins))) S6 hN hi hln fun z7 S7 => ?_
          obtain ⟨e7, _⟩ := S7.pin (a, o4) (List.mem_append_left _ List.mem_cons_self)
          refine ⟨_, _, Inv.noted (S7.unsuite okX) n0 na (xo_at e7 y4 d4) nL nC fun p hp q => ?_, hy a na⟩
          have k1 := (J.pin p hp).1
          rw [q, nI] at k1
          cases k1
        | brk =>
          obtain ⟨_, _, _, q⟩ := sp6
          exact q.elim
        | cont =>
          obtain ⟨_, _, _, q⟩ := sp6
          exact q.elim
        | ret u =>
          obtain ⟨_, _, _, _, _, q⟩ := sp6
          exact q.elim
    | false =>
      show wpAny _ X.A (handleBy (.ref a) X.env []) _ _ _
      refine wpAny_handleBy_nil ?_
      obtain ⟨k1, k2, k3, oe, vs, T, oT, ts', he, hz, hd, h1, hr⟩ := id fl3
      unfold PySem.passOn
      refine wpAny_bind (wpAny_field he hd h1 ?_)
      rw [if_neg (show ¬ ((Value.ref T == Value.none) = true) from by simp)]
      have fin : wpAny (model X.prog X.w) X.A (setFlight (.ref a) X.env.frame) (fun _ z4 => wpAny (model X.prog X.w) X.A (throw (.ref a) : Sem Flow) (SP X pins D) X.xe z4) X.xe { z with heap := g3 } := by
        rw [hf]
        refine HandSPX.setFlight_upZ fl3 fun g4 hh4 up4 => wpAny_throw (tk _ _ ?_)
        exact ⟨a, B, zI, pins, σ1, H1, cls, d, rfl, J, nb, (up.trans up3).trans up4, .inr (.inr (by rw [hs]; exact hh4)), na, hos, ag, hno rfl⟩
      first
        | exact wpAny_bind (wpAny_pure (wpAny_bind fin))
        | exact wpAny_bind fin
  · cases f with
    | next =>
      obtain ⟨σ', H', J', q⟩ := sp1
      exact wpAny_execs_nil ⟨σ', H', J'.ofTry okX, q⟩
    | brk =>
      obtain ⟨σ', H', J', q⟩ := sp1
      exact ⟨σ', H', J'.ofTry okX, q⟩
    | cont =>
      obtain ⟨σ', H', J', q⟩ := sp1
      exact ⟨σ', H', J'.ofTry okX, q⟩
    | ret u =>
      obtain ⟨v, σ', H', J', r, q⟩ := sp1
      exact ⟨v, σ', H', J'.ofTry okX, r, q⟩
end
end Pu

namespace Pu
open PySem PySem.Spec PyProof.Rows L2 Lw
open Classical

/-! ### statements that may raise -/
inductive OutX where
  | ok (o : Out)
  | xc (ρ : Env) (C : Addr) (fs : List (Str × PyData))
abbrev MSX := Env → Mem → Option (OutX × Mem)
/-- an exception of a state of ours -/
def PostW (K : PySem.W.Frag) (W : WX) (α : List Addr) (G : Hp) (ρ : Env) (C : Addr) (fs : List (Str × PyData)) (M' : Mem) : Prop :=
  ∀ (α' : List Addr) (H' : Hp), Rp K α' M' H' → Ext α G α' (fzH α' M' H') → ∀ σ', ER K α' (fzH α' M' H') σ' ρ → ∀ od, XdR (fzH α' M' H') od fs → W (.ref C) od σ' H'
def PostX (K : PySem.W.Frag) (W : WX) (α : List Addr) (G : Hp) (o : OutX) (M' : Mem) (D : Ends) : Prop := match o with
  | .ok o => PostS K α G o M' D
  | .xc ρ C fs => PostW K W α G ρ C fs M'
theorem PostX.after {K : PySem.W.Frag} {W : WX} {α α1 : List Addr} {G G1 : Hp} {o : OutX} {M' : Mem} {D : Ends} (P : PostX K W α G o M' D) (x : Ext α G α1 G1) : PostX K W α1 G1 o M' D := by
  cases o with
  | ok o => exact PostS.after P x
  | xc ρ C fs => exact fun α' H' R y => P α' H' R (x.trans y)
/-- what a state must be, that the statement m does what D and W wish -/
def tX (K : PySem.W.Frag) (W : WX) (m : MSX) : TS := fun D σ H =>
  ∃ (α : List Addr) (ρ : Env) (M : Mem) (o : OutX) (M' : Mem), Rp K α M H ∧ ER K α (fzH α M H) σ ρ ∧ m ρ M = some (o, M') ∧ PostX K W α (fzH α M H) o M' D
structure QSX (X : Cx) (st : Stmt) (m : MSX) : Prop where
  run : ∀ W, Takes X W → PS X st (tX X.K W m)
structure QSsX (X : Cx) (sts : List Stmt) (m : MSX) : Prop where
  run : ∀ W, Takes X W → PSs X sts (tX X.K W m)
theorem PS.imp {X : Cx} {st : Stmt} {t u : TS} (h : PS X st t) (f : ∀ D σ H, u D σ H → t D σ H) : PS X st u := ⟨fun pins s σ H D I g => h.run pins s σ H D I (f D σ H g)⟩
theorem PSs.imp {X : Cx} {st : List Stmt} {t u : TS} (h : PSs X st t) (f : ∀ D σ H, u D σ H → t D σ H) : PSs X st u := ⟨fun pins s σ H D I g => h.run pins s σ H D I (f D σ H g)⟩
def sUp (m : MS) : MSX := fun ρ M => match m ρ M with
  | some (o, M1) => some (.ok o, M1)
  | none => none
def sSeqX (m n : MSX) : MSX := fun ρ M => match m ρ M with
  | some (.ok (.nx ρ1), M1) => n ρ1 M1
  | r => r
def sIfX (c : MT) (m n : MSX) : MSX := fun ρ M => match c ρ M with
  | some (true, M1) => m ρ M1
  | some (false, M1) => n ρ M1
  | none => none
theorem sUp_some {m : MS} {ρ : Env} {M : Mem} {o : OutX} {M' : Mem} (h : sUp m ρ M = some (o, M')) : ∃ o', o = .ok o' ∧ m ρ M = some (o', M') := by
  unfold sUp at h
  split at h
  · rename_i e
    cases h
    exact ⟨_, rfl, e⟩
  · cases h
section
variable {X : Cx} {st : Stmt} {rest a b : List Stmt} {m n : MSX} {p : MS} {c : Expr} {mc : MT} {pos : Pos}
theorem qsx_up (h : QS X st p) : QSX X st (sUp p) := by
  obtain ⟨t, h1, h2⟩ := h.ex
  refine ⟨fun W tk => PS.imp h1 fun D σ H ⟨α, ρ, M, o, M', R, er, e, P⟩ => ?_⟩
  obtain ⟨o', rfl, e'⟩ := sUp_some e
  exact h2 σ H α ρ M o' M' D R er e' P
theorem qssx_up {sts : List Stmt} (h : QSs X sts p) : QSsX X sts (sUp p) := by
  obtain ⟨t, h1, h2⟩ := h.ex
  refine ⟨fun W tk => PSs.imp h1 fun D σ H ⟨α, ρ, M, o, M', R, er, e, P⟩ => ?_⟩
  obtain ⟨o', rfl, e'⟩ := sUp_some e
  exact h2 σ H α ρ M o' M' D R er e' P
theorem qssx_one (h : QSX X st m) : QSsX X [st] m := ⟨fun W tk => pss_one (h.run W tk)⟩
theorem qssx_cons (h1 : QSX X st m) (h2 : QSsX X rest n) : QSsX X (st :: rest) (sSeqX m n) := by
  refine ⟨fun W tk => PSs.imp (pss_cons (h1.run W tk) (h2.run W tk)) fun D σ H ⟨α, ρ, M, o, M', R, er, e, P⟩ => ?_⟩
  unfold sSeqX at e
  split at e
  · rename_i ρ1 M1 e1
    refine ⟨α, ρ, M, _, M1, R, er, e1, fun α' H' R' x σ' er' => ?_⟩
    exact ⟨α', ρ1, M1, o, M', R', er', e, P.after x⟩
  · rename_i hne
    refine ⟨α, ρ, M, o, M', R, er, e, ?_⟩
    cases o with
    | xc ρ' C fs => exact P
    | ok o =>
      intro α' H' R' x
      have q := P α' H' R' x
      cases o with
      | nx ρ' => exact (hne _ _ e).elim
      | rt u => exact q
      | bk ρ' => exact q
      | ct ρ' => exact q
theorem qsx_if (hc : QT X c mc) (ha : QSsX X a m) (hb : QSsX X b n) : QSX X (.If c a b pos) (sIfX mc m n) := by
  obtain ⟨t, c1, c2⟩ := hc.ex
  refine ⟨fun W tk => PS.imp (ps_if c1 (ha.run W tk) (hb.run W tk)) fun D σ H ⟨α, ρ, M, o, M', R, er, e, P⟩ => ?_⟩
  unfold sIfX at e
  split at e
  · rename_i M1 e1
    refine c2 σ H α ρ M _ M1 _ R er e1 fun α' H' R' x => ?_
    rw [if_pos rfl]
    exact ⟨α', ρ, M1, o, M', R', er.ext x, e, P.after x⟩
  · rename_i M1 e1
    refine c2 σ H α ρ M _ M1 _ R er e1 fun α' H' R' x => ?_
    rw [if_neg (by decide)]
    exact ⟨α', ρ, M1, o, M', R', er.ext x, e, P.after x⟩
  · cases e
end

/-! ### try: body, except x as n: y = n -/
theorem ER.none {K : PySem.W.Frag} {α : List Addr} {G : Hp} {σ : L2.St} {ρ : Env} {i : Nat} (h : ER K α G σ ρ) : ER K α G (σ.set i none) (ρ.set i none) := by
  refine ⟨by rw [List.length_set, List.length_set]; exact h.1, fun j u e => ?_⟩
  by_cases z : i = j
  · subst z
    rw [List.getElem?_set] at e
    simp only [if_true] at e
    split at e <;> cases e
  · rw [List.getElem?_set_ne z] at e
    obtain ⟨v, q, r⟩ := h.2 j u e
    exact ⟨v, by rw [List.getElem?_set_ne z]; exact q, r⟩
noncomputable def sTryK (cs : List Addr) (i j : Nat) (m : MSX) : MS := fun ρ M => match m ρ M with
  | some (.ok o, M1) => some (o, M1)
  | some (.xc ρ1 C fs, M1) => if C ∈ cs then some (.nx (((ρ1.set i (some (.xc C fs))).set j (some (.xc C fs))).set i none), M1) else none
  | none => none
section
variable {X : Cx} {x n y : Str} {c : Value} {i j : Nat} {body : List Stmt} {st : Stmt} {np pos pos' : Pos} {m : MSX} {cs : List Addr}
theorem qs_tryK (hs : X.stack = X.env :: X.outer) (hf : X.env.frame = some X.env.locals) (hex : X.ex = []) (hN : X.N.Nodup) (hi : X.N[i]? = some n) (hln : X.env.kindOf n = some .local) (hc : Names X x c)
    (hcs : ∀ C ∈ cs, PySem.W.exmOne X.K (.ref C) c = some true)
    (hb : ∀ (qn : List (Addr × Obj)) (xe : Value → Shared → Prop), PassesOwn (model X.prog X.w) X.A X.env xe → QSsX (X.tr qn xe) body m)
    (hsu : ∀ (a : Addr) (oe : Obj) (qn : List (Addr × Obj)), PSs (X.suite a ((a, oe) :: qn)) [st] (tAsg (tVar i) (gName j))) :
    QS X (.Try body [.ExceptHandler (some (.Name x np)) (some n) [st] pos'] [] [] pos) (sTryK cs i j m) := by
  refine ⟨_, ps_try_keep (i := i) (j := j) (tb := fun W => tX X.K W m) (Wout := fun _ _ _ _ => False) hs hf hex hN hi hln hc takes0 (fun W qn xe tk hp => (hb qn xe hp).run W tk) hsu, ?_⟩
  intro σ H α ρ M o M' D R er e P
  unfold sTryK at e
  split at e
  · rename_i o1 M1 e1
    cases e
    exact ⟨α, ρ, M, _, _, R, er, e1, P⟩
  · rename_i ρ1 C fs M1 e1
    split at e
    · rename_i hC
      cases e
      refine ⟨α, ρ, M, _, _, R, er, e1, fun α' H' R' z σ' er' od xd => ⟨true, hcs C hC, fun _ => ⟨C, rfl, fun a na => ?_⟩, fun q => by cases q⟩⟩
      obtain ⟨R2, x2, g2⟩ := R'.newFix (o := XO a C od) na
      have r2 : VR X.K α' (fzH α' M' (upd H' a (XO a C od))) (.ref a) (.xc C fs) := .xc g2 (xd.same x2.same)
      exact P α' _ R2 (z.trans x2) _ ((((er'.ext x2).set r2).set r2).none)
    · cases e
  · cases e
end

/-! ### defs that may raise -/
inductive RX where
  | ok (u : U)
  | xc (C : Addr) (fs : List (Str × PyData))
abbrev FX := List U → Mem → Option (RX × Mem)
def PostE (K : PySem.W.Frag) (E : XK) (α : List Addr) (G : Hp) (C : Addr) (fs : List (Str × PyData)) (M' : Mem) : Prop :=
  ∀ (α' : List Addr) (H' : Hp), Rp K α' M' H' → Ext α G α' (fzH α' M' H') → ∀ od, XdR (fzH α' M' H') od fs → E (.ref C) od H'
def PostF (K : PySem.W.Frag) (E : XK) (α : List Addr) (G : Hp) (r : RX) (M' : Mem) (Q : VK) : Prop := match r with
  | .ok u => Post K α G u M' Q
  | .xc C fs => PostE K E α G C fs M'
def spX (K : PySem.W.Frag) (f : FX) : Sp := fun vs H Q E => ∃ (α : List Addr) (M : Mem) (us : List U) (r : RX) (M' : Mem), Rp K α M H ∧ VRs K α (fzH α M H) vs us ∧ f us M = some (r, M') ∧ PostF K E α (fzH α M H) r M' Q
def mkFnX (k n : Nat) (m : MSX) : FX := fun us M => if us.length = k then (match m (us.map some ++ List.replicate (n - k) none) M with
  | some (.ok (.rt u), M1) => some (.ok u, M1)
  | some (.ok (.nx _), M1) => some (.ok (.dat .none), M1)
  | some (.xc _ C fs, M1) => some (.xc C fs, M1)
  | _ => none) else none
section
variable {P : Program} {w : World} {K : PySem.W.Frag} {mg : Str → Option Value} {base : Heap}
theorem spx_len {k n : Nat} {m : MSX} {vs : List V} {H : Hp} {Q : VK} {E : XK} (hs : spX K (mkFnX k n m) vs H Q E) : vs.length = k := by
  obtain ⟨α, M, us, u, M', R, rv, e, _⟩ := hs
  unfold mkFnX at e
  split at e
  · rename_i hk
    rw [rv.length]
    exact hk
  · cases e
theorem bodyX_of {X : Cx} {N : List Str} {n k : Nat} {st : List Stmt} {m : MSX} {vs : List V} {H : Hp} {Q : VK} {E : XK} (hK : X.K = K) (hn : N.length = n) (h : QSsX X st m) (tk : Takes X (fun cls d _ H => E cls d H)) (hs : spX K (mkFnX k n m) vs H Q E) :
    ∃ t, PSs X st t ∧ t { nx := fun _ H' => Q .non H', rt := Q } (start N vs) H := by
  subst hK hn
  obtain ⟨α, M, us, r, M', R, rv, e, Pq⟩ := hs
  refine ⟨_, h.run _ tk, ?_⟩
  unfold mkFnX at e
  split at e
  · rename_i hk
    have er := er_start (N := N) hk rv
    split at e
    · rename_i u' M1 e1
      cases e
      exact ⟨α, _, M, _, _, R, er, e1, fun α' H' R' x v r => Pq v α' H' R' x r⟩
    · rename_i ρ' M1 e1
      cases e
      exact ⟨α, _, M, _, _, R, er, e1, fun α' H' R' x σ' _ => Pq .non α' H' R' x (.dat .non)⟩
    · rename_i ρ' C fs M1 e1
      cases e
      exact ⟨α, _, M, _, _, R, er, e1, fun α' H' R' x σ' _ od xd => Pq α' H' R' x od xd⟩
    · cases e
  · cases e
theorem fnx_ok {x qual : Str} {st : Stmt} {f : Addr} {fd : FuncData} {N ps : List Str} {k n np : Nat} {m : MSX} (F : Fun K x qual st f fd) (S : FnScope N ps (defScope st)) (hn : N.length = n) (hp : ps.length = np)
    (body : ∀ (cdv : Value) (A : Around) (outer : List PySem.Env) (s : Shared) (H : Hp) (E : XK), Room k (A.deeper (envOfC qual (defScope st) s.heap.objs.size f cdv)) →
      QSsX (cxOf (L2.CX P w) P w K mg base N qual (defScope st) f cdv A outer s H E) (defBody st) m) :
    FnOk P w K mg base (L2.CX P w) (k + 1) f fd ps (spX K (mkFnX np n m)) := by
  refine F.okX S (fun vs H Q E h => by rw [hp]; exact spx_len h) fun cdv A outer s H vs Q E hr h => ?_
  exact bodyX_of rfl hn (body cdv A outer s H E hr) (takes_of rfl rfl rfl rfl) h
end

/-! ### expressions that may raise -/
abbrev MEX := Env → Mem → Option (RX × Mem)
def PostV (K : PySem.W.Frag) (W : WX) (σ : L2.St) (α : List Addr) (G : Hp) (r : RX) (M' : Mem) (Q : VK) : Prop := PostF K (fun cls d H => W cls d σ H) α G r M' Q
structure QEX (X : Cx) (e : Expr) (m : MEX) : Prop where
  run : ∀ W, Takes X W → PE X e (fun σ H Q => ∃ (α : List Addr) (ρ : Env) (M : Mem) (r : RX) (M' : Mem), Rp X.K α M H ∧ ER X.K α (fzH α M H) σ ρ ∧ m ρ M = some (r, M') ∧ PostV X.K W σ α (fzH α M H) r M' Q)
theorem PE.imp {X : Cx} {e : Expr} {t u : TE} (h : PE X e t) (f : ∀ σ H Q, u σ H Q → t σ H Q) : PE X e u := ⟨fun pins s σ H D I g => h.run pins s σ H D I (f σ H D g)⟩
def eCX (f : FX) (m : MA) : MEX := fun ρ M => match m ρ M with
  | some (us, M1) => f us M1
  | none => none
def sSetX (i : Nat) (m : MEX) : MSX := fun ρ M => match m ρ M with
  | some (.ok u, M1) => some (.ok (.nx (ρ.set i (some u))), M1)
  | some (.xc C fs, M1) => some (.xc ρ C fs, M1)
  | none => none
section
variable {X : Cx} {e : Expr} {m : MEX} {pos pos' : Pos}
theorem qsx_set {i : Nat} {x : Str} (hN : X.N.Nodup) (hi : X.N[i]? = some x) (hx : Loc X.env.scope x) (h : QEX X e m) (hs : swapsWith e (some (.Name x pos')) pos.line X.env = pure false := by rfl) (hf : X.fn x = true ∨ X.env.scope.names.lookup x = some .local := by first | exact .inl rfl | exact .inr rfl | assumption) :
    QSX X (.Assign [.Name x pos'] e pos) (sSetX i m) := by
  refine ⟨fun W tk => PS.imp (ps_set hN hi hx (h.run W tk) hs hf) fun D σ H ⟨α, ρ, M, o, M', R, er, e, P⟩ => ?_⟩
  unfold sSetX at e
  split at e
  · rename_i u M1 e1
    cases e
    exact ⟨α, ρ, M, _, _, R, er, e1, fun v α' H' R' x r => P α' H' R' x _ ((er.ext x).set r)⟩
  · rename_i C fs M1 e1
    cases e
    exact ⟨α, ρ, M, _, _, R, er, e1, fun α' H' R' x od xd => P α' H' R' x σ (er.ext x) od xd⟩
  · cases e
/-- f(e, ..) of a def that may raise -/
theorem qex_call {k : Nat} {g : Addr} {fd : FuncData} {ps : List Str} {f : FX} {x : Str} {p : Pos} {a : Expr} {es : List Expr} {ma : MA} (F : FnOk X.prog X.w X.K X.mg X.base (L2.CX X.prog X.w) k g fd ps (spX X.K f)) (hr : Room k X.A) (hg : Gl X x) (hm : X.mg x = some (.ref g))
    (hk : PySem.W.keepIn X.K (.ref g) = true) (hb : Binds X.K fd ps []) (ha : QA X (a :: es) ma) (hdb : (x == ("__debug__" : Str)) = false := by decide) (he : starEach (a :: es) X.env = (false, eval a X.env) :: starEach es X.env := by rfl) (hpl : (backTo pos (starEach es X.env)).any (·.1) = false := by rfl) :
    QEX X (.Call (.Name x p) (a :: es) [] pos) (eCX f ma) := by
  obtain ⟨t, h3, h4⟩ := ha.ex
  refine ⟨fun W tk => PE.imp (pe_callS F hr hg hm hk hb (fun σ => passAt tk σ) h3 hdb he hpl) fun σ H Q ⟨α, ρ, M, r, M', R, er, e, P⟩ => ?_⟩
  unfold eCX at e
  split at e
  · rename_i us M1 e1
    refine h4 σ H α ρ M us M1 _ R er e1 fun vs α' H' R' z rv => ⟨α', M1, us, r, M', R', rv, e, ?_⟩
    cases r with
    | ok u => exact Post.after P z
    | xc C fs => exact fun α2 H2 R2 y od xd => P α2 H2 R2 (z.trans y) od xd
  · cases e
end
end Pu

namespace Pu
open PySem PySem.Spec PyProof.Rows L2 Lw
open Classical

/-! ### raise C(e), C with an __init__ that keeps e as its field f -/
def spI1 (C : Addr) (f : Str) : Sp := fun vs H Q _ => ∃ (a : Addr) (v : V), vs = [.ref a, v] ∧ H a = some (exo a C none) ∧ ∀ dx, H dx = none → dx ≠ a → Q .non (upd (upd H dx (exd dx [(f, v)])) a (exo a C (some dx)))
theorem init1_ok {P : Program} {w : World} {K : PySem.W.Frag} {mg : Str → Option Value} {base : Heap} {qual p : Str} {st : Stmt} {g C : Addr} {fd : FuncData} {f : Str} (F : Fun K "__init__" qual st g fd) (S : FnScope ["self", p] ["self", p] (defScope st)) (T : OexC K C)
    (hno : PySem.W.findIn K (.ref C) f = some none)
    (body : ∀ (cdv : Value) (A : Around) (outer : List PySem.Env) (s : Shared) (H : Hp) (E : XK), PSs (cxOf CX0 P w K mg base ["self", p] qual (defScope st) g cdv A outer s H E).nox (defBody st) (tOst K f (tVar 0) (tVar 1))) : FnOk P w K mg base CX0 1 g fd ["self", p] (spI1 C f) := by
  refine F.ok (k := 0) S (fun vs H Q E h => ?_) fun cdv A outer s H vs Q E hr h => ⟨_, body cdv A outer s H E, ?_⟩
  · obtain ⟨a, v, rfl, _⟩ := h
    rfl
  · obtain ⟨a, v, rfl, ha, q⟩ := h
    exact ⟨v, rfl, .ref a, rfl, a, C, rfl, T, hno, .inl ⟨ha, fun dx n ne => q dx n ne⟩⟩
theorem del_made {H : Hp} {a d : Addr} {o1 o2 o3 u : HO} (hn : H a = none) (hd : d ≠ a) : upd (del (upd (upd (upd H a o1) d o2) a o3) a) d u = upd H d u := by
  funext b
  by_cases h1 : b = d
  · subst h1
    rw [upd_same, upd_same]
  · rw [upd_ne h1, upd_ne h1]
    by_cases h2 : b = a
    · subst h2
      rw [del_same, hn]
    · rw [del_ne h2, upd_ne h2, upd_ne h1, upd_ne h2]
def sRaise (C : Addr) (f : Str) (me : ME) : MSX := fun ρ M => match me ρ M with
  | some (.dat d, M1) => some (.xc ρ C [(f, d)], M1)
  | _ => none
theorem sim_cons1 {K : PySem.W.Frag} {t : TA} {me : ME} (ha : SimA K t (aCons me aNil)) {σ : L2.St} {H : Hp} {α : List Addr} {ρ : Env} {M : Mem} {u : U} {M' : Mem} {Q : List V → Hp → Prop} (R : Rp K α M H) (er : ER K α (fzH α M H) σ ρ) (e : me ρ M = some (u, M'))
    (h : ∀ v α' H', Rp K α' M' H' → Ext α (fzH α M H) α' (fzH α' M' H') → VR K α' (fzH α' M' H') v u → Q [v] H') : t σ H Q := by
  refine ha σ H α ρ M [u] M' Q R er (by unfold aCons aNil; rw [e]) fun vs α' H' R' x r => ?_
  obtain ⟨v, rfl, rv⟩ := vrs1 r
  exact h v α' H' R' x rv
section
variable {X : Cx} {e o : Expr} {me mo : ME} {p p2 pos pos2 : Pos} {x f : Str} {C g : Addr} {fd : FuncData} {ps : List Str} {k : Nat}
theorem qsx_raise1 (hc : X.calm = true) (T : OexC X.K C) (iC : PySem.W.findIn X.K (.ref C) "__init__" = some (some (.ref g))) (tI : PySem.W.typeIn X.K (.ref g) = some (.type "function"))
    (F : FnOk X.prog X.w X.K X.mg X.base CX0 k g fd ps (spI1 C f)) (hr : Room (k + 1) X.A) (hb : Binds X.K fd ps []) (hg : Gl X x) (hm : X.mg x = some (.ref C)) (he : QE X e me)
    (hdb : (x == ("__debug__" : Str)) = false := by decide) (hs : starEach (e :: []) X.env = (false, eval e X.env) :: starEach [] X.env := by rfl) (hpl : (backTo pos (starEach [] X.env)).any (·.1) = false := by rfl) :
    QSX X (.Raise (some (.Call (.Name x p) [e] [] pos)) none pos2) (sRaise C f me) := by
  obtain ⟨t, h3, h4⟩ := (qa_cons he qa_nil hs).ex
  refine ⟨fun W tk => PS.imp (ps_raise hc tk (pmk_oex (dvs := []) T iC tI F hr hb .nil pass0 hg hm h3 hdb hs hpl)) fun D σ H ⟨α, ρ, M, o, M', R, er, e, P⟩ => ?_⟩
  unfold sRaise at e
  split at e
  · rename_i d M1 e1
    cases e
    refine sim_cons1 h4 R er e1 fun v α' H' R' z rv => ⟨by show 1 ≤ 1000; omega, fun a na => ⟨a, v, rfl, upd_same, fun dx n ne => ?_⟩⟩
    have nd : H' dx = none := by rw [upd_ne ne] at n; exact n
    refine ⟨rfl, dx, [(f, v)], upd_same, by rw [upd_ne ne, upd_same], nd, ?_⟩
    rw [del_made na ne]
    obtain ⟨R2, x2, g2⟩ := R'.newFix (o := .xd [(f, v)]) nd
    cases rv with
    | dat dv => exact P α' _ R2 (z.trans x2) σ (er.ext (z.trans x2)) (some dx) (.inr ⟨dx, [(f, v)], rfl, g2, rfl, .cons (dv.same x2.same) .nil⟩)
  · cases e
/-- e.f, e an exception -/
noncomputable def eXf (cs : List Addr) (f : Str) (me : ME) : ME := fun ρ M => match me ρ M with
  | some (.xc C fs, M1) => if C ∈ cs then (match fs.lookup f with
    | some d => some (.dat d, M1)
    | none => none) else none
  | _ => none
theorem DA.look {G : Hp} {f : Str} {d : PyData} : ∀ {xs : List (Str × V)} {fs : List (Str × PyData)}, xs.map (·.1) = fs.map (·.1) → DA true G (xs.map (·.2)) (fs.map (·.2)) → fs.lookup f = some d → ∃ v, xs.lookup f = some v ∧ D true G v d
  | [], [], _, _, h => by cases h
  | [], _ :: _, h, _, _ => by cases h
  | _ :: _, [], h, _, _ => by cases h
  | (a, v) :: xs, (b, e) :: fs, h, hd, hl => by
    obtain ⟨h1, h2⟩ := List.cons.inj h
    have h1' : a = b := h1
    subst h1'
    cases hd with
    | cons h3 h4 =>
      rw [List.lookup_cons] at hl ⊢
      split at hl
      · rename_i hq
        cases hl
        exact ⟨v, rfl, h3⟩
      · rename_i hq
        obtain ⟨w, k1, k2⟩ := DA.look h2 h4 hl
        exact ⟨w, k1, k2⟩
theorem qe_xf {cs : List Addr} (hcs : ∀ C ∈ cs, XfC X.K C ∧ PySem.W.findIn X.K (.ref C) f = some none) (he : QE X e me) (hb : attributeBase e f X.env (eval e X.env) = eval e X.env := by rfl) : QE X (.Attribute e f pos) (eXf cs f me) := by
  obtain ⟨t, h1, h2⟩ := he.ex
  refine ⟨fun σ H Q => t σ H fun x H1 => ∃ (a C dd : Addr) (fs : List (Str × V)) (v : V), x = .ref a ∧ C ∈ cs ∧ H1 a = some (XO a C (some dd)) ∧ H1 dd = some (.xd fs) ∧ fs.lookup f = some v ∧ Q v H1, ⟨fun pins s σ H Q I h => ?_⟩, ?_⟩
  · refine attr_of hb (thn (h1.run pins s σ H _ I h) fun u s1 hh => ?_)
    obtain ⟨x, H1, I1, rx, a, C, dd, fs, v, ex, hC, ha, hd, hl, q⟩ := hh
    subst ex
    obtain rfl : u = Value.ref a := rx
    obtain ⟨T, hno⟩ := hcs C hC
    obtain ⟨⟨oe, vs, e1, hz, e2⟩, _, _⟩ := (show ObjOk X.prog X.w H1 s1.heap a (XO a C (some dd)) from I1.hok a _ ha)
    have hx : ObjOk X.prog X.w H1 s1.heap dd (.xd fs) := I1.hok dd _ hd
    obtain ⟨mA, hns, hr⟩ := hx
    obtain ⟨od, ho, hk⟩ := lookIn_ns hns
    obtain ⟨w, hw, rw'⟩ := RelO.some_of (v := v) (o := mA f) (by rw [← hl]; exact hr f)
    have J : PySem.W.InstAt s1.heap a oe C (some od) := ⟨e1, hz.1, by unfold PySem.W.notCls; rw [e2] <;> rfl, by rw [hz.2]; exact ho⟩
    exact HandSPX.exc_get I1.kIn J T.ga T.gg T.exC (PySem.W.findObj_own T.hdC hno rfl (by rw [hk, hw])) (handed_of rw') ⟨v, H1, I1.tok _, rw', q⟩
  · intro σ H α ρ M u M' Q R er e P
    unfold eXf at e
    split at e
    · rename_i C fs M1 e1
      split at e
      · rename_i hC
        split at e
        · rename_i d e3
          cases e
          refine h2 σ H α ρ M _ _ _ R er e1 fun v α' H' R' z rv => ?_
          cases rv with
          | xc g1 xd =>
            rcases xd with ⟨_, rfl⟩ | ⟨dx, xs, rfl, k1, k2, k3⟩
            · cases e3
            · obtain ⟨w, l1, l2⟩ := DA.look k2 k3 e3
              exact ⟨_, C, dx, xs, w, rfl, hC, fzH_le _ _ g1, fzH_le _ _ k1, l1, P w α' H' R' z (.dat l2)⟩
        · cases e
      · cases e
    · cases e
end
end Pu

namespace Pu
open PySem PySem.Spec PyProof.Rows L2 Lw
open Classical

/-! ### isinstance(e, C) with a class of the program, or of an exception -/
structure KitC (K : PySem.W.Frag) (C : Addr) : Prop where
  cl : (PySem.W.clsIn K C).isSome = true
  ga : PySem.W.findIn K (.ref C) "__getattribute__" = some (some (.builtin "BaseException.__getattribute__"))
  gt : PySem.W.findIn K (.ref C) "__getattr__" = some none
  ex : PySem.W.subIn K (.ref C) (.type "BaseException") = some true
  ca : PySem.W.findIn K (.ref C) "__class__" = some (some (.builtin "object.__class__"))
  cg : PySem.W.specialIn K (.builtin "object.__class__") "__get__" = some (some (.builtin "getset_descriptor.__get__"))
  ct : PySem.W.takesIn K (.builtin "object.__class__") = some true
  mo : PySem.W.mroIn K C (.type "object") = some true
structure KitOk (K : PySem.W.Frag) (tab : Value → Value → Option Bool) : Prop where
  ok : ∀ t c b, tab t c = some b → PySem.W.kitOne K t c = some b ∧ ∀ C, t = .ref C → KitC K C
def clsU : U → Option Value
  | .adr D => some (.ref D)
  | .ty n => some (.type n)
  | _ => none
def isX (tab : Value → Value → Option Bool) : FA := fun us M => match us with
  | [.xc C _, c] => (match clsU c with
    | some k => (tab (.ref C) k).map fun b => (.dat (.bool b), M)
    | none => none)
  | [.dat d, c] => (match clsU c with
    | some k => (tab (.type (tyD d)) k).map fun b => (.dat (.bool b), M)
    | none => none)
  | _ => none
theorem clsU_ok {K : PySem.W.Frag} {α : List Addr} {G : Hp} {v : V} {u : U} {k : Value} (r : VR K α G v u) (h : clsU u = some k) : ClsV v k := by
  cases r with
  | adr a => cases h; exact .own a
  | ty n => cases h; exact .ty n
  | _ => cases h
section
variable {X : Cx} {tab : Value → Value → Option Bool}
theorem q_isX (T : KitOk X.K tab) : QC X (.builtin "isinstance") (isX tab) := by
  refine ⟨fun xs H Q => ∃ (x c : V) (k : Value) (b : Bool), xs = [x, c] ∧ ClsV c k ∧ Q (.bl b) H ∧
    ((∃ (a C : Addr) (od : Option Addr), x = .ref a ∧ H a = some (XO a C od) ∧ (∀ dx, od = some dx → ∃ fs, H dx = some (.xd fs)) ∧ tab (.ref C) k = some b) ∨ ∃ t, TyX X.K H x t ∧ tab t k = some b), ?_, fun H α M xs us u M' Q R rx e P => ?_⟩
  · intro pins s σ H xs us Q I r h
    obtain ⟨x, c, k, b, rfl, hk, q, h⟩ := h
    obtain ⟨u1, u2, rfl, r1, r2⟩ := vals2 r
    have e2 := hk.eq r2
    subst e2
    rcases h with ⟨a, C, od, rfl, ha, hd, ht⟩ | ⟨t, ty, ht⟩
    · cases (show u1 = Value.ref a from r1)
      obtain ⟨h1, h2⟩ := T.ok _ _ _ ht
      have kc := h2 C rfl
      obtain ⟨⟨oe, vs, e1, hz, e2⟩, _, _⟩ := (show ObjOk X.prog X.w H s.heap a (XO a C od) from I.hok a _ ha)
      cases od with
      | none =>
        have J : PySem.W.InstAt s.heap a oe C none := ⟨e1, hz.1, by unfold PySem.W.notCls; rw [e2] <;> rfl, by rw [hz.2]; trivial⟩
        exact PySem.W.kia_one (PySem.W.kitx_exc kc.cl kc.ga kc.gt kc.ex kc.ca kc.cg kc.ct kc.mo) I.kIn J h1 (fun z => nomatch z) fun tk => ⟨.bl b, H, I.tok tk, rfl, q⟩
      | some dx =>
        obtain ⟨fs, hd⟩ := hd dx rfl
        obtain ⟨mA, hns, _⟩ := (show ObjOk X.prog X.w H s.heap dx (.xd fs) from I.hok dx _ hd)
        obtain ⟨o, ho, _⟩ := lookIn_ns hns
        have J : PySem.W.InstAt s.heap a oe C (some o) := ⟨e1, hz.1, by unfold PySem.W.notCls; rw [e2] <;> rfl, by rw [hz.2]; exact ho⟩
        exact PySem.W.kia_one (PySem.W.kitx_exc kc.cl kc.ga kc.gt kc.ex kc.ca kc.cg kc.ct kc.mo) I.kIn J h1 (fun z => nomatch z) fun tk => ⟨.bl b, H, I.tok tk, rfl, q⟩
    · obtain ⟨h1, _⟩ := T.ok _ _ _ ht
      obtain ⟨P, Z, p, hx⟩ := kit_of I r1 ty
      exact PySem.W.kia_one Z I.kIn p h1 hx fun tk => ⟨.bl b, H, I.tok tk, rfl, q⟩
  · unfold isX at e
    split at e
    · rename_i C fs c
      split at e
      · rename_i k hk
        obtain ⟨b, e2, e3⟩ := Option.map_eq_some_iff.mp e
        cases e3
        obtain ⟨x, cv, rfl, rv, rc⟩ := vrs2 rx
        cases rv with
        | xc g1 xd =>
          refine ⟨_, cv, k, b, rfl, clsU_ok rc hk, P.here R (.dat (.bl _)), .inl ⟨_, C, _, rfl, fzH_le _ _ g1, fun dx q => ?_, e2⟩⟩
          subst q
          rcases xd with ⟨q, _⟩ | ⟨dy, xs, q, k1, _⟩
          · cases q
          · cases q
            exact ⟨xs, fzH_le _ _ k1⟩
      · cases e
    · rename_i d c
      split at e
      · rename_i k hk
        obtain ⟨b, e2, e3⟩ := Option.map_eq_some_iff.mp e
        cases e3
        obtain ⟨x, cv, rfl, rv, rc⟩ := vrs2 rx
        exact ⟨x, cv, k, b, rfl, clsU_ok rc hk, P.here R (.dat (.bl _)), .inr ⟨_, tyOf_ok R rv rfl, e2⟩⟩
      · cases e
    · cases e
end
end Pu

namespace Pu
open PySem PySem.Spec PyProof.Rows L2 Lw
open Classical

/-! ### the same over values -/
def ORX (S S' B T γ' : List Nat) (M M' : Mem) (ρ : Env) : OutX → OutX → Prop
  | .ok o, .ok o' => OR S S' B γ' M M' ρ o o'
  | .xc ρv' C fs, .xc ρ' D gs => (C = D ∧ fs = gs) ∧ OR S T T γ' M M' ρ (.nx ρv') (.nx ρ')
  | _, _ => False
structure VSX (S S' B T : List Nat) (m v : MSX) : Prop where
  run : ∀ (γ : List Nat) (ρ ρv : Env) (M Mv : Mem) (o : OutX) (Mv' : Mem), SR γ Mv M → EV S γ M ρv ρ → v ρv Mv = some (o, Mv') →
    ∃ γ' o' M', m ρ M = some (o', M') ∧ SR γ' Mv' M' ∧ FrS S ρ γ γ' M M' ∧ ORX S S' B T γ' M M' ρ o o'
def RR (γ : List Nat) (M : Mem) : RX → RX → Prop
  | .ok r, .ok u => UR γ M r u
  | .xc C fs, .xc D gs => C = D ∧ fs = gs
  | _, _ => False
structure VEX (S : List Nat) (m v : MEX) : Prop where
  run : ∀ (γ : List Nat) (ρ ρv : Env) (M Mv : Mem) (r : RX) (Mv' : Mem), SR γ Mv M → EV S γ M ρv ρ → v ρv Mv = some (r, Mv') →
    ∃ γ' u M', m ρ M = some (u, M') ∧ SR γ' Mv' M' ∧ RR γ' M' r u ∧ Fx γ γ' M M' ∧ ∀ z, u = .ok z → Pr S γ' ρv ρ M z
structure VFX (f g : FX) : Prop where
  run : ∀ (γ : List Nat) (Mv M : Mem) (vs us : List U) (r : RX) (Mv' : Mem), SR γ Mv M → URs γ M vs us → g vs Mv = some (r, Mv') →
    ∃ γ' u M', f us M = some (u, M') ∧ SR γ' Mv' M' ∧ RR γ' M' r u ∧ Fx γ γ' M M' ∧ ∀ c, u = .ok (.cell c) → c ∉ γ' → M.length ≤ c ∨ U.cell c ∈ us
theorem OR.trans {S S1 S' B γ1 γ2 : List Nat} {M N1 N2 : Mem} {ρ ρ2 : Env} {o o2 : Out} (r : OR S1 S' B γ2 N1 N2 ρ2 o o2) (ow : Ow S S1 ρ ρ2 M) (pz : Pz γ1 ρ ρ2 M) (l : M.length ≤ N1.length) (sb : ∀ c, c ∈ γ1 → c ∈ γ2) : OR S S' B γ2 M N2 ρ o o2 := by
  cases o with
  | rt r1 =>
    cases o2 with
    | rt u =>
      refine ⟨r.1, fun c hc n => ?_⟩
      rcases r.2 c hc n with h | ⟨j, h⟩
      · exact .inl (Nat.le_trans l h)
      · exact pz j c h fun z => n (sb c z)
    | _ => exact False.elim r
  | nx _ =>
    cases o2 with
    | nx _ => exact ⟨r.1, ow.trans r.2.1 l, pz.trans r.2.2 l sb⟩
    | _ => exact False.elim r
  | bk _ =>
    cases o2 with
    | bk _ => exact ⟨r.1, ow.trans r.2.1 l, pz.trans r.2.2 l sb⟩
    | _ => exact False.elim r
  | ct _ =>
    cases o2 with
    | ct _ => exact ⟨r.1, ow.trans r.2.1 l, pz.trans r.2.2 l sb⟩
    | _ => exact False.elim r
theorem ORX.trans {S S1 S' B T γ1 γ2 : List Nat} {M N1 N2 : Mem} {ρ ρ2 : Env} {o o2 : OutX} (r : ORX S1 S' B T γ2 N1 N2 ρ2 o o2) (ow : Ow S S1 ρ ρ2 M) (pz : Pz γ1 ρ ρ2 M) (l : M.length ≤ N1.length) (sb : ∀ c, c ∈ γ1 → c ∈ γ2) : ORX S S' B T γ2 M N2 ρ o o2 := by
  cases o with
  | ok o =>
    cases o2 with
    | ok o2 => exact OR.trans r ow pz l sb
    | xc _ _ _ => exact False.elim r
  | xc _ _ _ =>
    cases o2 with
    | ok o2 => exact False.elim r
    | xc _ _ _ => exact ⟨r.1, OR.trans r.2 ow pz l sb⟩
section
variable {S S' B T : List Nat} {ma va : ME} {m v m2 v2 : MSX} {p q : MS} {mt vt : MT} {mx vx : MEX}
theorem vsx_up (h : VS S S' B p q) : VSX S S' B T (sUp p) (sUp q) := ⟨fun γ ρ ρv M Mv o Mv' s ev e => by
  obtain ⟨o', rfl, e'⟩ := sUp_some e
  obtain ⟨γ1, o1, N1, q1, s1, x1, r1⟩ := h.run γ ρ ρv M Mv _ _ s ev e'
  exact ⟨γ1, .ok o1, N1, by unfold sUp; rw [q1], s1, x1, r1⟩⟩
theorem vsx_seq {S1 : List Nat} (h1 : VSX S S1 B T m v) (h2 : VSX S1 S' B T m2 v2) : VSX S S' B T (sSeqX m m2) (sSeqX v v2) := ⟨fun γ ρ ρv M Mv o Mv' s ev e => by
  unfold sSeqX at e
  split at e
  · rename_i ρ1 M1 e1
    obtain ⟨γ1, o1, N1, q1, s1, x1, r1⟩ := h1.run γ ρ ρv M Mv _ _ s ev e1
    cases o1 with
    | xc _ _ _ => exact False.elim r1
    | ok o1 =>
      cases o1 with
      | nx ρ2 =>
        obtain ⟨ev1, ow1, pz1⟩ := r1
        obtain ⟨γ2, o2, N2, q2, s2, x2, r2⟩ := h2.run γ1 ρ2 ρ1 N1 M1 _ _ s1 ev1 e
        exact ⟨γ2, o2, N2, by unfold sSeqX; rw [q1]; exact q2, s2, x1.trans ow1 x2, ORX.trans r2 ow1 pz1 x1.len x2.sub⟩
      | _ => exact False.elim r1
  · rename_i hne
    obtain ⟨γ1, o1, N1, q1, s1, x1, r1⟩ := h1.run γ ρ ρv M Mv _ _ s ev e
    refine ⟨γ1, o1, N1, ?_, s1, x1, ?_⟩
    · unfold sSeqX
      rw [q1]
      cases o with
      | xc _ _ _ => cases o1 <;> first | rfl | exact False.elim r1
      | ok o =>
        cases o1 with
        | xc _ _ _ => exact False.elim r1
        | ok o1 =>
          cases o with
          | nx ρv' => exact (hne _ _ e).elim
          | bk _ => cases o1 <;> first | rfl | exact False.elim r1
          | ct _ => cases o1 <;> first | rfl | exact False.elim r1
          | rt _ => cases o1 <;> first | rfl | exact False.elim r1
    · cases o with
      | xc _ _ _ =>
        cases o1 with
        | ok _ => exact False.elim r1
        | xc _ _ _ => exact r1
      | ok o =>
        cases o1 with
        | xc _ _ _ => exact False.elim r1
        | ok o1 =>
          cases o with
          | nx ρv' => exact (hne _ _ e).elim
          | bk _ => cases o1 <;> first | exact r1 | exact False.elim r1
          | ct _ => cases o1 <;> first | exact r1 | exact False.elim r1
          | rt _ => cases o1 <;> first | exact r1 | exact False.elim r1⟩
theorem vsx_if (hc : VT mt vt) (h1 : VSX S S' B T m v) (h2 : VSX S S' B T m2 v2) : VSX S S' B T (sIfX mt m m2) (sIfX vt v v2) := ⟨fun γ ρ ρv M Mv o Mv' s ev e => by
  have fin : ∀ {γ1 : List Nat} {N1 : Mem} {γ2 : List Nat} {N2 : Mem} {o' : OutX}, Fx γ γ1 M N1 → FrS S ρ γ1 γ2 N1 N2 → ORX S S' B T γ2 N1 N2 ρ o o' → FrS S ρ γ γ2 M N2 ∧ ORX S S' B T γ2 M N2 ρ o o' := by
    intro γ1 N1 γ2 N2 o' x y r
    exact ⟨x.s.trans (.self fun _ z => z) y, ORX.trans (γ1 := γ1) r (.self fun _ z => z) .self x.len y.sub⟩
  unfold sIfX at e
  split at e
  · rename_i M1 e1
    obtain ⟨γ1, N1, q1, s1, x1⟩ := hc.run γ ρ ρv M Mv _ M1 s ev.nil e1
    obtain ⟨γ2, o2, N2, q2, s2, x2, r2⟩ := h1.run γ1 ρ ρv N1 M1 o Mv' s1 (ev.ext x1) e
    obtain ⟨a, b⟩ := fin x1 x2 r2
    exact ⟨γ2, o2, N2, by unfold sIfX; rw [q1]; exact q2, s2, a, b⟩
  · rename_i M1 e1
    obtain ⟨γ1, N1, q1, s1, x1⟩ := hc.run γ ρ ρv M Mv _ M1 s ev.nil e1
    obtain ⟨γ2, o2, N2, q2, s2, x2, r2⟩ := h2.run γ1 ρ ρv N1 M1 o Mv' s1 (ev.ext x1) e
    obtain ⟨a, b⟩ := fin x1 x2 r2
    exact ⟨γ2, o2, N2, by unfold sIfX; rw [q1]; exact q2, s2, a, b⟩
  · cases e⟩
theorem vsx_raise {C : Addr} {f : Str} (h : VJ [] ma va) (hs : ∀ j ∈ T, j ∈ S := by decide) : VSX S S' B T (sRaise C f ma) (sRaise C f va) := ⟨fun γ ρ ρv M Mv o Mv' s ev e => by
  unfold sRaise at e
  split at e
  · rename_i d M1 e1
    cases e
    obtain ⟨γ1, u1, N1, q1, s1, r1, x1, p1⟩ := h.run γ ρ ρv M Mv _ _ s ev.nil e1
    obtain rfl := ur_dat r1
    exact ⟨γ1, .xc ρ C [(f, d)], N1, by unfold sRaise; rw [q1], s1, x1.s, ⟨rfl, rfl⟩, (ev.ext x1).weak hs, .self hs, .self⟩
  · cases e⟩
theorem vsx_set {i : Nat} (h : VEX S mx vx) (hs : ∀ j ∈ S', j ∈ S ∧ j ≠ i := by decide) (ht : ∀ i ∈ T, i ∈ S := by decide) : VSX S S' B T (sSetX i mx) (sSetX i vx) := ⟨fun γ ρ ρv M Mv o Mv' s ev e => by
  unfold sSetX at e
  split at e
  · rename_i u M1 e1
    cases e
    obtain ⟨γ1, u1, N1, q1, s1, r1, x1, p1⟩ := h.run γ ρ ρv M Mv _ _ s ev e1
    cases u1 with
    | xc _ _ => exact False.elim r1
    | ok u1 =>
      have p1 := p1 u1 rfl
      have ev1 := (ev.ext x1).weak fun j hj => (hs j hj).1
      refine ⟨γ1, .ok (.nx (ρ.set i (some u1))), N1, by unfold sSetX; rw [q1], s1, x1.s, ev1.set r1 (fun z => (hs i z).2 rfl) (fun c hc n j hj => pr_own ev (Nat.le_refl _) p1 hc n j (hs j hj).1), fun j hj c e => ?_, pz_set p1⟩
      rw [List.getElem?_set_ne (Ne.symm (hs j hj).2)] at e
      exact .inr ⟨j, (hs j hj).1, e⟩
  · rename_i C fs M1 e1
    cases e
    obtain ⟨γ1, u1, N1, q1, s1, r1, x1, p1⟩ := h.run γ ρ ρv M Mv _ _ s ev e1
    cases u1 with
    | ok u1 => exact False.elim r1
    | xc D gs =>
      obtain ⟨rfl, rfl⟩ := r1
      exact ⟨γ1, .xc ρ C fs, N1, by unfold sSetX; rw [q1], s1, x1.s, ⟨rfl, rfl⟩, (ev.ext x1).weak ht, .self ht, .self⟩
  · cases e⟩
theorem EV.unset {γ : List Nat} {M : Mem} {ρv ρ : Env} {i : Nat} (h : EV S γ M ρv ρ) (hi : i ∉ S) : EV S γ M (ρv.set i none) (ρ.set i none) := by
  refine ⟨by rw [List.length_set, List.length_set]; exact h.len, fun j w e => ?_, fun j hj => ?_⟩
  · by_cases z : i = j
    · subst z
      rw [List.getElem?_set] at e
      simp only [if_true] at e
      split at e <;> cases e
    · rw [List.getElem?_set_ne z] at e
      obtain ⟨u, h1, h2⟩ := h.ok j w e
      exact ⟨u, by rw [List.getElem?_set_ne z]; exact h1, h2⟩
  · have z : i ≠ j := fun z => hi (z ▸ hj)
    obtain ⟨c, f, ds, h1, h2, h3, h4, h5⟩ := h.own j hj
    refine ⟨c, f, ds, by rw [List.getElem?_set_ne z]; exact h1, by rw [List.getElem?_set_ne z]; exact h2, h3, h4, fun k w hk hw e => ?_⟩
    by_cases zk : i = k
    · subst zk
      rw [List.getElem?_set] at hw
      simp only [if_true] at hw
      split at hw <;> cases hw
    · rw [List.getElem?_set_ne zk] at hw e
      exact h5 k w hk hw e
theorem vs_tryK {cs : List Addr} {i j : Nat} (h : VSX S S' B S' m v) (hi : i ∉ S' := by decide) (hj : j ∉ S' := by decide) : VS S S' B (sTryK cs i j m) (sTryK cs i j v) := ⟨fun γ ρ ρv M Mv o Mv' s ev e => by
  unfold sTryK at e
  split at e
  · rename_i o1 M1 e1
    cases e
    obtain ⟨γ1, o2, N1, q1, s1, x1, r1⟩ := h.run γ ρ ρv M Mv _ _ s ev e1
    cases o2 with
    | xc _ _ _ => exact False.elim r1
    | ok o2 => exact ⟨γ1, o2, N1, by unfold sTryK; rw [q1], s1, x1, r1⟩
  · rename_i ρ1 C fs M1 e1
    split at e
    · rename_i hC
      cases e
      obtain ⟨γ1, o2, N1, q1, s1, x1, r1⟩ := h.run γ ρ ρv M Mv _ _ s ev e1
      cases o2 with
      | ok _ => exact False.elim r1
      | xc ρ2 D gs =>
        obtain ⟨⟨rfl, rfl⟩, ev1, ow1, pz1⟩ := r1
        have no : ∀ (b : Nat), U.xc C fs ≠ U.cell b := fun b z => by cases z
        have a1 := ev1.set (i := i) (.of (.xc C fs)) hi (fun c hc => absurd hc (no c))
        have a2 := a1.set (i := j) (.of (.xc C fs)) hj (fun c hc => absurd hc (no c))
        have a3 := a2.unset hi
        have back : ∀ (k c : Nat), (((ρ2.set i (some (.xc C fs))).set j (some (.xc C fs))).set i none)[k]? = some (some (U.cell c)) → ρ2[k]? = some (some (U.cell c)) := fun k c e => by
          by_cases z : i = k
          · subst z
            rw [List.getElem?_set] at e
            simp only [if_true] at e
            split at e <;> cases e
          · rw [List.getElem?_set_ne z] at e
            rcases set_some e with ⟨_, e2⟩ | ⟨_, e⟩
            · cases e2
            · rwa [List.getElem?_set_ne z] at e
        refine ⟨γ1, .nx _, N1, by unfold sTryK; rw [q1]; simp only; rw [if_pos hC], s1, x1, a3, fun k hk c e => ow1 k hk c (back k c e), fun k c e n => pz1 k c (back k c e) n⟩
    · cases e
  · cases e⟩
theorem vex_call {f g : FX} {ma' va' : MA} (n : VFX f g) (ha : VA S ma' va') : VEX S (eCX f ma') (eCX g va') := ⟨fun γ ρ ρv M Mv r Mv' s ev e => by
  unfold eCX at e
  split at e
  · rename_i xs M1 e1
    obtain ⟨γ1, us, N1, q1, s1, r1, x1, p1⟩ := ha.run γ ρ ρv M Mv xs M1 s ev e1
    obtain ⟨γ2, z, N2, q2, s2, r2, x2, p2⟩ := n.run γ1 M1 N1 xs us r Mv' s1 r1 e
    refine ⟨γ2, z, N2, by unfold eCX; rw [q1]; exact q2, s2, r2, x1.trans x2, fun w hw c hc hn => ?_⟩
    subst hw hc
    rcases p2 c rfl hn with h | h
    · exact .inl (Nat.le_trans x1.len h)
    · rcases p1 _ h c rfl fun k => hn (x2.sub c k) with h | h
      · exact .inl h
      · exact .inr h
  · cases e⟩
theorem vfx_fn {k n : Nat} (h : VSX [] S' [] [] m v) : VFX (mkFnX k n m) (mkFnX k n v) := ⟨fun γ Mv M vs us r Mv' s rs e => by
  unfold mkFnX at e
  split at e
  · rename_i hk
    split at e
    · rename_i e1
      cases e
      obtain ⟨γ', o', M', q, s', x, rr⟩ := h.run γ _ _ M Mv _ _ s (ev_start rs) e1
      cases o' with
      | xc _ _ _ => exact False.elim rr
      | ok o' =>
        cases o' with
        | rt u =>
          refine ⟨γ', .ok u, M', ?_, s', rr.1, x.x, fun c hc hn => ?_⟩
          · unfold mkFnX
            rw [if_pos (by rw [← rs.length]; exact hk), q]
          · cases hc
            rcases rr.2 c rfl hn with z | ⟨j, z⟩
            · exact .inl z
            · exact .inr (start_cells z)
        | _ => exact False.elim rr
    · rename_i e1
      cases e
      obtain ⟨γ', o', M', q, s', x, rr⟩ := h.run γ _ _ M Mv _ _ s (ev_start rs) e1
      cases o' with
      | xc _ _ _ => exact False.elim rr
      | ok o' =>
        cases o' with
        | nx u =>
          refine ⟨γ', .ok (.dat .none), M', ?_, s', .of (.dat _), x.x, fun c hc => by cases hc⟩
          unfold mkFnX
          rw [if_pos (by rw [← rs.length]; exact hk), q]
        | _ => exact False.elim rr
    · rename_i e1
      cases e
      obtain ⟨γ', o', M', q, s', x, rr⟩ := h.run γ _ _ M Mv _ _ s (ev_start rs) e1
      cases o' with
      | ok _ => exact False.elim rr
      | xc ρ2 D gs =>
        obtain ⟨⟨rfl, rfl⟩, _⟩ := rr
        refine ⟨γ', .xc _ _, M', ?_, s', ⟨rfl, rfl⟩, x.x, fun c hc => by cases hc⟩
        unfold mkFnX
        rw [if_pos (by rw [← rs.length]; exact hk), q]
    · cases e
  · cases e⟩
theorem vj_xf {cs : List Addr} {f : Str} (h : VJ [] ma va) : VJ S (eXf cs f ma) (eXf cs f va) := ⟨fun γ ρ ρv M Mv r Mv' s ev e => by
  unfold eXf at e
  split at e
  · rename_i C fs M1 e1
    obtain ⟨γ1, u1, N1, q1, s1, r1, x1, _⟩ := h.run γ ρ ρv M Mv _ _ s ev.nil e1
    have hu : u1 = .xc C fs := by
      cases r1 with
      | of r => cases r; rfl
    subst hu
    split at e
    · rename_i hC
      split at e
      · rename_i d e3
        cases e
        exact ⟨γ1, .dat d, N1, by unfold eXf; rw [q1]; simp only; rw [if_pos hC, e3], s1, .of (.dat d), x1, fun c hc => by cases hc⟩
      · cases e
    · cases e
  · cases e⟩
end
end Pu

namespace Pu
open PySem PySem.Spec PyProof.Rows L2 Lw
open Classical

theorem ur_cls {γ : List Nat} {M : Mem} {v u : U} {k : Value} (r : UR γ M v u) (h : clsU v = some k) : u = v := by
  cases r with
  | lv _ _ => cases h
  | of r => cases r with
    | adr a => rfl
    | ty n => rfl
    | _ => cases h
theorem na_isX (tab : Value → Value → Option Bool) : NA (isX tab) (isX tab) := .dat fun γ Mv M vs us r Mv' s rs e => by
  unfold isX at e
  split at e
  · rename_i C fs c
    obtain ⟨u, x, rfl, r1, r2⟩ := urs2 rs
    have hu : u = .xc C fs := by
      cases r1 with
      | of r => cases r; rfl
    subst hu
    split at e
    · rename_i k hk
      have hx := ur_cls r2 hk
      subst hx
      obtain ⟨b, h1, h2⟩ := Option.map_eq_some_iff.mp e
      cases h2
      refine ⟨rfl, _, rfl, ?_⟩
      unfold isX
      simp only [hk, h1, Option.map]
    · cases e
  · rename_i d c
    obtain ⟨u, x, rfl, r1, r2⟩ := urs2 rs
    obtain rfl := ur_dat r1
    split at e
    · rename_i k hk
      have hx := ur_cls r2 hk
      subst hx
      obtain ⟨b, h1, h2⟩ := Option.map_eq_some_iff.mp e
      cases h2
      refine ⟨rfl, _, rfl, ?_⟩
      unfold isX
      simp only [hk, h1, Option.map]
    · cases e
  · cases e
/-! ### answers -/
section
variable {ρ : Env} {M : Mem} {m n : MSX} {p : MS} {me : ME} {mx : MEX} {mc : MT} {C : Addr} {f : Str} {i j : Nat} {cs : List Addr} {QX : OutX → Mem → Prop} {QS : Out → Mem → Prop} {QR : RX → Mem → Prop} {Q : U → Mem → Prop}
theorem w_up : W (sUp p ρ M) QX ↔ W (p ρ M) fun o M1 => QX (.ok o) M1 := by
  unfold sUp
  constructor
  · rintro ⟨u, M', e, q⟩
    split at e
    · rename_i h
      cases e
      exact ⟨_, _, h, q⟩
    · cases e
  · rintro ⟨u, M', e, q⟩
    exact ⟨_, _, by rw [e], q⟩
theorem w_seqX : W (sSeqX m n ρ M) QX ↔ W (m ρ M) fun o M1 => match o with
    | .ok (.nx ρ1) => W (n ρ1 M1) QX
    | o => QX o M1 := by
  unfold sSeqX
  constructor
  · rintro ⟨u, M', e, q⟩
    split at e
    · rename_i h
      exact ⟨_, _, h, u, M', e, q⟩
    · rename_i hne
      refine ⟨u, M', e, ?_⟩
      cases u with
      | xc _ _ _ => exact q
      | ok o =>
        cases o with
        | nx _ => exact (hne _ _ e).elim
        | _ => exact q
  · rintro ⟨u, M', e, q⟩
    cases u with
    | xc _ _ _ => exact ⟨_, _, by rw [e], q⟩
    | ok o =>
      cases o with
      | nx ρ1 =>
        obtain ⟨w, M2, e2, q2⟩ := q
        exact ⟨w, M2, by rw [e]; exact e2, q2⟩
      | _ => exact ⟨_, _, by rw [e], q⟩
theorem w_ifX : W (sIfX mc m n ρ M) QX ↔ W (mc ρ M) fun b M1 => if b = true then W (m ρ M1) QX else W (n ρ M1) QX := by
  unfold sIfX
  constructor
  · rintro ⟨u, M', e, q⟩
    split at e
    · rename_i h
      exact ⟨_, _, h, by simp only [if_true]; exact ⟨u, M', e, q⟩⟩
    · rename_i h
      exact ⟨_, _, h, by simp only [Bool.false_eq_true, if_false]; exact ⟨u, M', e, q⟩⟩
    · cases e
  · rintro ⟨b, M', e, q⟩
    cases b with
    | true =>
      rw [if_pos rfl] at q
      obtain ⟨w, M2, e2, q2⟩ := q
      exact ⟨w, M2, by rw [e]; exact e2, q2⟩
    | false =>
      rw [if_neg (by decide)] at q
      obtain ⟨w, M2, e2, q2⟩ := q
      exact ⟨w, M2, by rw [e]; exact e2, q2⟩
theorem w_raise : W (sRaise C f me ρ M) QX ↔ W (me ρ M) fun u M1 => ∃ d, u = .dat d ∧ QX (.xc ρ C [(f, d)]) M1 := by
  unfold sRaise
  constructor
  · rintro ⟨u, M', e, q⟩
    split at e
    · rename_i h
      cases e
      exact ⟨_, _, h, _, rfl, q⟩
    · cases e
  · rintro ⟨u, M', e, d, rfl, q⟩
    exact ⟨_, _, by rw [e], q⟩
theorem w_setX : W (sSetX i mx ρ M) QX ↔ W (mx ρ M) fun r M1 => match r with
    | .ok u => QX (.ok (.nx (ρ.set i (some u)))) M1
    | .xc C fs => QX (.xc ρ C fs) M1 := by
  unfold sSetX
  constructor
  · rintro ⟨u, M', e, q⟩
    split at e
    · rename_i h
      cases e
      exact ⟨_, _, h, q⟩
    · rename_i h
      cases e
      exact ⟨_, _, h, q⟩
    · cases e
  · rintro ⟨u, M', e, q⟩
    cases u with
    | ok u => exact ⟨_, _, by rw [e], q⟩
    | xc C fs => exact ⟨_, _, by rw [e], q⟩
theorem w_tryK : W (sTryK cs i j m ρ M) QS ↔ W (m ρ M) fun o M1 => match o with
    | .ok o => QS o M1
    | .xc ρ1 C fs => C ∈ cs ∧ QS (.nx (((ρ1.set i (some (.xc C fs))).set j (some (.xc C fs))).set i none)) M1 := by
  unfold sTryK
  constructor
  · rintro ⟨u, M', e, q⟩
    split at e
    · rename_i h
      cases e
      exact ⟨_, _, h, q⟩
    · rename_i h
      split at e
      · rename_i hC
        cases e
        exact ⟨_, _, h, hC, q⟩
      · cases e
    · cases e
  · rintro ⟨u, M', e, q⟩
    cases u with
    | ok o => exact ⟨_, _, by rw [e], q⟩
    | xc ρ1 C fs => exact ⟨_, _, by rw [e]; simp only; rw [if_pos q.1], q.2⟩
theorem w_cX {g : FX} {ma : MA} : W (eCX g ma ρ M) QR ↔ W (ma ρ M) fun us M1 => W (g us M1) QR := by
  unfold eCX
  constructor
  · rintro ⟨u, M', e, q⟩
    split at e
    · rename_i h
      exact ⟨_, _, h, u, M', e, q⟩
    · cases e
  · rintro ⟨us, M', e, u, M2, e2, q⟩
    exact ⟨u, M2, by rw [e]; exact e2, q⟩
theorem w_fnX {k n : Nat} {us : List U} : W (mkFnX k n m us M) QR ↔ us.length = k ∧ W (m (us.map some ++ List.replicate (n - k) none) M) fun o M1 => match o with
    | .ok (.rt u) => QR (.ok u) M1
    | .ok (.nx _) => QR (.ok (.dat .none)) M1
    | .xc _ C fs => QR (.xc C fs) M1
    | _ => False := by
  unfold mkFnX
  constructor
  · rintro ⟨u, M', e, q⟩
    split at e
    · rename_i hk
      refine ⟨hk, ?_⟩
      split at e
      · rename_i h
        cases e
        exact ⟨_, _, h, q⟩
      · rename_i h
        cases e
        exact ⟨_, _, h, q⟩
      · rename_i h
        cases e
        exact ⟨_, _, h, q⟩
      · cases e
    · cases e
  · rintro ⟨hk, o, M', e, q⟩
    rw [if_pos hk]
    cases o with
    | xc _ C fs => exact ⟨_, _, by rw [e], q⟩
    | ok o =>
      cases o with
      | rt u => exact ⟨_, _, by rw [e], q⟩
      | nx _ => exact ⟨_, _, by rw [e], q⟩
      | bk _ => exact False.elim q
      | ct _ => exact False.elim q
theorem w_xf : W (eXf cs f me ρ M) Q ↔ W (me ρ M) fun u M1 => ∃ C fs d, u = .xc C fs ∧ C ∈ cs ∧ fs.lookup f = some d ∧ Q (.dat d) M1 := by
  unfold eXf
  constructor
  · rintro ⟨u, M', e, q⟩
    split at e
    · rename_i h
      split at e
      · rename_i hC
        split at e
        · rename_i h3
          cases e
          exact ⟨_, _, h, _, _, _, rfl, hC, h3, q⟩
        · cases e
      · cases e
    · cases e
  · rintro ⟨u, M', e, C, fs, d, rfl, hC, h3, q⟩
    exact ⟨_, _, by rw [e]; simp only; rw [if_pos hC, h3], q⟩
end
end Pu

namespace Pu
open PySem PySem.Spec PyProof.Rows L2 Lw
open Classical

/-! ### x, *ys = a list -/
section
variable {prog : Program} {w : World} {A : Around} {E : Value → Shared → Prop} {s : Shared}
theorem walks_rest {it l : Addr} {items : Array Value} {k : Nat} (hne : l ≠ it) (hh : A.handled = none) (hk : k ≤ items.size) :
    WalksS prog w A it [it, l] [it] (fun a b => a = b) (items.size - k) (fun j v => items[k + j]? = some v) (fun j s => s.heap.IsListIter it l (k + j) ∧ s.heap.IsList l items) where
  sub := fun b hb => by
    rw [List.mem_singleton] at hb
    rw [hb]
    exact List.mem_cons_self
  grefl := fun _ => rfl
  gtrans := fun _ _ _ h g => h.trans g
  frame := fun i s h' tk ⟨hi, hl⟩ _ k => by
    obtain ⟨o, ho, r⟩ := hi
    obtain ⟨o2, ho2, r2⟩ := hl
    exact ⟨⟨o, k it (List.mem_cons_self) o ho, r⟩, ⟨o2, k l (List.mem_cons_of_mem _ List.mem_cons_self) o2 ho2, r2⟩⟩
  item := fun i s Q E hi ⟨h1, h2⟩ hQ => by
    have hlt : k + i < items.size := by omega
    refine wpAny_pyNext_list_item h1 h2 (x := items[k + i]) (by simp [hlt]) fun h' it' sb => ?_
    refine hQ _ _ (by simp [hlt]) ⟨it', h2.extBut sb.extBut hne⟩ ⟨fun b o hb e => ?_, rfl, rfl, rfl, Nat.le_refl _⟩
    exact sb.extBut b o (fun z => hb (by rw [z]; exact List.mem_cons_self)) e
  done := fun s Q E ⟨h1, h2⟩ hQ => by
    refine wpAny_pyNext_list_end hh h1 h2 (by simp; omega) fun h' x => ?_
    exact hQ _ ⟨fun b o hb e => x b o (fun z => hb (by rw [z]; exact List.mem_cons_self)) e, rfl, rfl, rfl, Nat.le_refl _⟩
  self := fun i s Q E ⟨h1, _⟩ hQ => wpAny_pyIter_listiter h1 hQ
theorem itemsOf_drop {items acc : Array Value} {k : Nat} (hk : k ≤ items.size) (h : ItemsOf (fun j v => items[k + j]? = some v) acc (items.size - k)) : acc.toList = items.toList.drop k := by
  obtain ⟨h1, h2⟩ := h
  apply List.ext_getElem?
  intro j
  rw [List.getElem?_drop, Array.getElem?_toList, Array.getElem?_toList]
  by_cases z : j < acc.size
  · have e := h2 j acc[j] (by simp [z])
    rw [e]
    simp [z]
  · have e1 : acc[j]? = none := by simp; omega
    have e2 : items[k + j]? = none := by simp; omega
    rw [e1, e2]
theorem items_star {l : Addr} {items : Array Value} {k : Nat} {Q : List Value → Shared → Prop} (hh : A.handled = none) (hl : s.heap.IsList l items) (hk : k ≤ items.size) (hz : items.size ≤ sizeLine)
    (hQ : ∀ (h' : Heap) (tk : Tok) (p : Addr), (∀ b o, s.heap.get? b = some o → h'.get? b = some o) → s.heap.get? p = none → h'.get? p = some { cls := .type "list", data := .seq (items.toList.drop k).toArray } →
      Q (items.toList.take k ++ [.ref p]) { s with heap := h', toks := tk }) : wpAny (model prog w) A (unpackItems (.ref l) (k + 1) (some k)) Q E s := by
  have hlt : l ≠ s.heap.objs.size := by obtain ⟨o, ho, _⟩ := hl; exact Nat.ne_of_lt (Heap.lt_size ho)
  unfold unpackItems
  refine wpAny_bind ?_
  unfold notIterableAtAll
  refine wpAny_bind (wpAny_specialOf hl.typeIs slot_list_iter.lookup ?_)
  refine wpAny_pure ?_
  simp only [Bool.false_eq_true, if_false]
  refine wpAny_bind (wpAny_holding (wpAny_pyIter_list hl ?_))
  refine wpAny_bind (wpAny_holding (PySem.W.kun_draw hlt k 0 _ _ ⟨_, Heap.get?_push_size _ rfl, rfl, rfl⟩ (hl.push _) (by omega) fun h1 hit1 hs1 => ?_))
  have hl1 : h1.IsList l items := (hl.push _).extBut hs1.extBut hlt
  rw [Nat.zero_add] at hit1
  rw [List.drop_zero]
  have hlen : (items.toList.take k).length = k := by simp [hk]
  rw [if_neg (by rw [hlen]; omega)]
  refine wpAny_bind (wpAny_holding ?_)
  refine wpAny_collect_iter (s := { s with heap := h1 }) (.inr (.inr (.inl rfl))) (walks_rest (A := A.in1) (k := k) hlt hh hk) (fun i s st => ?_) ⟨hit1, hl1⟩ (fun b hb => ?_) List.mem_cons_self (fun s' acc mv io => ?_) (by omega)
  · obtain ⟨⟨o, ho, hc, _⟩, _⟩ := st
    exact ⟨o, ho, hc⟩
  · obtain ⟨o, ho, _⟩ := hit1
    obtain ⟨o2, ho2, _⟩ := hl1
    rcases List.mem_cons.mp hb with z | z
    · rw [z]
      exact Heap.lt_size ho
    · rw [List.mem_singleton.mp z]
      exact Heap.lt_size ho2
  · rw [itemsOf_drop hk io]
    have hd : (items.toList.drop k).length = items.size - k := by simp
    rw [if_neg (by omega)]
    obtain ⟨h2, g2, d2, t2, o2⟩ := s'
    obtain ⟨m1, m2, m3, m4, m5⟩ := mv
    have m2' : s.gens = g2 := m2
    have m3' : d2 = s.drawn := m3
    have m4' : o2 = s.os := m4
    subst m2' m3' m4'
    have keep : ∀ b o, s.heap.get? b = some o → h2.get? b = some o := fun b o e => by
      have nb : b ≠ s.heap.objs.size := Nat.ne_of_lt (Heap.lt_size e)
      exact m1 b o (by rw [List.mem_singleton]; exact nb) (hs1.extBut b o nb (Heap.get?_push_of_some _ e))
    have e1 : (items.toList.drop k).length - (k + 1 - 1 - k) = (items.toList.drop k).length := by omega
    refine wpAny_bind ?_
    rw [e1, List.take_length]
    refine wpAny_newList ?_ (by rw [hd]; omega)
    refine wpAny_pure ?_
    rw [List.drop_length, List.append_nil]
    refine hQ _ t2 _ (fun b o e => Heap.get?_push_of_some _ (keep b o e)) ?_ (Heap.get?_push_size _ rfl)
    · cases e : s.heap.get? h2.objs.size with
      | none => rfl
      | some o => exact absurd (Heap.lt_size (keep _ o e)) (Nat.lt_irrefl _)
end
def gStar (K : PySem.W.Frag) (k : Nat) (t : TGs) : TG := fun v σ H Q => ∃ (a : Addr) (xs : List V), v = .ref a ∧ SqL K H a xs ∧ k ≤ xs.length ∧ ∀ p, H p = none → t (xs.take k ++ [.ref p]) σ (upd H p (.lst (xs.drop k))) Q
theorem vals_take : ∀ {xs : List V} {us : List Value} (k : Nat), Vals xs us → Vals (xs.take k) (us.take k)
  | _, _, 0, _ => .nil
  | _, _, _ + 1, .nil => .nil
  | _, _, k + 1, .cons r t => .cons r (vals_take k t)
theorem vals_drop : ∀ {xs : List V} {us : List Value} (k : Nat), Vals xs us → Vals (xs.drop k) (us.drop k)
  | _, _, 0, h => h
  | _, _, _ + 1, .nil => .nil
  | _, _, k + 1, .cons r t => vals_drop k t
section
variable {X : Cx} {pos : Pos}
theorem pg_star {es fs : List Expr} {kt : Nat} {k : Nat} {t : TGs} (hc : X.calm = true) (h : PGs X fs t) (ha : (assignEach es X.env).map (·.2) = (assignEach fs X.env).map (·.2) := by rfl)
    (hn : (assignEach es X.env).length = k + 1 := by rfl) (hst : (assignEach es X.env).findIdx? (·.1) = some k := by rfl) : PG X (.Tuple es kt pos) (gStar X.K k t) := by
  refine ⟨fun pins s σ H v u Q I r hw => ?_⟩
  obtain ⟨a, xs, e1, hq, hl, hw⟩ := hw
  subst e1
  cases r
  obtain ⟨its, rv, pl, hz⟩ := I.list hq
  have hlen : its.length = xs.length := rv.length.symm
  rw [PyProof.Rows.assign_Tuple]
  refine wpAny_bind (wpAny_standAt ?_)
  unfold unpack
  rw [hn, hst, ha]
  refine wpAny_bind (wpAny_holding (items_star (I.ok.hd hc) pl.isList (by simpa [hlen] using hl) (by simpa [hlen] using hz) fun h' tk p kp np hp => ?_))
  have nH : H p = none := I.hok.gone np
  have hd : Vals (xs.drop k) (its.drop k) := vals_drop k rv
  have I1 : Inv X pins σ (upd H p (.lst (xs.drop k))) { s with heap := h', toks := tk } := I.laidN (t' := tk) kp np nH ⟨by rw [List.length_drop]; omega, its.drop k, _, hd, by simpa using hp⟩
  refine h.run pins _ σ _ (xs.take k ++ [.ref p]) _ Q I1 ?_ (hw p nH)
  have q : Vals (xs.take k ++ [V.ref p]) (its.take k ++ [Value.ref p]) := (vals_take k rv).append (Paired.cons (show L2.RelV (.ref p) (Value.ref p) from rfl) .nil)
  simpa using q
/-- x, *ys = e -/
def sStar (i j : Nat) (me : ME) : MS := fun ρ M => match me ρ M with
  | some (u, M1) => match lstOf M1 u with
    | some (x :: xs) => some (.nx ((ρ.set i (some x)).set j (some (.cell M1.length))), M1 ++ [.lst false xs])
    | _ => none
  | none => none
theorem qs_star {i j : Nat} {x y : Str} {e : Expr} {me : ME} {px py ps pt : Pos} {kt : Nat} (hc : X.calm = true) (hN : X.N.Nodup) (hi : X.N[i]? = some x) (hj : X.N[j]? = some y) (hx : Loc X.env.scope x) (hy : Loc X.env.scope y) (he : QE X e me)
    (hs : swapsWithSole [.Tuple [.Name x px, .Starred (.Name y py) ps] kt pt] e pos.line X.env = pure false := by rfl) (hw : swappedStores [.Tuple [.Name x px, .Starred (.Name y py) ps] kt pt] e X.env = pure none := by rfl)
    (h1 : (assignEach [.Tuple [.Name x px, .Starred (.Name y py) ps] kt pt] X.env).map (·.2) = [assign (.Tuple [.Name x px, .Starred (.Name y py) ps] kt pt) X.env] := by rfl)
    (hfx : X.fn x = true ∨ X.env.scope.names.lookup x = some .local := by first | exact .inl rfl | exact .inr rfl | assumption) (hfy : X.fn y = true ∨ X.env.scope.names.lookup y = some .local := by first | exact .inl rfl | exact .inr rfl | assumption) :
    QS X (.Assign [.Tuple [.Name x px, .Starred (.Name y py) ps] kt pt] e pos) (sStar i j me) := by
  obtain ⟨t, h2, h3⟩ := he.ex
  refine ⟨_, ps_asg h2 (pg_star (k := 1) (es := [.Name x px, .Starred (.Name y py) ps]) (fs := [.Name x px, .Name y py]) hc (pgs_cons (pg_name hN hi hx hfx) (pgs_cons (pg_name hN hj hy hfy) pgs_nil))) hs hw h1, ?_⟩
  intro σ H α ρ M o M' D R er e P
  unfold sStar at e
  split at e
  · rename_i u M1 e1
    split at e
    · rename_i w ws e2
      cases e
      refine h3 σ H α ρ M u M1 _ R er e1 fun v α1 H1 R1 x1 r1 => ?_
      obtain ⟨a, xs, rfl, hq, rs⟩ := lstOf_ok R1 r1 e2
      cases rs with
      | cons ra rb =>
        rename_i z zs
        refine ⟨a, z :: zs, rfl, SqL.of hq, by simp, fun p np => ?_⟩
        obtain ⟨R2, x2, e3⟩ := R1.newMem (o := .lst zs) (c := .lst false ws) np rfl fun y => ⟨fun q => (by cases q), zs, upd_same, rb.ext y⟩
        refine ⟨z, [.ref p], rfl, ⟨.ref p, [], rfl, rfl, P _ _ R2 (x1.trans x2) _ (((er.ext (x1.trans x2)).set (ra.ext x2)).set (.cell e3))⟩⟩
    · cases e
  · cases e
end
/-- the same over values -/
def vStar (i j : Nat) (va : ME) : MS := fun ρ M => match va ρ M with
  | some (u, M1) => match (lstOf M1 u).bind allDat with
    | some (d :: ds) => some (.nx ((ρ.set i (some (.dat d))).set j (some (.lv ds))), M1)
    | _ => none
  | none => none
theorem vs_star {S S' B : List Nat} {i j : Nat} {ma va : ME} (h : VJ [] ma va) (hs : ∀ k ∈ S', k ∈ S ∧ k ≠ i ∧ k ≠ j := by decide) : VS S S' B (sStar i j ma) (vStar i j va) := ⟨fun γ ρ ρv M Mv o Mv' s ev e => by
  unfold vStar at e
  split at e
  · rename_i r M1 e1
    split at e
    · rename_i d ds e2
      cases e
      obtain ⟨γ1, u1, N1, q1, s1, r1, x1, p1⟩ := h.run γ ρ ρv M Mv _ _ s ev.nil e1
      obtain ⟨us, g1, g2⟩ := Option.bind_eq_some_iff.mp e2
      have hus := allDat_some g2
      rcases lstOf_nat s1 r1 with ⟨k1, _⟩ | ⟨vs, ws, k1, k2, k3⟩
      · rw [k1] at g1
        cases g1
      · rw [k1] at g1
        cases g1
        have hws : ws = (d :: ds).map .dat := allDat_some (by rw [← k3.allDat]; exact g2)
        subst hws
        have x2 : Fx γ1 γ1 N1 (N1 ++ [.lst false (ds.map .dat)]) := ⟨by simp, fun _ _ h => h, fun _ h => .inl h, fun c hc _ => List.getElem?_append_left hc⟩
        have s2 : SR γ1 Mv' (N1 ++ [.lst false (ds.map .dat)]) := ⟨s1.len, s1.nd, fun a c x h1 h2 => by
          obtain ⟨y, h3, h4⟩ := s1.ok a c x h1 h2
          exact ⟨y, by rw [List.getElem?_append_left (List.getElem?_eq_some_iff.mp h3).1]; exact h3, h4⟩⟩
        have nw : N1.length ∉ γ1 := s1.fresh
        have ev2 := ((ev.ext x1).ext x2).weak fun k hk => (hs k hk).1
        have ev3 := ev2.set (i := i) (u := .dat d) (v := .dat d) (.of (.dat d)) (fun z => (hs i z).2.1 rfl) (fun c hc => by cases hc)
        have ev4 := ev3.set (i := j) (v := .lv ds) (u := .cell N1.length) (.lv nw (.inl ⟨false, by simp⟩)) (fun z => (hs j z).2.2 rfl) (fun c hc n k hk e => by
          cases hc
          have hki : i ≠ k := fun z => (hs k hk).2.1 z.symm
          rw [List.getElem?_set_ne hki] at e
          obtain ⟨c', f, es, h1, h2, h3, h4, h5⟩ := (ev.ext x1).own k (hs k hk).1
          rw [h2] at e
          cases e
          exact absurd (List.getElem?_eq_some_iff.mp h4).1 (Nat.lt_irrefl _))
        refine ⟨γ1, .nx _, _, by unfold sStar; rw [q1]; simp only [k2, List.map_cons], s2, (x1.trans x2).s, ev4, fun k hk c e => ?_, fun k c e n => ?_⟩
        · have h1 : j ≠ k := fun z => (hs k hk).2.2 z.symm
          have h2 : i ≠ k := fun z => (hs k hk).2.1 z.symm
          rw [List.getElem?_set_ne h1, List.getElem?_set_ne h2] at e
          exact .inr ⟨k, (hs k hk).1, e⟩
        · rcases set_some e with ⟨_, e2⟩ | ⟨_, e⟩
          · cases e2
            exact .inl x1.len
          · rcases set_some e with ⟨_, e2⟩ | ⟨_, e⟩
            · cases e2
            · exact .inr ⟨k, e⟩
    · cases e
  · cases e⟩
theorem w_starL {i j : Nat} {me : ME} {ρ : Env} {M : Mem} {QS : Out → Mem → Prop} : W (vStar i j me ρ M) QS ↔ W (me ρ M) fun u M1 => ∃ d ds, (lstOf M1 u).bind allDat = some (d :: ds) ∧ QS (.nx ((ρ.set i (some (.dat d))).set j (some (.lv ds)))) M1 := by
  unfold vStar
  constructor
  · rintro ⟨u, M', e, q⟩
    split at e
    · rename_i h
      split at e
      · rename_i h2
        cases e
        exact ⟨_, _, h, _, _, h2, q⟩
      · cases e
    · cases e
  · rintro ⟨u, M', e, d, ds, h2, q⟩
    exact ⟨_, _, by rw [e]; simp only [h2], q⟩
end Pu

namespace Pu
open PySem PySem.Spec PyProof.Rows L2 Lw
open Classical

/-! ### texts: split, startswith, index, int of a text -/
theorem vrs_strs1 {K : PySem.W.Frag} {α : List Addr} {G : Hp} : ∀ ys : List Str, VRs K α G (ys.map V.str) ((ys.map PyData.str).map .dat)
  | [] => .nil
  | y :: ys => .cons (.dat (.str y)) (vrs_strs1 ys)
def splitF : FM := fun a us M => match a, us with
  | .dat (.str a), [.dat (.str b)] => if b.length ≠ 0 ∧ a.length + 2 ≤ sizeLine then some (.cell M.length, M ++ [.lst false (((Txt.split a b).map PyData.str).map .dat)]) else none
  | _, _ => none
def vsplitF : FM := fun a us M => match a, us with
  | .dat (.str a), [.dat (.str b)] => if b.length ≠ 0 ∧ a.length + 2 ≤ sizeLine then some (.lv ((Txt.split a b).map PyData.str), M) else none
  | _, _ => none
section
variable {X : Cx}
theorem q_split : QM X "str.split" splitF := by
  refine ⟨_, mt_split, fun H α M x xs a us u M' Q R rx rs e P => ?_⟩
  unfold splitF at e
  split at e
  · rename_i y z
    split at e
    · rename_i hz
      cases e
      obtain ⟨v, rfl, rv⟩ := vrs1 rs
      refine ⟨y, z, vr_str rx, by rw [vr_str rv], by simpa using hz.1, hz.2, fun p np => ?_⟩
      obtain ⟨R2, x2, e3⟩ := R.newMem (o := .lst ((Txt.split y z).map V.str)) (c := .lst false (((Txt.split y z).map PyData.str).map .dat)) np rfl fun w => ⟨fun q => (by cases q), _, upd_same, vrs_strs1 _⟩
      exact P _ _ _ R2 x2 (.cell e3)
    · cases e
  · cases e
theorem nm_split : NM splitF vsplitF := by
  intro γ Mv M v u vs us r Mv' s ru rs e
  unfold vsplitF at e
  split at e
  · rename_i y z
    obtain rfl := ur_dat ru
    obtain ⟨w, rfl, r1⟩ := urs1 rs
    obtain rfl := ur_dat r1
    split at e
    · rename_i hz
      cases e
      obtain ⟨s', x'⟩ := sr_new s (.lst false (((Txt.split y z).map PyData.str).map .dat))
      refine ⟨.cell M.length, _, ?_, rfl, s', ur_new s false _, x', fun c hc _ => by cases hc; exact Nat.le_refl _⟩
      unfold splitF
      simp only [if_pos hz]
    · cases e
  · cases e
def startsF : FM := fun a us M => match a, us with
  | .dat (.str a), [.dat (.str b)] => some (.dat (.bool (Txt.startswith a b)), M)
  | _, _ => none
theorem q_starts : QM X "str.startswith" startsF := by
  refine ⟨_, mt_startswith, fun H α M x xs a us u M' Q R rx rs e P => ?_⟩
  unfold startsF at e
  split at e
  · rename_i y z
    cases e
    obtain ⟨v, rfl, rv⟩ := vrs1 rs
    exact ⟨y, z, vr_str rx, by rw [vr_str rv], P.here R (.dat (.bl _))⟩
  · cases e
theorem nm_starts : NM startsF startsF := by
  intro γ Mv M v u vs us r Mv' s ru rs e
  unfold startsF at e
  split at e
  · rename_i y z
    obtain rfl := ur_dat ru
    obtain ⟨w, rfl, r1⟩ := urs1 rs
    obtain rfl := ur_dat r1
    cases e
    exact ⟨_, M, rfl, rfl, s, .of (.dat _), Fx.refl, fun c hc => by cases hc⟩
  · cases e
def sindexF : FM := fun a us M => match a, us with
  | .dat (.str a), [.dat (.str b)] => match Txt.index0 a b with
    | some k => some (.dat (.int (k : Nat)), M)
    | none => none
  | _, _ => none
theorem q_sindex (hc : X.calm = true) : QM X "str.index" sindexF := by
  refine ⟨fun x xs H Q => ∃ (a b : Str) (k : Nat), x = .str a ∧ xs = [.str b] ∧ Txt.index0 a b = some k ∧ Q (.int (k : Nat)) H, ?_, fun H α M x xs a us u M' Q R rx rs e P => ?_⟩
  · rintro pins s σ H x xs v us Q I rx rs ⟨a, b, k, rfl, rfl, hk, q⟩
    exact mt_indexX hc takes0 pins s σ H _ _ v us Q I rx rs ⟨a, b, rfl, rfl, fun j hj => by rw [hk] at hj; cases hj; exact q, fun hj => by rw [hk] at hj; cases hj⟩
  · unfold sindexF at e
    split at e
    · rename_i y z
      split at e
      · rename_i k hk
        cases e
        obtain ⟨v, rfl, rv⟩ := vrs1 rs
        exact ⟨y, z, k, vr_str rx, by rw [vr_str rv], hk, P.here R (.dat (.int _))⟩
      · cases e
    · cases e
theorem nm_sindex : NM sindexF sindexF := by
  intro γ Mv M v u vs us r Mv' s ru rs e
  unfold sindexF at e
  split at e
  · rename_i y z
    obtain rfl := ur_dat ru
    obtain ⟨w, rfl, r1⟩ := urs1 rs
    obtain rfl := ur_dat r1
    split at e
    · rename_i k hk
      cases e
      refine ⟨_, M, ?_, rfl, s, .of (.dat _), Fx.refl, fun c hc => by cases hc⟩
      unfold sindexF
      simp only [hk]
    · cases e
  · cases e
def intSF : FA := fun us M => match us with
  | [.dat (.str a)] => if a.length ≤ 640 then (match PySem.intText? a with
    | some n => some (.dat (.int n), M)
    | none => none) else none
  | _ => none
theorem q_intS : QC X (.type "int") intSF := by
  refine ⟨_, call_int_str, fun H α M xs us u M' Q R rx e P => ?_⟩
  unfold intSF at e
  split at e
  · rename_i a
    split at e
    · rename_i hz
      split at e
      · rename_i n hn
        cases e
        obtain ⟨v, rfl, rv⟩ := vrs1 rx
        exact ⟨a, n, by rw [vr_str rv], hn, hz, P.here R (.dat (.int _))⟩
      · cases e
    · cases e
  · cases e
theorem na_intS : NA intSF intSF := na_dat1 fun vs M r M' e => by
  unfold intSF at e
  split at e
  · rename_i a
    split at e
    · rename_i hz
      split at e
      · rename_i n hn
        cases e
        refine ⟨[_], rfl, rfl, _, rfl, fun N => ?_⟩
        show intSF [.dat (.str a)] N = _
        unfold intSF
        simp only [if_pos hz, hn]
      · cases e
    · cases e
  · cases e
end
/-- a, b, c = x, y, z with plain local names -/
theorem qs_par3 {X : Cx} {i j l : Nat} {x y z : Str} {a b c : Expr} {ma : MA} {px py pz pt pos : Pos} {kt k2 pt2} (hc : X.calm = true) (hN : X.N.Nodup) (hi : X.N[i]? = some x) (hj : X.N[j]? = some y) (hl : X.N[l]? = some z) (hij : i ≠ j) (hil : i ≠ l) (hjl : j ≠ l)
    (hx : X.env.scope.names.lookup x = some .local) (hy : X.env.scope.names.lookup y = some .local) (hz : X.env.scope.names.lookup z = some .local) (ha : QA X [a, b, c] ma)
    (hw : swappedStores [.Tuple [.Name x px, .Name y py, .Name z pz] kt pt] (.Tuple [a, b, c] k2 pt2) X.env = (pure (some [x, y, z])))
    (hs : swapsWithSole [.Tuple [.Name x px, .Name y py, .Name z pz] kt pt] (.Tuple [a, b, c] k2 pt2) pos.line X.env = (pure false) := by rfl) :
    QS X (.Assign [.Tuple [.Name x px, .Name y py, .Name z pz] kt pt] (.Tuple [a, b, c] k2 pt2) pos) (sAsg (eTupN ma) (gTp 3 (gsN [i, j, l]))) := by
  obtain ⟨t, a1, a2⟩ := ha.ex
  refine ⟨_, ps_par3 hc hN hi hj hl hij hil hjl hx hy hz a1 hw hs, ?_⟩
  intro σ H α ρ M o M' D R er e P
  unfold sAsg eTupN at e
  cases hm : ma ρ M with
  | none => rw [hm] at e; cases e
  | some r =>
    obtain ⟨us, M1⟩ := r
    rw [hm] at e
    simp only at e
    by_cases hz : us.length ≤ sizeLine
    · rw [if_pos hz] at e
      simp only at e
      unfold gTp at e
      have e0 : tupK (.tupc us) = some us := rfl
      rw [e0] at e
      simp only at e
      by_cases h3 : us.length = 3
      · rw [if_pos h3, gsN_run [i, j, l] us ρ M1 h3] at e
        match us, h3 with
        | [u, v, w], _ =>
          cases e
          refine a2 σ H α ρ M _ _ _ R er hm fun vs α' H' R' x r => ?_
          cases r with
          | cons r1 r =>
            cases r with
            | cons r2 r =>
              cases r with
              | cons r3 r =>
                cases r
                exact ⟨_, _, _, rfl, P α' H' R' x _ ((((er.ext x).set r1).set r2).set r3)⟩
      · rw [if_neg h3] at e
        cases e
    · rw [if_neg hz] at e
      cases e
/-- str of a number or of a text -/
def strTF : FA := fun us M => match us with
  | [.dat (.str a)] => some (.dat (.str a), M)
  | _ => none
def strSF : FA := orC strF strTF
theorem q_strS {X : Cx} : QC X (.type "str") strSF := QC.or q_str ⟨_, SkE.call_str_str, fun H α M xs us u M' Q R rx e P => by
  unfold strTF at e
  split at e
  · rename_i a
    cases e
    obtain ⟨v, rfl, rv⟩ := vrs1 rx
    exact ⟨a, by rw [vr_str rv], P.here R (.dat (.str _))⟩
  · cases e⟩
theorem na_strS : NA strSF strSF := na_dat1 fun vs M r M' e => by
  unfold strSF orC at e
  split at e
  · rename_i r0 h
    cases e
    unfold strF at h
    split at h
    · rename_i d
      split at h
      · rename_i i hi
        split at h
        · rename_i hz
          cases h
          refine ⟨[_], rfl, rfl, _, rfl, fun N => ?_⟩
          show strSF [.dat d] N = _
          unfold strSF orC strF
          simp only [hi, if_pos hz]
        · cases h
      · cases h
    · cases h
  · unfold strTF at e
    split at e
    · cases e
      exact ⟨[_], rfl, rfl, _, rfl, fun N => rfl⟩
    · cases e
theorem strSF_str {a : Str} {M : Mem} : strSF [.dat (.str a)] M = some (.dat (.str a), M) := rfl
theorem strSF_int {i : Int} {M : Mem} (h : i.natAbs.log2 < 1920) : strSF [.dat (.int i)] M = some (.dat (.str (toString i)), M) := by
  unfold strSF orC
  have e : strF [.dat (.int i)] M = some (.dat (.str (toString i)), M) := by
    show (if i.natAbs.log2 < 1920 then some (U.dat (.str (strD (.int i))), M) else none) = _
    rw [if_pos h]
    rfl
  rw [e]
end Pu

namespace Pu
open PySem PySem.Spec PyProof.Rows L2 Lw
open Classical

/-! ### a key in a dict that is data -/
def inDU (neg : Bool) : F2 := fun a b M => match a, b with
  | .dat d, .dat (.dict kvs) => match keyOf d with
    | some k => some (.dat (.bool (if neg = true then !(getD kvs k).isSome else (getD kvs k).isSome)), M)
    | none => none
  | _, _ => none
def rInDU (neg : Bool) : R2 := fun x y H Q => ∃ (a : Addr) (kvs : List (Key × V)) (k : Key), y = .ref a ∧ Rd H a (.dK kvs) ∧ x = kV k ∧ Q (.bl (if neg = true then !(valV kvs k).isSome else (valV kvs k).isSome)) H
theorem op_notInDU {X : Cx} : OpR X (compareOp .NotIn) (rInDU true) := by
  intro pins s σ H x y v u Q I rx ry h
  obtain ⟨a, kvs, k, rfl, e, rfl, q⟩ := h
  cases (show u = Value.ref a from ry)
  obtain ⟨z, hd, vs, rel, dd⟩ := dk_rd I.hok e
  refine wpAny_notIn_of (kV_is rx) hd dd.mapOf ?_
  rw [← (rel.val k).isSome_eq]
  exact ⟨.bl (!(valV kvs k).isSome), H, I.tok _, rfl, q⟩
theorem getD_isSome {G : Hp} : ∀ {kvs : List (Key × V)} {ds : List PyData} {k : Key}, DA true G (kvs.map (·.2)) ds → (getD ((kvs.map fun p => keyD p.1).zip ds) k).isSome = (valV kvs k).isSome
  | [], _, k, .nil => rfl
  | p :: kvs, _, k, .cons h1 t => by
    unfold getD
    rw [List.map_cons, List.zip_cons_cons]
    simp only [keyOf_keyD, Option.some.injEq]
    by_cases z : p.1 = k
    · rw [if_pos z, valV_pos z]
      rfl
    · rw [if_neg z, valV_neg z]
      exact getD_isSome t
theorem sim_inDU {K : PySem.W.Frag} {neg : Bool} : SimOp K (rInDU neg) (inDU neg) := by
  intro H α M x y a b u M' Q R rx ry e P
  unfold inDU at e
  split at e
  · rename_i d kvs
    split at e
    · rename_i k hk
      cases e
      have hx := key_of rx hk
      cases ry with
      | dat r =>
        cases r with
        | dct h1 h2 =>
          rw [getD_isSome h2] at P
          exact ⟨_, _, k, rfl, .inl (fzH_le _ _ h1), hx, P.here R (.dat (.bl _))⟩
    · cases e
  · cases e
theorem d_inDU (neg : Bool) : R2d (inDU neg) := .key (fun _ => dOf) (fun _ => dOf) (fun a b => match a, b with
  | some d, some (.dict kvs) => match keyOf d with
    | some k => some (.bool (if neg = true then !(getD kvs k).isSome else (getD kvs k).isSome))
    | none => none
  | _, _ => none) dOf_n dOf_n fun a b M => by
  unfold inDU
  cases a with
  | dat d =>
    cases b with
    | dat e =>
      cases e with
      | dict kvs =>
        show (match keyOf d with
          | some k => _
          | none => none) = _
        cases h : keyOf d <;> simp [Pu.dOf, h]
      | _ => rfl
    | _ => rfl
  | _ => cases b <;> rfl
/-- in, also of a dict -/
def inG (neg : Bool) : F2 := orF (inU neg) (inDU neg)
theorem q_notInG {X : Cx} {k : Nat} (room : Room k X.A) : QOp X (compareOp .NotIn) (inG true) := (q_notIn room).or ⟨_, op_notInDU, sim_inDU⟩
theorem n_inG (b : Bool) : N2 (inG b) (inG b) := (((d_inK b).or ((d_inFl b).or ((d_inD b).or (d_inS b)))).or (d_inDU b)).n2
end Pu

namespace Z
open PySem PySem.Spec PyProof.Rows L2 Lw Pu

def kb_show_history_0_history {α : Type} : List α → List α → List α
  | [], [b0] => [b0]
  | _, _ => []
theorem kb_show_history_0_history_rel {K : PySem.W.Frag} {α : List Addr} {G : Hp} {vs zs : List V} {us ws : List U} (r1 : VRs K α G vs us) (r2 : VRs K α G zs ws) : VRs K α G (kb_show_history_0_history vs zs) (kb_show_history_0_history us ws) := by
  by_cases h : vs.length = 0 ∧ zs.length = 1
  · match vs, us, zs, ws, r1, r2, h with
    | _, _, _, _, .nil, .cons hb0 .nil, _ => exact .cons hb0 .nil
  · have e1 := r1.length
    have e2 := r2.length
    have z1 : kb_show_history_0_history vs zs = [] := by
      unfold kb_show_history_0_history
      split
      · exact absurd ⟨rfl, rfl⟩ h
      · rfl
    have z2 : kb_show_history_0_history us ws = [] := by
      unfold kb_show_history_0_history
      split
      · exact absurd ⟨e1, e2⟩ h
      · rfl
    rw [z1, z2]
    exact .nil
def topS (i : Nat) : Stmt := PySem.Challenge.pw_stilltold_k70_histories_written_and_spoi.main.body.getD i (.Pass ⟨0, 0, 0, 0⟩)
abbrev s_read_number : Stmt := topS 6
abbrev s_read_whole : Stmt := topS 7
abbrev s_read_deed : Stmt := topS 8
abbrev s_read_history : Stmt := topS 10
abbrev s_show_history : Stmt := topS 12
abbrev s__law_hand : Stmt := topS 14
abbrev s__law_take : Stmt := topS 15
abbrev s__law_of : Stmt := topS 16
abbrev s__law_names : Stmt := topS 17
abbrev s__law_number : Stmt := topS 18
abbrev s__law_row : Stmt := topS 19
abbrev s__law_figures : Stmt := topS 20
abbrev s__law_spoilt_row : Stmt := topS 21
abbrev s__law_row_text : Stmt := topS 22
abbrev s__law_read_row : Stmt := topS 23
abbrev s__law_told : Stmt := topS 24
abbrev s_law : Stmt := topS 25
theorem sc_read_number : FnScope ["word", "sign"] ["word"] (defScope s_read_number) := ⟨rfl, rfl, rfl, by decide +kernel, rfl, by decide +kernel, by decide +kernel⟩
theorem sc_read_whole : FnScope ["word", "size"] ["word"] (defScope s_read_whole) := ⟨rfl, rfl, rfl, by decide +kernel, rfl, by decide +kernel, by decide +kernel⟩
theorem sc_read_deed : FnScope ["deeds", "row", "name", "words", "numbers", "word"] ["deeds", "row"] (defScope s_read_deed) := ⟨rfl, rfl, rfl, by decide +kernel, rfl, by decide +kernel, by decide +kernel⟩
theorem sc_read_history : FnScope ["deeds", "text", "history", "part"] ["deeds", "text"] (defScope s_read_history) := ⟨rfl, rfl, rfl, by decide +kernel, rfl, by decide +kernel, by decide +kernel⟩
theorem sc_show_history : FnScope ["history", "deed", "part"] ["history"] (defScope s_show_history) := ⟨rfl, rfl, rfl, by decide +kernel, rfl, by decide +kernel, by decide +kernel⟩
theorem sc__law_hand : FnScope ["_law_script", "_law_nth", "_law_cell", "_law_great"] ["_law_script", "_law_nth"] (defScope s__law_hand) := ⟨rfl, rfl, rfl, by decide +kernel, rfl, by decide +kernel, by decide +kernel⟩
theorem sc__law_take : FnScope ["_law_hand_here", "_law_upon", "_law_digit", "_law_prime", "_law_drawn"] ["_law_hand_here", "_law_upon"] (defScope s__law_take) := ⟨rfl, rfl, rfl, by decide +kernel, rfl, by decide +kernel, by decide +kernel⟩
theorem sc__law_of : FnScope ["_law_hand_here", "_law_some"] ["_law_hand_here", "_law_some"] (defScope s__law_of) := ⟨rfl, rfl, rfl, by decide +kernel, rfl, by decide +kernel, by decide +kernel⟩
theorem sc__law_names : FnScope ["_law_hand_here", "_law_count", "_law_letters", "_law_start", "_law_leap", "_law_long", "_law_turn", "_law_stem", "_law_cut", "_law_found", "_law_letter", "_law_word"] ["_law_hand_here", "_law_count"] (defScope s__law_names) := ⟨rfl, rfl, rfl, by decide +kernel, rfl, by decide +kernel, by decide +kernel⟩
theorem sc__law_number : FnScope ["_law_hand_here", "_law_way"] ["_law_hand_here"] (defScope s__law_number) := ⟨rfl, rfl, rfl, by decide +kernel, rfl, by decide +kernel, by decide +kernel⟩
theorem sc__law_row : FnScope ["_law_hand_here", "_law_prog", "_law_gate", "_law_stead", "_law_count", "_law_found", "_law_turn", "_law_spot", "_law_some", "_law_name", "_law_notes", "_law_number_here"] ["_law_hand_here", "_law_prog", "_law_gate", "_law_stead", "_law_count"] (defScope s__law_row) := ⟨rfl, rfl, rfl, by decide +kernel, rfl, by decide +kernel, by decide +kernel⟩
theorem sc__law_figures : FnScope ["_law_word", "_law_sign", "_law_number_here"] ["_law_word"] (defScope s__law_figures) := ⟨rfl, rfl, rfl, by decide +kernel, rfl, by decide +kernel, by decide +kernel⟩
theorem sc__law_spoilt_row : FnScope ["_law_hand_here", "_law_row_here", "_law_signs", "_law_words", "_law_spot", "_law_sign", "_law_at", "_law_odd", "_law_way", "_law_again"] ["_law_hand_here", "_law_row_here"] (defScope s__law_spoilt_row) := ⟨rfl, rfl, rfl, by decide +kernel, rfl, by decide +kernel, by decide +kernel⟩
theorem sc__law_row_text : FnScope ["_law_row_here", "_law_found", "_law_act", "_law_number_here"] ["_law_row_here"] (defScope s__law_row_text) := ⟨rfl, rfl, rfl, by decide +kernel, rfl, by decide +kernel, by decide +kernel⟩
theorem sc__law_read_row : FnScope ["_law_acts", "_law_text", "_law_found", "_law_counts", "_law_said", "_law_words", "_law_act", "_law_word", "_law_number_here"] ["_law_acts", "_law_text"] (defScope s__law_read_row) := ⟨rfl, rfl, rfl, by decide +kernel, rfl, by decide +kernel, by decide +kernel⟩
theorem sc__law_told : FnScope ["_law_acts", "_law_text", "_law_caught", "_law_found", "e", "_law_is_so"] ["_law_acts", "_law_text"] (defScope s__law_told) := ⟨rfl, rfl, rfl, by decide +kernel, rfl, by decide +kernel, by decide +kernel⟩
theorem sc_law : FnScope ["_law_script", "_law_nth", "_law_hand_here", "_law_some", "_law_acts", "_law_turn", "_law_row_here", "_law_stead", "_law_text", "_law_kept", "_law_things", "_law_again", "_law_spoilt", "_law_thing", "_law_spot", "_law_one"] ["_law_script"] (defScope s_law) := ⟨rfl, rfl, rfl, by decide +kernel, rfl, by decide +kernel, by decide +kernel⟩
abbrev s_init_NoText : Stmt := inClass (topS 2) 0
theorem sc_init_NoText : FnScope ["self", "row"] ["self", "row"] (defScope s_init_NoText) := ⟨rfl, rfl, rfl, by decide +kernel, rfl, by decide +kernel, by decide +kernel⟩
structure Adr where
  C_NoText : Addr
  C_ToldError : Addr
structure Txt (K : PySem.W.Frag) (mg : Str → Option Value) where
  f_read_number : Addr
  fd_read_number : FuncData
  F_read_number : Fun K "read_number" "read_number" s_read_number f_read_number fd_read_number
  g_read_number : mg "read_number" = some (.ref f_read_number)
  b_read_number : Binds K fd_read_number ["word"] []
  f_read_whole : Addr
  fd_read_whole : FuncData
  F_read_whole : Fun K "read_whole" "read_whole" s_read_whole f_read_whole fd_read_whole
  g_read_whole : mg "read_whole" = some (.ref f_read_whole)
  b_read_whole : Binds K fd_read_whole ["word"] []
  f_read_deed : Addr
  fd_read_deed : FuncData
  F_read_deed : Fun K "read_deed" "read_deed" s_read_deed f_read_deed fd_read_deed
  g_read_deed : mg "read_deed" = some (.ref f_read_deed)
  b_read_deed : Binds K fd_read_deed ["deeds", "row"] []
  f_read_history : Addr
  fd_read_history : FuncData
  F_read_history : Fun K "read_history" "read_history" s_read_history f_read_history fd_read_history
  g_read_history : mg "read_history" = some (.ref f_read_history)
  b_read_history : Binds K fd_read_history ["deeds", "text"] []
  f_show_history : Addr
  fd_show_history : FuncData
  F_show_history : Fun K "show_history" "show_history" s_show_history f_show_history fd_show_history
  g_show_history : mg "show_history" = some (.ref f_show_history)
  b_show_history : Binds K fd_show_history ["history"] []
  f__law_hand : Addr
  fd__law_hand : FuncData
  F__law_hand : Fun K "_law_hand" "_law_hand" s__law_hand f__law_hand fd__law_hand
  g__law_hand : mg "_law_hand" = some (.ref f__law_hand)
  b__law_hand : Binds K fd__law_hand ["_law_script", "_law_nth"] []
  f__law_take : Addr
  fd__law_take : FuncData
  F__law_take : Fun K "_law_take" "_law_take" s__law_take f__law_take fd__law_take
  g__law_take : mg "_law_take" = some (.ref f__law_take)
  b__law_take : Binds K fd__law_take ["_law_hand_here", "_law_upon"] []
  f__law_of : Addr
  fd__law_of : FuncData
  F__law_of : Fun K "_law_of" "_law_of" s__law_of f__law_of fd__law_of
  g__law_of : mg "_law_of" = some (.ref f__law_of)
  b__law_of : Binds K fd__law_of ["_law_hand_here", "_law_some"] []
  f__law_names : Addr
  fd__law_names : FuncData
  F__law_names : Fun K "_law_names" "_law_names" s__law_names f__law_names fd__law_names
  g__law_names : mg "_law_names" = some (.ref f__law_names)
  b__law_names : Binds K fd__law_names ["_law_hand_here", "_law_count"] []
  f__law_number : Addr
  fd__law_number : FuncData
  F__law_number : Fun K "_law_number" "_law_number" s__law_number f__law_number fd__law_number
  g__law_number : mg "_law_number" = some (.ref f__law_number)
  b__law_number : Binds K fd__law_number ["_law_hand_here"] []
  f__law_row : Addr
  fd__law_row : FuncData
  F__law_row : Fun K "_law_row" "_law_row" s__law_row f__law_row fd__law_row
  g__law_row : mg "_law_row" = some (.ref f__law_row)
  b__law_row : Binds K fd__law_row ["_law_hand_here", "_law_prog", "_law_gate", "_law_stead", "_law_count"] []
  f__law_figures : Addr
  fd__law_figures : FuncData
  F__law_figures : Fun K "_law_figures" "_law_figures" s__law_figures f__law_figures fd__law_figures
  g__law_figures : mg "_law_figures" = some (.ref f__law_figures)
  b__law_figures : Binds K fd__law_figures ["_law_word"] []
  f__law_spoilt_row : Addr
  fd__law_spoilt_row : FuncData
  F__law_spoilt_row : Fun K "_law_spoilt_row" "_law_spoilt_row" s__law_spoilt_row f__law_spoilt_row fd__law_spoilt_row
  g__law_spoilt_row : mg "_law_spoilt_row" = some (.ref f__law_spoilt_row)
  b__law_spoilt_row : Binds K fd__law_spoilt_row ["_law_hand_here", "_law_row_here"] []
  f__law_row_text : Addr
  fd__law_row_text : FuncData
  F__law_row_text : Fun K "_law_row_text" "_law_row_text" s__law_row_text f__law_row_text fd__law_row_text
  g__law_row_text : mg "_law_row_text" = some (.ref f__law_row_text)
  b__law_row_text : Binds K fd__law_row_text ["_law_row_here"] []
  f__law_read_row : Addr
  fd__law_read_row : FuncData
  F__law_read_row : Fun K "_law_read_row" "_law_read_row" s__law_read_row f__law_read_row fd__law_read_row
  g__law_read_row : mg "_law_read_row" = some (.ref f__law_read_row)
  b__law_read_row : Binds K fd__law_read_row ["_law_acts", "_law_text"] []
  f__law_told : Addr
  fd__law_told : FuncData
  F__law_told : Fun K "_law_told" "_law_told" s__law_told f__law_told fd__law_told
  g__law_told : mg "_law_told" = some (.ref f__law_told)
  b__law_told : Binds K fd__law_told ["_law_acts", "_law_text"] []
  f_law : Addr
  fd_law : FuncData
  F_law : Fun K "law" "law" s_law f_law fd_law
  g_law : mg "law" = some (.ref f_law)
  b_law : Binds K fd_law ["_law_script"] []
  kb_kb_show_history_0_history : KBinds K fd_show_history ["history"] ["history"] kb_show_history_0_history kb_show_history_0_history
  m_ValueError : mg "ValueError" = none
  m_abs : mg "abs" = none
  m_all : mg "all" = none
  m_dict : mg "dict" = none
  m_int : mg "int" = none
  m_isinstance : mg "isinstance" = none
  m_len : mg "len" = none
  m_list : mg "list" = none
  m_min : mg "min" = none
  m_range : mg "range" = none
  m_repr : mg "repr" = none
  m_str : mg "str" = none
  m_tuple : mg "tuple" = none
  m_MOST_FIGURES : ∃ u, mg "MOST_FIGURES" = some u ∧ L2.RelV (.int 70) u
  m_FIGURES : ∃ u, mg "FIGURES" = some u ∧ L2.RelV (.str (Str.ofString "0123456789")) u
  C_NoText : Addr
  mC_NoText : mg "NoText" = some (.ref C_NoText)
  fi_NoText : Addr
  fdi_NoText : FuncData
  Fi_NoText : Fun K "__init__" "NoText.__init__" s_init_NoText fi_NoText fdi_NoText
  bi_NoText : Binds K fdi_NoText ["self", "row"] []
  ox_NoText : OexC K C_NoText
  ii_NoText : PySem.W.findIn K (.ref C_NoText) "__init__" = some (some (.ref fi_NoText))
  ti_NoText : PySem.W.typeIn K (.ref fi_NoText) = some (.type "function")
  no_NoText : PySem.W.findIn K (.ref C_NoText) "row" = some none
  xc_NoText : XfC K C_NoText
  kc_NoText : KitC K C_NoText
  kv_NoText : PySem.W.kitOne K (.ref C_NoText) (.type "ValueError") = some true
  kn_NoText : PySem.W.kitOne K (.type "NoneType") (.ref C_NoText) = some false
  ks_NoText_NoText : PySem.W.kitOne K (.ref C_NoText) (.ref C_NoText) = some true
  C_ToldError : Addr
  mC_ToldError : mg "ToldError" = some (.ref C_ToldError)
  ex_ToldError_NoText : PySem.W.exmOne K (.ref C_NoText) (.ref C_ToldError) = some true
theorem Txt.k_read_number {K : PySem.W.Frag} {mg : Str → Option Value} (T : Txt K mg) : PySem.W.keepIn K (.ref T.f_read_number) = true := T.F_read_number.kp
theorem Txt.k_read_whole {K : PySem.W.Frag} {mg : Str → Option Value} (T : Txt K mg) : PySem.W.keepIn K (.ref T.f_read_whole) = true := T.F_read_whole.kp
theorem Txt.k_read_deed {K : PySem.W.Frag} {mg : Str → Option Value} (T : Txt K mg) : PySem.W.keepIn K (.ref T.f_read_deed) = true := T.F_read_deed.kp
theorem Txt.k_read_history {K : PySem.W.Frag} {mg : Str → Option Value} (T : Txt K mg) : PySem.W.keepIn K (.ref T.f_read_history) = true := T.F_read_history.kp
theorem Txt.k_show_history {K : PySem.W.Frag} {mg : Str → Option Value} (T : Txt K mg) : PySem.W.keepIn K (.ref T.f_show_history) = true := T.F_show_history.kp
theorem Txt.k__law_hand {K : PySem.W.Frag} {mg : Str → Option Value} (T : Txt K mg) : PySem.W.keepIn K (.ref T.f__law_hand) = true := T.F__law_hand.kp
theorem Txt.k__law_take {K : PySem.W.Frag} {mg : Str → Option Value} (T : Txt K mg) : PySem.W.keepIn K (.ref T.f__law_take) = true := T.F__law_take.kp
theorem Txt.k__law_of {K : PySem.W.Frag} {mg : Str → Option Value} (T : Txt K mg) : PySem.W.keepIn K (.ref T.f__law_of) = true := T.F__law_of.kp
theorem Txt.k__law_names {K : PySem.W.Frag} {mg : Str → Option Value} (T : Txt K mg) : PySem.W.keepIn K (.ref T.f__law_names) = true := T.F__law_names.kp
theorem Txt.k__law_number {K : PySem.W.Frag} {mg : Str → Option Value} (T : Txt K mg) : PySem.W.keepIn K (.ref T.f__law_number) = true := T.F__law_number.kp
theorem Txt.k__law_row {K : PySem.W.Frag} {mg : Str → Option Value} (T : Txt K mg) : PySem.W.keepIn K (.ref T.f__law_row) = true := T.F__law_row.kp
theorem Txt.k__law_figures {K : PySem.W.Frag} {mg : Str → Option Value} (T : Txt K mg) : PySem.W.keepIn K (.ref T.f__law_figures) = true := T.F__law_figures.kp
theorem Txt.k__law_spoilt_row {K : PySem.W.Frag} {mg : Str → Option Value} (T : Txt K mg) : PySem.W.keepIn K (.ref T.f__law_spoilt_row) = true := T.F__law_spoilt_row.kp
theorem Txt.k__law_row_text {K : PySem.W.Frag} {mg : Str → Option Value} (T : Txt K mg) : PySem.W.keepIn K (.ref T.f__law_row_text) = true := T.F__law_row_text.kp
theorem Txt.k__law_read_row {K : PySem.W.Frag} {mg : Str → Option Value} (T : Txt K mg) : PySem.W.keepIn K (.ref T.f__law_read_row) = true := T.F__law_read_row.kp
theorem Txt.k__law_told {K : PySem.W.Frag} {mg : Str → Option Value} (T : Txt K mg) : PySem.W.keepIn K (.ref T.f__law_told) = true := T.F__law_told.kp
abbrev Txt.A {K : PySem.W.Frag} {mg : Str → Option Value} (T : Txt K mg) : Adr := ⟨T.C_NoText, T.C_ToldError⟩
theorem Txt.xf_NoText {K : PySem.W.Frag} {mg : Str → Option Value} (T : Txt K mg) : ∀ C ∈ [T.A.C_NoText], XfC K C ∧ PySem.W.findIn K (.ref C) (Str.ofString "row") = some none := fun C h => by
  rw [List.mem_singleton] at h
  subst h
  exact ⟨T.xc_NoText, T.no_NoText⟩
theorem Txt.oki_NoText {K : PySem.W.Frag} {mg : Str → Option Value} (T : Txt K mg) {P : Program} {w : World} {base : Heap} : FnOk P w K mg base CX0 1 T.fi_NoText T.fdi_NoText ["self", "row"] (spI1 T.A.C_NoText (Str.ofString "row")) := init1_ok T.Fi_NoText sc_init_NoText T.ox_NoText T.no_NoText fun cdv A outer s H E => pss_one (ps_ost (pv 0) (pv 1))
theorem Txt.exm_ToldError {K : PySem.W.Frag} {mg : Str → Option Value} (T : Txt K mg) : ∀ C ∈ ([T.C_NoText] : List Addr), PySem.W.exmOne K (.ref C) (.ref T.C_ToldError) = some true := fun C h => by
  simp only [List.mem_cons, List.not_mem_nil, or_false] at h
  subst h
  exact T.ex_ToldError_NoText
end Z

namespace Z
open PySem PySem.Spec PyProof.Rows L2 Lw Pu
noncomputable def tab (A : Adr) : Value → Value → Option Bool := fun t c => if t = .type "NoneType" ∧ c = .ref A.C_NoText then some false else if t = .ref A.C_NoText ∧ c = .type "ValueError" then some true else if t = .ref A.C_NoText ∧ c = .ref A.C_NoText then some true else none
noncomputable def m_read_number : FA := mkFn 1 2 (sSeq (sIf (tOrM (tNotM (tOf (eChain leU leU (eC (.int 1)) (eCB lenF (aCons (eVar 0) aNil)) (eC (.int 70))))) (tNotM (tOf (eCB allF (aCons (eLc (iTxt (eVar 0)) (gNm 1) tYesM (eOp (inU false) (eVar 1) (eC (.str (Str.ofString "0123456789")))) [1]) aNil)))))
  (sRet (eC .none))
  sNil)
  (sRet (eIf (tAndM (tOf (eOp gtU (eCB lenF (aCons (eVar 0) aNil)) (eC (.int 1)))) (tOf (eOp eqU (eOp ixU (eVar 0) (eC (.int 0))) (eC (.str (Str.ofString "0")))))) (eC .none) (eCB intSF (aCons (eVar 0) aNil)))))
noncomputable def m_read_whole : FA := mkFn 1 2 (sSeq (sIf (tNotM (tTrN (eMt "str" startsF (eVar 0) (aCons (eC (.str (Str.ofString "-"))) aNil))))
  (sRet (eCB m_read_number (aCons (eVar 0) aNil)))
  sNil)
  (sSeq (sAsg (eCB m_read_number (aCons (eSl (eVar 0) (oSome (eC (.int 1))) oNone) aNil)) (gNm 1))
  (sRet (eIf (tOrM (tOf (eOp (isF false) (eVar 1) (eC .none))) (tOf (eOp eqU (eVar 1) (eC (.int 0))))) (eC .none) (eNeg (eVar 1))))))
noncomputable def m_read_deed : FA := mkFn 2 6 (sSeq (sStar 2 3 (eMt "str" splitF (eVar 1) (aCons (eC (.str (Str.ofString " "))) aNil)))
  (sSeq (sAsg (eLc (iSeq (eVar 3)) (gNm 5) tYesM (eCB m_read_whole (aCons (eVar 5) aNil)) [5]) (gNm 4))
  (sRet (eIf (tOrM (tOf (eOp (inU false) (eC .none) (eVar 4))) (tOf (eOp (inU true) (eTup (aCons (eVar 2) (aCons (eCB lenF (aCons (eVar 4) aNil)) aNil))) (eVar 0)))) (eC .none) (eTup (aCons (eVar 2) (aStar (eVar 4) aNil)))))))
noncomputable def m_read_history (A : Adr) : FX := mkFnX 2 4 (sSeqX (sIfX (tNotM (tOf (eCB isiF (aCons (eVar 1) (aCons (eK (.ty "str")) aNil)))))
  (sRaise A.C_NoText (Str.ofString "row") (eC (.int 0)))
  (sUp sNil))
  (sSeqX (sUp (sIf (tOf (eOp eqU (eVar 1) (eC (.str (Str.ofString "-")))))
  (sRet (eTup aNil))
  sNil))
  (sSeqX (sUp (sAsg (eCB tupleF (aCons (eLc (iSeq (eMt "str" splitF (eVar 1) (aCons (eC (.str (Str.ofString ", "))) aNil))) (gNm 3) tYesM (eCB m_read_deed (aCons (eVar 0) (aCons (eVar 3) aNil))) [3]) aNil)) (gNm 2)))
  (sSeqX (sIfX (tOf (eOp (inU false) (eC .none) (eVar 2)))
  (sRaise A.C_NoText (Str.ofString "row") (eC (.int 0)))
  (sUp sNil))
  (sUp (sRet (eVar 2)))))))
noncomputable def m_show_history : FA := mkFn 1 3 (sSeq (sIf (tOf (eOp eqU (eCB lenF (aCons (eVar 0) aNil)) (eC (.int 0))))
  (sRet (eC (.str (Str.ofString "-"))))
  sNil)
  (sRet (eMt "str" joinF (eC (.str (Str.ofString ", "))) (aCons (eLc (iSeq (eVar 0)) (gNm 1) tYesM (eMt "str" joinF (eC (.str (Str.ofString " "))) (aCons (eLc (iSeq (eVar 1)) (gNm 2) tYesM (eCB strSF (aCons (eVar 2) aNil)) [2]) aNil)) [1]) aNil))))
noncomputable def m__law_hand : FA := mkFn 2 4 (sSeq (sAsg (eIf (tOf (eOp ltU (eVar 1) (eCB lenF (aCons (eVar 0) aNil)))) (eOp ixU (eVar 0) (eVar 1)) (eOp addU (eOp mulU (eC (.int 3)) (eVar 1)) (eC (.int 5)))) (gNm 2))
  (sSeq (sAsg (eOp mulU (eOp modU (eCB absF (aCons (eVar 2) aNil)) (eOp powU (eOp powU (eC (.int 10)) (eC (.int 60))) (eC (.int 15)))) (eCB intF (aCons (eOp geU (eCB absF (aCons (eVar 2) aNil)) (eOp powU (eC (.int 10)) (eC (.int 18)))) aNil))) (gNm 3))
  (sRet (eLst (aCons (eVar 3) (aCons (eOp modU (eOp mulU (eOp addU (eOp addU (eOp modU (eVar 2) (eC (.int 2305843009213693951))) (eOp mulU (eOp mulU (eC (.int 104729)) (eVar 1)) (eVar 1))) (eC (.int 13))) (eC (.int 48271))) (eC (.int 2305843009213693921))) (aCons (eC (.int 0)) aNil)))))))
noncomputable def m__law_take : FA := mkFn 2 5 (sSeq (sIf (tOf (eOp gtU (eOp ixU (eVar 0) (eC (.int 0))) (eC (.int 0))))
  (sSeq (sAsg (eOp modU (eOp ixU (eVar 0) (eC (.int 0))) (eVar 1)) (gNm 2))
  (sSeq (sAsg (eOp fdivU (eOp ixU (eVar 0) (eC (.int 0))) (eVar 1)) (gSb (eVar 0) (eC (.int 0))))
  (sRet (eVar 2))))
  sNil)
  (sSeq (sAsg (eOp addU (eOp ixU (eVar 0) (eC (.int 2))) (eC (.int 1))) (gSb (eVar 0) (eC (.int 2))))
  (sSeq (sAsg (eOp ixU (eLst (aCons (eC (.int 2147483629)) (aCons (eC (.int 2147483587)) (aCons (eC (.int 2147483579)) (aCons (eC (.int 2147483563)) (aCons (eC (.int 2147483549)) (aCons (eC (.int 2147483543)) (aCons (eC (.int 2147483497)) aNil)))))))) (eOp modU (eOp ixU (eVar 0) (eC (.int 2))) (eC (.int 7)))) (gNm 3))
  (sSeq (sAsg (eOp modU (eOp powU (eOp addU (eOp ixU (eVar 0) (eC (.int 1))) (eOp mulU (eC (.int 7919)) (eOp ixU (eVar 0) (eC (.int 2))))) (eC (.int 3))) (eVar 3)) (gNm 4))
  (sRet (eOp modU (eOp fdivU (eOp modU (eOp mulU (eVar 4) (eOp addU (eOp modU (eVar 4) (eC (.int 1009))) (eOp ixU (eVar 0) (eC (.int 2))))) (eVar 3)) (eC (.int 11))) (eVar 1)))))))
noncomputable def m__law_of : FA := mkFn 2 2 (sRet (eOp ixU (eVar 1) (eCB m__law_take (aCons (eVar 0) (aCons (eCB lenF (aCons (eVar 1) aNil)) aNil)))))
noncomputable def m__law_names : FA := mkFn 2 12 (sSeq (sAsg (eC (.str (Str.ofString "abcdefghijklmnopqrstuvwxyz"))) (gNm 2))
  (sSeq (sPar 3 4 (aCons (eCB m__law_take (aCons (eVar 0) (aCons (eC (.int 26)) aNil))) (aCons (eCB m__law_of (aCons (eVar 0) (aCons (eLst (aCons (eC (.int 1)) (aCons (eC (.int 3)) (aCons (eC (.int 5)) (aCons (eC (.int 7)) (aCons (eC (.int 9)) (aCons (eC (.int 11)) aNil))))))) aNil))) aNil)))
  (sSeq (sAsg (eCB m__law_of (aCons (eVar 0) (aCons (eLst (aCons (eC (.int 0)) (aCons (eC (.int 0)) (aCons (eC (.int 1)) (aCons (eC (.int 2)) (aCons (eC (.int 3)) (aCons (eC (.int 6)) aNil))))))) aNil))) (gNm 5))
  (sSeq (sAsg (eMt "str" joinF (eC (.str (Str.ofString ""))) (aCons (eLc (iRg1 (aCons (eVar 5) aNil)) (gNm 6) tYesM (eCB m__law_of (aCons (eVar 0) (aCons (eVar 2) aNil))) [6]) aNil)) (gNm 7))
  (sSeq (sPar 8 9 (aCons (eCB m__law_take (aCons (eVar 0) (aCons (eOp addU (eVar 5) (eC (.int 1))) aNil))) (aCons (eLst aNil) aNil)))
  (sSeq (sFor (iRg1 (aCons (eVar 1) aNil)) (gNm 6)
  (sSeq (sAsg (eOp ixU (eVar 2) (eOp modU (eOp addU (eVar 3) (eOp mulU (eVar 4) (eVar 6))) (eC (.int 26)))) (gNm 10))
  (sSeq (sAsg (eOp addU (eOp addU (eSl (eVar 7) oNone (oSome (eVar 8))) (eVar 10)) (eSl (eVar 7) (oSome (eVar 8)) oNone)) (gNm 11))
  (sDrop (eMt "list" appendF (eVar 9) (aCons (eOp addU (eVar 11) (eOp mulU (eC (.str (Str.ofString "x"))) (eCB intF (aCons (eOp (inU false) (eVar 11) (eTup (aCons (eC (.str (Str.ofString "none"))) (aCons (eC (.str (Str.ofString "cell"))) (aCons (eC (.str (Str.ofString "came"))) (aCons (eC (.str (Str.ofString "kth"))) (aCons (eC (.str (Str.ofString "least"))) aNil))))))) aNil)))) aNil))))))
  (sRet (eVar 9))))))))
noncomputable def m__law_number : FA := mkFn 1 2 (sSeq (sAsg (eCB m__law_take (aCons (eVar 0) (aCons (eC (.int 9)) aNil))) (gNm 1))
  (sSeq (sIf (tOf (eOp ltU (eVar 1) (eC (.int 7))))
  (sRet (eCB m__law_take (aCons (eVar 0) (aCons (eC (.int 6)) aNil))))
  sNil)
  (sRet (eOp ixU (eLst (aCons (eCB m__law_take (aCons (eVar 0) (aCons (eOp powU (eC (.int 10)) (eC (.int 59))) aNil))) (aCons (eOp subU (eNeg (eC (.int 1))) (eCB m__law_take (aCons (eVar 0) (aCons (eC (.int 9)) aNil)))) aNil))) (eOp subU (eVar 1) (eC (.int 7)))))))
noncomputable def m__law_row : FA := mkFn 5 12 (sSeq (sAsg (eLst aNil) (gNm 5))
  (sSeq (sFor (iRg1 (aCons (eVar 4) aNil)) (gNm 6)
  (sSeq (sAsg (eLc (iRg1 (aCons (eCB lenF (aCons (eOp ixU (eVar 1) (eC (.int 1))) aNil)) aNil)) (gNm 7) (tOf (eOp (isF true) (eOp ixU (eOp ixU (eVar 2) (eVar 3)) (eVar 7)) (eC .none))) (eVar 7) [7]) (gNm 8))
  (sIf (tOf (eOp neU (eVar 8) (eLst aNil)))
  (sSeq (sAsg (eCB m__law_of (aCons (eVar 0) (aCons (eVar 8) aNil))) (gNm 7))
  (sSeq (sAsg (eOp ixU (eOp ixU (eVar 1) (eC (.int 1))) (eVar 7)) (gTp 2 (gCn (gNm 9) (gCn (gNm 10) gN0))))
  (sSeq (sDrop (eMt "list" appendF (eVar 5) (aCons (eOp addU (eTup (aCons (eVar 9) aNil)) (eCB tupleF (aCons (eLc (iRg1 (aCons (eVar 10) aNil)) (gNm 11) tYesM (eCB m__law_number (aCons (eVar 0) aNil)) [11]) aNil))) aNil)))
  (sAsg (eOp ixU (eOp ixU (eVar 2) (eVar 3)) (eVar 7)) (gNm 3)))))
  sNil)))
  (sRet (eTup (aCons (eCB tupleF (aCons (eVar 5) aNil)) (aCons (eVar 3) aNil))))))
noncomputable def m__law_figures : FA := mkFn 1 3 (sSeq (sIf (tOrM (tNotM (tOf (eChain ltU ltU (eC (.int 0)) (eCB lenF (aCons (eVar 0) aNil)) (eC (.int 71))))) (tOf (eOp neU (eLc (iTxt (eVar 0)) (gNm 1) (tOf (eOp (inU true) (eVar 1) (eC (.str (Str.ofString "0123456789"))))) (eVar 1) [1]) (eLst aNil))))
  (sRet (eC .none))
  sNil)
  (sSeq (sAsg (eC (.int 0)) (gNm 2))
  (sSeq (sFor (iTxt (eVar 0)) (gNm 1)
  (sAsg (eOp addU (eOp mulU (eC (.int 10)) (eVar 2)) (eMt "str" sindexF (eC (.str (Str.ofString "0123456789"))) (aCons (eVar 1) aNil))) (gNm 2)))
  (sRet (eIf (tOf (eOp eqU (eCB strF (aCons (eVar 2) aNil)) (eVar 0))) (eVar 2) (eC .none))))))
noncomputable def m__law_spoilt_row : FA := mkFn 2 10 (sSeq (sPar 2 3 (aCons (eC (.str (Str.ofString "abcxyz0123456789 -(),;.@none"))) (aCons (eMt "str" splitF (eVar 1) (aCons (eC (.str (Str.ofString " "))) aNil)) aNil)))
  (sSeq (sAsg (eTupN (aCons (eCB m__law_take (aCons (eVar 0) (aCons (eOp addU (eCB lenF (aCons (eVar 1) aNil)) (eC (.int 1))) aNil))) (aCons (eCB m__law_of (aCons (eVar 0) (aCons (eVar 2) aNil))) (aCons (eCB m__law_take (aCons (eVar 0) (aCons (eCB lenF (aCons (eVar 3) aNil)) aNil))) aNil)))) (gTp 3 (gCn (gNm 4) (gCn (gNm 5) (gCn (gNm 6) gN0)))))
  (sSeq (sAsg (eLst (aCons (eC (.str (Str.ofString "0"))) (aCons (eC (.str (Str.ofString "1"))) (aCons (eC (.str (Str.ofString "2"))) (aCons (eC (.str (Str.ofString "3"))) (aCons (eC (.str (Str.ofString "00"))) (aCons (eC (.str (Str.ofString "01"))) (aCons (eC (.str (Str.ofString "-1"))) (aCons (eC (.str (Str.ofString "6"))) (aCons (eOp mulZ (eC (.str (Str.ofString "9"))) (eC (.int 70))) (aCons (eOp addU (eC (.str (Str.ofString "1"))) (eOp mulZ (eC (.str (Str.ofString "0"))) (eC (.int 70)))) (aCons (eC (.str (Str.ofString "none"))) (aCons (eC (.str (Str.ofString "cell"))) (aCons (eC (.str (Str.ofString "came"))) (aCons (eC (.str (Str.ofString "came0"))) (aCons (eC (.str (Str.ofString ""))) aNil)))))))))))))))) (gNm 7))
  (sSeq (sAsg (eOp addU (eVar 7) (eLst (aCons (eC (.str (Str.ofString "kth"))) (aCons (eC (.str (Str.ofString "kth()"))) (aCons (eC (.str (Str.ofString "kth(1;none)"))) (aCons (eC (.str (Str.ofString "kth(0;none)"))) (aCons (eC (.str (Str.ofString "greatest()"))) (aCons (eC (.str (Str.ofString "least(none,none,none,none,none,none)"))) aNil)))))))) (gNm 7))
  (sSeq (sAsg (eOp addU (eVar 7) (eLst (aCons (eOp addU (eOp addU (eOp mulZ (eC (.str (Str.ofString "least("))) (eC (.int 7))) (eC (.str (Str.ofString "none")))) (eOp mulZ (eC (.str (Str.ofString ")"))) (eC (.int 7)))) (aCons (eOp addU (eOp addU (eOp mulZ (eC (.str (Str.ofString "least("))) (eC (.int 8))) (eC (.str (Str.ofString "none")))) (eOp mulZ (eC (.str (Str.ofString ")"))) (eC (.int 8)))) (aCons (eC (.str (Str.ofString "kth(2;none)"))) (aCons (eC (.str (Str.ofString "abcdefghi"))) (aCons (eC (.str (Str.ofString "on"))) aNil))))))) (gNm 7))
  (sSeq (sAsg (eOp addU (eVar 7) (eLst (aCons (eOp addU (eOp addU (eOp mulZ (eC (.str (Str.ofString "greatest("))) (eC (.int 600))) (eC (.str (Str.ofString "none")))) (eOp mulZ (eC (.str (Str.ofString ")"))) (eC (.int 600)))) (aCons (eOp mulZ (eC (.str (Str.ofString "("))) (eC (.int 3000))) (aCons (eC (.str (Str.ofString "cells"))) (aCons (eC (.str (Str.ofString "deed"))) (aCons (eC (.str (Str.ofString "mode"))) (aCons (eC (.str (Str.ofString "set"))) (aCons (eC (.str (Str.ofString "tell"))) (aCons (eC (.str (Str.ofString "let"))) aNil)))))))))) (gNm 7))
  (sSeq (sAsg (eOp addU (eVar 7) (eLst (aCons (eC (.str (Str.ofString "place"))) (aCons (eC (.str (Str.ofString "came2"))) (aCons (eC (.str (Str.ofString "- 1"))) (aCons (eC (.str (Str.ofString "5@0.0"))) aNil)))))) (gNm 7))
  (sSeq (sAsg (eCB m__law_take (aCons (eVar 0) (aCons (eC (.int 8)) aNil))) (gNm 8))
  (sSeq (sIf (tOf (eOp ltU (eVar 8) (eC (.int 3))))
  (sRet (eOp ixU (eLst (aCons (eOp addU (eOp addU (eSl (eVar 1) oNone (oSome (eVar 4))) (eVar 5)) (eSl (eVar 1) (oSome (eVar 4)) oNone)) (aCons (eOp addU (eSl (eVar 1) oNone (oSome (eVar 4))) (eSl (eVar 1) (oSome (eOp addU (eVar 4) (eC (.int 1)))) oNone)) (aCons (eOp addU (eOp addU (eSl (eVar 1) oNone (oSome (eVar 4))) (eVar 5)) (eSl (eVar 1) (oSome (eOp addU (eVar 4) (eC (.int 1)))) oNone)) aNil)))) (eVar 8)))
  sNil)
  (sSeq (sIf (tOf (eOp ltU (eVar 8) (eC (.int 6))))
  (sRet (eMt "str" joinF (eC (.str (Str.ofString " "))) (aCons (eOp addU (eOp addU (eSl (eVar 3) oNone (oSome (eVar 6))) (eLst (aCons (eCB m__law_of (aCons (eVar 0) (aCons (eVar 7) aNil))) aNil))) (eSl (eVar 3) (oSome (eOp addU (eVar 6) (eC (.int 1)))) oNone)) aNil)))
  sNil)
  (sSeq (sAsg (eOp mulU (eSl (eVar 3) (oSome (eVar 6)) (oSome (eOp addU (eVar 6) (eC (.int 1))))) (eOp mulU (eC (.int 2)) (eCB intF (aCons (eOp eqU (eVar 8) (eC (.int 6))) aNil)))) (gNm 9))
  (sRet (eMt "str" joinF (eC (.str (Str.ofString " "))) (aCons (eOp addU (eOp addU (eSl (eVar 3) oNone (oSome (eVar 6))) (eVar 9)) (eSl (eVar 3) (oSome (eOp addU (eVar 6) (eC (.int 1)))) oNone)) aNil))))))))))))))
noncomputable def m__law_row_text : FA := mkFn 1 4 (sSeq (sAsg (eLc (iSeq (eVar 0)) (gNm 2) tYesM (eMt "str" joinF (eC (.str (Str.ofString " "))) (aCons (eOp addU (eLst (aCons (eOp ixU (eVar 2) (eC (.int 0))) aNil)) (eLc (iSeq (eSl (eVar 2) (oSome (eC (.int 1))) oNone)) (gNm 3) tYesM (eCB strF (aCons (eVar 3) aNil)) [3])) aNil)) [2]) (gNm 1))
  (sRet (eIf (tOf (eOp neU (eVar 1) (eLst aNil))) (eMt "str" joinF (eC (.str (Str.ofString ", "))) (aCons (eVar 1) aNil)) (eC (.str (Str.ofString "-"))))))
noncomputable def m__law_read_row : FA := mkFn 2 9 (sSeq (sIf (tNotM (tOf (eCB isiF (aCons (eVar 1) (aCons (eK (.ty "str")) aNil)))))
  (sRet (eLst (aCons (eC (.int 0)) aNil)))
  sNil)
  (sSeq (sPar 2 3 (aCons (eLst aNil) (aCons (eCB dictPF (aCons (eCB listF (aCons (eVar 0) aNil)) aNil)) aNil)))
  (sSeq (sFor (iSeq (eIf (tOf (eOp eqU (eVar 1) (eC (.str (Str.ofString "-"))))) (eLst aNil) (eMt "str" splitF (eVar 1) (aCons (eC (.str (Str.ofString ", "))) aNil)))) (gNm 4)
  (sSeq (sPar 5 6 (aCons (eMt "str" splitF (eVar 4) (aCons (eC (.str (Str.ofString " "))) aNil)) (aCons (eLst aNil) aNil)))
  (sSeq (sIf (tOrM (tOf (eOp (inG true) (eOp ixU (eVar 5) (eC (.int 0))) (eVar 3))) (tOf (eOp neU (eCB lenF (aCons (eVar 5) aNil)) (eOp addU (eC (.int 1)) (eOp ixG (eVar 3) (eOp ixU (eVar 5) (eC (.int 0))))))))
  (sRet (eLst (aCons (eC (.int 0)) aNil)))
  sNil)
  (sSeq (sFor (iSeq (eSl (eVar 5) (oSome (eC (.int 1))) oNone)) (gNm 7)
  (sSeq (sAsg (eCB m__law_figures (aCons (eIf (tOf (eOp eqU (eSl (eVar 7) oNone (oSome (eC (.int 1)))) (eC (.str (Str.ofString "-"))))) (eSl (eVar 7) (oSome (eC (.int 1))) oNone) (eVar 7)) aNil)) (gNm 8))
  (sSeq (sIf (tOrM (tOf (eOp (isF false) (eVar 8) (eC .none))) (tOf (eOp eqU (eVar 7) (eC (.str (Str.ofString "-0"))))))
  (sRet (eLst (aCons (eC (.int 0)) aNil)))
  sNil)
  (sDrop (eMt "list" appendF (eVar 6) (aCons (eIf (tOf (eOp eqU (eSl (eVar 7) oNone (oSome (eC (.int 1)))) (eC (.str (Str.ofString "-"))))) (eOp subU (eC (.int 0)) (eVar 8)) (eVar 8)) aNil))))))
  (sDrop (eMt "list" appendF (eVar 2) (aCons (eOp addU (eTup (aCons (eOp ixU (eVar 5) (eC (.int 0))) aNil)) (eCB tupleF (aCons (eVar 6) aNil))) aNil)))))))
  (sRet (eCB tupleF (aCons (eVar 2) aNil))))))
noncomputable def m__law_told (A : Adr) : FA := mkFn 2 6 (sSeq (sAsg (eTupN (aCons (eC .none) (aCons (eC .none) aNil))) (gTp 2 (gCn (gNm 2) (gCn (gNm 3) gN0))))
  (sSeq (sTryK [A.C_NoText] 4 2 (sSetX 3 (eCX (m_read_history A) (aCons (eVar 0) (aCons (eVar 1) aNil)))))
  (sSeq (sIf (tOf (eOp (isF false) (eVar 2) (eC .none)))
  (sRet (eVar 3))
  sNil)
  (sSeq (sAsg (eAnd (eCB (isX (tab A)) (aCons (eVar 2) (aCons (eK (.adr A.C_NoText)) aNil))) (eCB (isX (tab A)) (aCons (eVar 2) (aCons (eK (.ty "ValueError")) aNil)))) (gNm 5))
  (sRet (eIf (tTrN (eVar 5)) (eLst (aCons (eXf [A.C_NoText] (Str.ofString "row") (eVar 2)) aNil)) (eC (.str (Str.ofString "odd")))))))))
noncomputable def m_law (A : Adr) : FA := mkFn 1 16 (sSeq (sFor (iRg1 (aCons (eOp addU (eC (.int 1)) (eCB min2F (aCons (eC (.int 3)) (aCons (eCB lenF (aCons (eVar 0) aNil)) aNil)))) aNil)) (gNm 1)
  (sSeq (sAsg (eCB m__law_hand (aCons (eVar 0) (aCons (eVar 1) aNil))) (gNm 2))
  (sSeq (sAsg (eCB m__law_names (aCons (eVar 2) (aCons (eC (.int 4)) aNil))) (gNm 3))
  (sSeq (sAsg (eCB tupleF (aCons (eLc (iRg1 (aCons (eOp addU (eC (.int 1)) (eCB m__law_take (aCons (eVar 2) (aCons (eC (.int 4)) aNil)))) aNil)) (gNm 14) tYesM (eTup (aCons (eOp ixU (eVar 3) (eVar 14)) (aCons (eCB m__law_take (aCons (eVar 2) (aCons (eC (.int 3)) aNil))) aNil))) [14]) aNil)) (gNm 4))
  (sFor (iRg1 (aCons (eC (.int 2)) aNil)) (gNm 5)
  (sSeq (sAsg (eCB m__law_row (aCons (eVar 2) (aCons (eTup (aCons (eTup aNil) (aCons (eVar 4) (aCons (eTup aNil) aNil)))) (aCons (eTup (aCons (eOp mulU (eTup (aCons (eC (.int 0)) aNil)) (eCB lenF (aCons (eVar 4) aNil))) aNil)) (aCons (eC (.int 0)) (aCons (eCB m__law_take (aCons (eVar 2) (aCons (eC (.int 31)) aNil))) aNil)))))) (gTp 2 (gCn (gNm 6) (gCn (gNm 7) gN0))))
  (sSeq (sPar 8 9 (aCons (eCB m__law_row_text (aCons (eVar 6) aNil)) (aCons (eCB reprF (aCons (eVar 6) aNil)) aNil)))
  (sSeq (sIf (tOrM (tOf (eOp neU (eCB m_show_history (aCons (eVar 6) aNil)) (eVar 8))) (tOrM (tOf (eOp neU (eCK m_show_history kb_show_history_0_history aNil (aCons (eVar 6) aNil)) (eVar 8))) (tOf (eOp neU (eCB reprF (aCons (eVar 6) aNil)) (eVar 9)))))
  (sRet (eC (.bool false)))
  sNil)
  (sSeq (sAsg (eLst (aCons (eVar 8) (aCons (eC (.str (Str.ofString "-"))) (aCons (eC (.str (Str.ofString ""))) (aCons (eC .none) (aCons (eTup aNil) (aCons (eVar 6) (aCons (eC (.int 0)) (aCons (eOp addU (eVar 8) (eC (.str (Str.ofString ", ")))) (aCons (eOp addU (eVar 8) (eC (.str (Str.ofString "\n")))) (aCons (eOp addU (eVar 8) (eC (.str (Str.ofString ", -")))) (aCons (eC (.str (Str.ofString "- "))) (aCons (eOp addU (eVar 8) (eC (.str (Str.ofString ",")))) aNil))))))))))))) (gNm 10))
  (sSeq (sFor (iRg1 (aCons (eC (.int 14)) aNil)) (gNm 11)
  (sSeq (sAsg (eCB m__law_spoilt_row (aCons (eVar 2) (aCons (eVar 8) aNil))) (gNm 12))
  (sDrop (eMt "list" appendF (eVar 10) (aCons (eIf (tOf (eOp eqU (eCB m__law_take (aCons (eVar 2) (aCons (eC (.int 3)) aNil))) (eC (.int 0)))) (eCB m__law_spoilt_row (aCons (eVar 2) (aCons (eVar 12) aNil))) (eVar 12)) aNil)))))
  (sFor (iSeq (eLc (iSeq (eVar 10)) (gNm 15) (tOrM (tNotM (tOf (eCB isiF (aCons (eVar 15) (aCons (eK (.ty "str")) aNil))))) (tOf (eOp ltU (eCB lenF (aCons (eVar 15) aNil)) (eC (.int 20001))))) (eVar 15) [15])) (gNm 13)
  (sIf (tOf (eOp neU (eCB reprF (aCons (eCB (m__law_told A) (aCons (eVar 4) (aCons (eVar 13) aNil))) aNil)) (eCB reprF (aCons (eCB m__law_read_row (aCons (eVar 4) (aCons (eVar 13) aNil))) aNil))))
  (sRet (eC (.bool false)))
  sNil))))))))))))
  (sRet (eC (.bool true))))
section
variable {K : PySem.W.Frag} {mg : Str → Option Value}
theorem Txt.tab (T : Txt K mg) : KitOk K (tab T.A) := ⟨fun t c b h => by
  unfold Z.tab at h
  split at h
  · rename_i e
    obtain ⟨rfl, rfl⟩ := e
    cases h
    exact ⟨T.kn_NoText, fun C h => (by cases h)⟩
  split at h
  · rename_i e
    obtain ⟨rfl, rfl⟩ := e
    cases h
    exact ⟨T.kv_NoText, fun C h => (by cases h; exact T.kc_NoText)⟩
  split at h
  · rename_i e
    obtain ⟨rfl, rfl⟩ := e
    cases h
    exact ⟨T.ks_NoText_NoText, fun C h => (by cases h; exact T.kc_NoText)⟩
  cases h⟩
end
end Z

namespace Z
open PySem PySem.Spec PyProof.Rows L2 Lw Pu
section
variable {P : Program} {w : World} {K : PySem.W.Frag} {mg : Str → Option Value} {base : Heap}
theorem ok_read_number (T : Txt K mg) : FnOk P w K mg base CX0 1 T.f_read_number T.fd_read_number ["word"] (spOf K m_read_number) := fn_ok (k := 0) T.F_read_number sc_read_number rfl rfl (fun cdv A outer s H E hr => (qss_cons (qs_if (QW.pt (qw_or (qt_not (qt_chain (q_le hr) (q_le hr) qe_int (qe_callB q_len (by rfl) T.m_len (by decide +kernel) (qa_cons (qe_var (i := 0)) qa_nil)) (qe_globI (by rfl) T.m_MOST_FIGURES))) (qw_or1 (qt_not (qt_val (qe_callB (q_all rfl) (by rfl) T.m_all (by decide +kernel) (qa_cons (qe_lc (own := [("sign", 1)]) rfl sc_read_number.nd (qi_txt (qe_var (i := 0))) ws_txt (blkOk_by (N := ["word", "sign"]) (sc := defScope s_read_number) (by decide +kernel)) (len_nm 1) (by decide) (fun _ _ _ _ _ => (qg_name (i := 1) sc_read_number.nd rfl (Or.inl rfl))) (fun _ _ _ _ _ => qts_nil) (fun _ _ _ _ _ => (qe_cmp (q_in hr) (qe_var (i := 1)) (qe_globS (by rfl) T.m_FIGURES)))) qa_nil))))))) (qss_one (qs_ret qe_non)) qss_nil)
      (qss_one (qs_ret (qe_ifExp (QW.pt (qw_and (qt_cmp (q_gt hr) (qe_callB q_len (by rfl) T.m_len (by decide +kernel) (qa_cons (qe_var (i := 0)) qa_nil)) qe_int) (qw_and1 (qt_cmp (q_eq hr) (qe_ix (qe_var (i := 0)) qe_int) qe_str)))) qe_non (qe_callTy q_intS (by rfl) T.m_int (by decide +kernel) (qa_cons (qe_var (i := 0)) qa_nil)))))))
theorem ok_read_whole (T : Txt K mg) : FnOk P w K mg base CX0 2 T.f_read_whole T.fd_read_whole ["word"] (spOf K m_read_whole) := fn_ok (k := 1) T.F_read_whole sc_read_whole rfl rfl (fun cdv A outer s H E hr => (qss_cons (qs_if (qt_not (qt_truth (qe_bm PySem.F.plainAttrs_str PySem.F.slot_str_startswith PySem.F.type_str_startswith q_starts (qe_var (i := 0)) (qa_cons qe_str qa_nil)))) (qss_one (qs_ret (qe_call (ok_read_number T) (hr.mono (by decide)) (by rfl) T.g_read_number T.k_read_number T.b_read_number (qa_cons (qe_var (i := 0)) qa_nil)))) qss_nil)
      (qss_cons (qs_set (i := 1) sc_read_whole.nd rfl (.inl rfl) (qe_call (ok_read_number T) (hr.mono (by decide)) (by rfl) T.g_read_number T.k_read_number T.b_read_number (qa_cons (qe_slice (qe_var (i := 0)) (qo_some qe_int) qo_none) qa_nil)))
      (qss_one (qs_ret (qe_ifExp (QW.pt (qw_or (qt_cmp q_is (qe_var (i := 1)) qe_non) (qw_or1 (qt_cmp (q_eq hr) (qe_var (i := 1)) qe_int)))) qe_non (qe_neg (qe_var (i := 1)))))))))
theorem ok_read_deed (T : Txt K mg) : FnOk P w K mg base CX0 3 T.f_read_deed T.fd_read_deed ["deeds", "row"] (spOf K m_read_deed) := fn_ok (k := 2) T.F_read_deed sc_read_deed rfl rfl (fun cdv A outer s H E hr => (qss_cons (qs_star (i := 2) (j := 3) rfl sc_read_deed.nd rfl rfl (.inl rfl) (.inl rfl) (qe_bm PySem.F.plainAttrs_str PySem.F.slot_str_split PySem.F.type_str_split q_split (qe_var (i := 1)) (qa_cons qe_str qa_nil)))
      (qss_cons (qs_setLc (i := 4) (own := [("word", 5)]) rfl sc_read_deed.nd rfl rfl (sw_true rfl rfl rfl (by decide +kernel)) (qi_seq (qe_var (i := 3))) ws_seq (blkOk_by (N := ["deeds", "row", "name", "words", "numbers", "word"]) (sc := defScope s_read_deed) (by decide +kernel)) (len_nm 5) (by decide) (fun _ _ _ _ _ => (qg_name (i := 5) sc_read_deed.nd rfl (Or.inl rfl))) (fun _ _ _ _ _ => qts_nil) (fun _ _ _ _ _ => (qe_call (ok_read_whole T) (hr.mono (by decide)) (by rfl) T.g_read_whole T.k_read_whole T.b_read_whole (qa_cons (qe_var (i := 5)) qa_nil))))
      (qss_one (qs_ret (qe_ifExp (QW.pt (qw_or (qt_cmp (q_in hr) qe_non (qe_var (i := 4))) (qw_or1 (qt_cmp (q_notIn hr) (qe_tup (qa_cons (qe_var (i := 2)) (qa_cons (qe_callB q_len (by rfl) T.m_len (by decide +kernel) (qa_cons (qe_var (i := 4)) qa_nil)) qa_nil))) (qe_var (i := 0)))))) qe_non (qe_tup (qa_cons (qe_var (i := 2)) (qa_star (qe_var (i := 4)) qa_nil)))))))))
theorem ok_read_history (T : Txt K mg) : FnOk P w K mg base (L2.CX P w) 4 T.f_read_history T.fd_read_history ["deeds", "text"] (spX K (m_read_history T.A)) := fnx_ok (k := 3) T.F_read_history sc_read_history rfl rfl (fun cdv A outer s H E hr => (qssx_cons (qsx_if (qt_not (qt_val (qe_callB q_isi (by rfl) T.m_isinstance (by decide +kernel) (qa_cons (qe_var (i := 1)) (qa_cons (qe_ty (n := "str") (by rfl) T.m_str (by decide +kernel)) qa_nil))))) (qssx_one (qsx_raise1 rfl T.ox_NoText T.ii_NoText T.ti_NoText (T.oki_NoText) (hr.mono (by decide)) T.bi_NoText (by rfl) T.mC_NoText qe_int)) (qssx_up qss_nil))
      (qssx_cons (qsx_up (qs_if (qt_cmp (q_eq hr) (qe_var (i := 1)) qe_str) (qss_one (qs_ret (qe_tup qa_nil))) qss_nil))
      (qssx_cons (qsx_up (qs_set (i := 2) sc_read_history.nd rfl (.inl rfl) (qe_callTy q_tuple (by rfl) T.m_tuple (by decide +kernel) (qa_cons (qe_lc (own := [("part", 3)]) rfl sc_read_history.nd (qi_seq (qe_bm PySem.F.plainAttrs_str PySem.F.slot_str_split PySem.F.type_str_split q_split (qe_var (i := 1)) (qa_cons qe_str qa_nil))) ws_seq (blkOk_by (N := ["deeds", "text", "history", "part"]) (sc := defScope s_read_history) (by decide +kernel)) (len_nm 3) (by decide) (fun _ _ _ _ _ => (qg_name (i := 3) sc_read_history.nd rfl (Or.inl rfl))) (fun _ _ _ _ _ => qts_nil) (fun _ _ _ _ _ => (qe_call (ok_read_deed T) (hr.mono (by decide)) (by rfl) T.g_read_deed T.k_read_deed T.b_read_deed (qa_cons (qe_var (i := 0)) (qa_cons (qe_var (i := 3)) qa_nil))))) qa_nil))))
      (qssx_cons (qsx_if (qt_cmp (q_in hr) qe_non (qe_var (i := 2))) (qssx_one (qsx_raise1 rfl T.ox_NoText T.ii_NoText T.ti_NoText (T.oki_NoText) (hr.mono (by decide)) T.bi_NoText (by rfl) T.mC_NoText qe_int)) (qssx_up qss_nil))
      (qssx_up (qss_one (qs_ret (qe_var (i := 2))))))))))
theorem ok_show_history (T : Txt K mg) : FnOk P w K mg base CX0 1 T.f_show_history T.fd_show_history ["history"] (spOf K m_show_history) := fn_ok (k := 0) T.F_show_history sc_show_history rfl rfl (fun cdv A outer s H E hr => (qss_cons (qs_if (qt_cmp (q_eq hr) (qe_callB q_len (by rfl) T.m_len (by decide +kernel) (qa_cons (qe_var (i := 0)) qa_nil)) qe_int) (qss_one (qs_ret qe_str)) qss_nil)
      (qss_one (qs_ret (qe_bm PySem.F.plainAttrs_str PySem.F.slot_str_join PySem.F.type_str_join q_join qe_str (qa_cons (qe_lc (own := [("deed", 1)]) rfl sc_show_history.nd (qi_seq (qe_var (i := 0))) ws_seq (blkOk_by (N := ["history", "deed", "part"]) (sc := defScope s_show_history) (by decide +kernel)) (len_nm 1) (by decide) (fun _ _ _ _ _ => (qg_name (i := 1) sc_show_history.nd rfl (Or.inl rfl))) (fun _ _ _ _ _ => qts_nil) (fun _ _ _ _ _ => (qe_bm PySem.F.plainAttrs_str PySem.F.slot_str_join PySem.F.type_str_join q_join qe_str (qa_cons (qe_lc (own := [("part", 2)]) rfl sc_show_history.nd (qi_seq (qe_var (i := 1))) ws_seq (blkOk_by (N := ["history", "deed", "part"]) (sc := ({ kind := PySem.ScopeKind.function, names := [(PySem.Str.ofString ".0", PySem.NameKind.local), (PySem.Str.ofString "deed", PySem.NameKind.local)], isGenerator := false, isCoroutine := false, more := [] : PySem.Scope })) (by decide +kernel)) (len_nm 2) (by decide) (fun _ _ _ _ _ => (qg_name (i := 2) sc_show_history.nd rfl (Or.inl rfl))) (fun _ _ _ _ _ => qts_nil) (fun _ _ _ _ _ => (qe_callTy q_strS (by rfl) T.m_str (by decide +kernel) (qa_cons (qe_var (i := 2)) qa_nil)))) qa_nil)))) qa_nil))))))
theorem ok__law_hand (T : Txt K mg) : FnOk P w K mg base CX0 1 T.f__law_hand T.fd__law_hand ["_law_script", "_law_nth"] (spOf K m__law_hand) := fn_ok (k := 0) T.F__law_hand sc__law_hand rfl rfl (fun cdv A outer s H E hr => (qss_cons (qs_set (i := 2) sc__law_hand.nd rfl (.inl rfl) (qe_ifExp (qt_cmp (q_lt hr) (qe_var (i := 1)) (qe_callB q_len (by rfl) T.m_len (by decide +kernel) (qa_cons (qe_var (i := 0)) qa_nil))) (qe_ix (qe_var (i := 0)) (qe_var (i := 1))) (qe_op q_add (qe_op q_mul qe_int (qe_var (i := 1))) qe_int)))
      (qss_cons (qs_set (i := 3) sc__law_hand.nd rfl (.inl rfl) (qe_op q_mul (qe_op q_mod (qe_callB q_abs (by rfl) T.m_abs (by decide +kernel) (qa_cons (qe_var (i := 2)) qa_nil)) (qe_op q_pow (qe_op q_pow qe_int qe_int) qe_int)) (qe_callTy q_int (by rfl) T.m_int (by decide +kernel) (qa_cons (qe_cmp (q_ge hr) (qe_callB q_abs (by rfl) T.m_abs (by decide +kernel) (qa_cons (qe_var (i := 2)) qa_nil)) (qe_op q_pow qe_int qe_int)) qa_nil))))
      (qss_one (qs_ret (qe_lst (qa_cons (qe_var (i := 3)) (qa_cons (qe_op q_mod (qe_op q_mul (qe_op q_add (qe_op q_add (qe_op q_mod (qe_var (i := 2)) qe_int) (qe_op q_mul (qe_op q_mul qe_int (qe_var (i := 1))) (qe_var (i := 1)))) qe_int) qe_int) qe_int) (qa_cons qe_int qa_nil)))))))))
theorem ok__law_take (T : Txt K mg) : FnOk P w K mg base CX0 1 T.f__law_take T.fd__law_take ["_law_hand_here", "_law_upon"] (spOf K m__law_take) := fn_ok (k := 0) T.F__law_take sc__law_take rfl rfl (fun cdv A outer s H E hr => (qss_cons (qs_if (qt_cmp (q_gt hr) (qe_ix (qe_var (i := 0)) qe_int) qe_int) (qss_cons (qs_set (i := 2) sc__law_take.nd rfl (.inl rfl) (qe_op q_mod (qe_ix (qe_var (i := 0)) qe_int) (qe_var (i := 1))))
      (qss_cons (qs_asg (qe_op q_fdiv (qe_ix (qe_var (i := 0)) qe_int) (qe_var (i := 1))) (qg_sub (qe_var (i := 0)) qe_int))
      (qss_one (qs_ret (qe_var (i := 2)))))) qss_nil)
      (qss_cons (qs_asg (qe_op q_add (qe_ix (qe_var (i := 0)) qe_int) qe_int) (qg_sub (qe_var (i := 0)) qe_int))
      (qss_cons (qs_set (i := 3) sc__law_take.nd rfl (.inl rfl) (qe_ix (qe_lst (qa_cons qe_int (qa_cons qe_int (qa_cons qe_int (qa_cons qe_int (qa_cons qe_int (qa_cons qe_int (qa_cons qe_int qa_nil)))))))) (qe_op q_mod (qe_ix (qe_var (i := 0)) qe_int) qe_int)))
      (qss_cons (qs_set (i := 4) sc__law_take.nd rfl (.inl rfl) (qe_op q_mod (qe_op q_pow (qe_op q_add (qe_ix (qe_var (i := 0)) qe_int) (qe_op q_mul qe_int (qe_ix (qe_var (i := 0)) qe_int))) qe_int) (qe_var (i := 3))))
      (qss_one (qs_ret (qe_op q_mod (qe_op q_fdiv (qe_op q_mod (qe_op q_mul (qe_var (i := 4)) (qe_op q_add (qe_op q_mod (qe_var (i := 4)) qe_int) (qe_ix (qe_var (i := 0)) qe_int))) (qe_var (i := 3))) qe_int) (qe_var (i := 1))))))))))
theorem ok__law_of (T : Txt K mg) : FnOk P w K mg base CX0 2 T.f__law_of T.fd__law_of ["_law_hand_here", "_law_some"] (spOf K m__law_of) := fn_ok (k := 1) T.F__law_of sc__law_of rfl rfl (fun cdv A outer s H E hr => (qss_one (qs_ret (qe_ix (qe_var (i := 1)) (qe_call (ok__law_take T) (hr.mono (by decide)) (by rfl) T.g__law_take T.k__law_take T.b__law_take (qa_cons (qe_var (i := 0)) (qa_cons (qe_callB q_len (by rfl) T.m_len (by decide +kernel) (qa_cons (qe_var (i := 1)) qa_nil)) qa_nil)))))))
theorem ok__law_names (T : Txt K mg) : FnOk P w K mg base CX0 3 T.f__law_names T.fd__law_names ["_law_hand_here", "_law_count"] (spOf K m__law_names) := fn_ok (k := 2) T.F__law_names sc__law_names rfl rfl (fun cdv A outer s H E hr => (qss_cons (qs_set (i := 2) sc__law_names.nd rfl (.inr rfl) qe_str)
      (qss_cons (qs_par (i := 3) (j := 4) rfl sc__law_names.nd rfl rfl (by decide) rfl rfl (qa_cons (qe_call (ok__law_take T) (hr.mono (by decide)) (by rfl) T.g__law_take T.k__law_take T.b__law_take (qa_cons (qe_var (i := 0)) (qa_cons qe_int qa_nil))) (qa_cons (qe_call (ok__law_of T) (hr.mono (by decide)) (by rfl) T.g__law_of T.k__law_of T.b__law_of (qa_cons (qe_var (i := 0)) (qa_cons (qe_lst (qa_cons qe_int (qa_cons qe_int (qa_cons qe_int (qa_cons qe_int (qa_cons qe_int (qa_cons qe_int qa_nil))))))) qa_nil))) qa_nil)) (by rfl))
      (qss_cons (qs_set (i := 5) sc__law_names.nd rfl (.inl rfl) (qe_call (ok__law_of T) (hr.mono (by decide)) (by rfl) T.g__law_of T.k__law_of T.b__law_of (qa_cons (qe_var (i := 0)) (qa_cons (qe_lst (qa_cons qe_int (qa_cons qe_int (qa_cons qe_int (qa_cons qe_int (qa_cons qe_int (qa_cons qe_int qa_nil))))))) qa_nil))))
      (qss_cons (qs_set (i := 7) sc__law_names.nd rfl (.inl rfl) (qe_bm PySem.F.plainAttrs_str PySem.F.slot_str_join PySem.F.type_str_join q_join qe_str (qa_cons (qe_lc (own := [("_law_turn", 6)]) rfl sc__law_names.nd (qi_range1 (by rfl) T.m_range (qa_cons (qe_var (i := 5)) qa_nil)) ws_rg1 (blkOk_by (N := ["_law_hand_here", "_law_count", "_law_letters", "_law_start", "_law_leap", "_law_long", "_law_turn", "_law_stem", "_law_cut", "_law_found", "_law_letter", "_law_word"]) (sc := defScope s__law_names) (by decide +kernel)) (len_nm 6) (by decide) (fun _ _ _ _ _ => (qg_name (i := 6) sc__law_names.nd rfl (Or.inl rfl))) (fun _ _ _ _ _ => qts_nil) (fun _ _ _ _ _ => (qe_call (ok__law_of T) (hr.mono (by decide)) (by rfl) T.g__law_of T.k__law_of T.b__law_of (qa_cons (qe_var (i := 0)) (qa_cons (qe_var (i := 2)) qa_nil))))) qa_nil)))
      (qss_cons (qs_par (i := 8) (j := 9) rfl sc__law_names.nd rfl rfl (by decide) rfl rfl (qa_cons (qe_call (ok__law_take T) (hr.mono (by decide)) (by rfl) T.g__law_take T.k__law_take T.b__law_take (qa_cons (qe_var (i := 0)) (qa_cons (qe_op q_add (qe_var (i := 5)) qe_int) qa_nil))) (qa_cons (qe_lst qa_nil) qa_nil)) (by rfl))
      (qss_cons (qs_for PassesOwn.never rfl (qi_range1 (by rfl) T.m_range (qa_cons (qe_var (i := 1)) qa_nil)) (qg_name (i := 6) sc__law_names.nd rfl (.inl rfl)) (qss_cons (qs_set (i := 10) sc__law_names.nd rfl (.inl rfl) (qe_ix (qe_var (i := 2)) (qe_op q_mod (qe_op q_add (qe_var (i := 3)) (qe_op q_mul (qe_var (i := 4)) (qe_var (i := 6)))) qe_int)))
      (qss_cons (qs_set (i := 11) sc__law_names.nd rfl (.inl rfl) (qe_op q_add (qe_op q_add (qe_slice (qe_var (i := 7)) qo_none (qo_some (qe_var (i := 8)))) (qe_var (i := 10))) (qe_slice (qe_var (i := 7)) (qo_some (qe_var (i := 8))) qo_none)))
      (qss_one (qs_expr (qe_bm PySem.F.plainAttrs_list PySem.F.slot_list_append PySem.F.type_list_append q_append (qe_var (i := 9)) (qa_cons (qe_op q_add (qe_var (i := 11)) (qe_op q_mul qe_str (qe_callTy q_int (by rfl) T.m_int (by decide +kernel) (qa_cons (qe_cmp (q_in hr) (qe_var (i := 11)) (qe_tup (qa_cons qe_str (qa_cons qe_str (qa_cons qe_str (qa_cons qe_str (qa_cons qe_str qa_nil))))))) qa_nil)))) qa_nil)))))))
      (qss_one (qs_ret (qe_var (i := 9)))))))))))
theorem ok__law_number (T : Txt K mg) : FnOk P w K mg base CX0 2 T.f__law_number T.fd__law_number ["_law_hand_here"] (spOf K m__law_number) := fn_ok (k := 1) T.F__law_number sc__law_number rfl rfl (fun cdv A outer s H E hr => (qss_cons (qs_set (i := 1) sc__law_number.nd rfl (.inl rfl) (qe_call (ok__law_take T) (hr.mono (by decide)) (by rfl) T.g__law_take T.k__law_take T.b__law_take (qa_cons (qe_var (i := 0)) (qa_cons qe_int qa_nil))))
      (qss_cons (qs_if (qt_cmp (q_lt hr) (qe_var (i := 1)) qe_int) (qss_one (qs_ret (qe_call (ok__law_take T) (hr.mono (by decide)) (by rfl) T.g__law_take T.k__law_take T.b__law_take (qa_cons (qe_var (i := 0)) (qa_cons qe_int qa_nil))))) qss_nil)
      (qss_one (qs_ret (qe_ix (qe_lst (qa_cons (qe_call (ok__law_take T) (hr.mono (by decide)) (by rfl) T.g__law_take T.k__law_take T.b__law_take (qa_cons (qe_var (i := 0)) (qa_cons (qe_op q_pow qe_int qe_int) qa_nil))) (qa_cons (qe_op q_sub (qe_neg qe_int) (qe_call (ok__law_take T) (hr.mono (by decide)) (by rfl) T.g__law_take T.k__law_take T.b__law_take (qa_cons (qe_var (i := 0)) (qa_cons qe_int qa_nil)))) qa_nil))) (qe_op q_sub (qe_var (i := 1)) qe_int)))))))
theorem ok__law_row (T : Txt K mg) : FnOk P w K mg base CX0 3 T.f__law_row T.fd__law_row ["_law_hand_here", "_law_prog", "_law_gate", "_law_stead", "_law_count"] (spOf K m__law_row) := fn_ok (k := 2) T.F__law_row sc__law_row rfl rfl (fun cdv A outer s H E hr => (qss_cons (qs_set (i := 5) sc__law_row.nd rfl (.inl rfl) (qe_lst qa_nil))
      (qss_cons (qs_for PassesOwn.never rfl (qi_range1 (by rfl) T.m_range (qa_cons (qe_var (i := 4)) qa_nil)) (qg_name (i := 6) sc__law_row.nd rfl (.inl rfl)) (qss_cons (qs_setLc (i := 8) (own := [("_law_spot", 7)]) rfl sc__law_row.nd rfl rfl (sw_true rfl rfl rfl (by decide +kernel)) (qi_range1 (by rfl) T.m_range (qa_cons (qe_callB q_len (by rfl) T.m_len (by decide +kernel) (qa_cons (qe_ix (qe_var (i := 1)) qe_int) qa_nil)) qa_nil)) ws_rg1 (blkOk_by (N := ["_law_hand_here", "_law_prog", "_law_gate", "_law_stead", "_law_count", "_law_found", "_law_turn", "_law_spot", "_law_some", "_law_name", "_law_notes", "_law_number_here"]) (sc := defScope s__law_row) (by decide +kernel)) (len_nm 7) (by decide) (fun _ _ _ _ _ => (qg_name (i := 7) sc__law_row.nd rfl (Or.inl rfl))) (fun _ _ _ _ _ => (qts_one (qt_cmp q_isnot (qe_ix (qe_ix (qe_var (i := 2)) (qe_var (i := 3))) (qe_var (i := 7))) qe_non))) (fun _ _ _ _ _ => (qe_var (i := 7))))
      (qss_one (qs_if (qt_cmp (q_ne hr) (qe_var (i := 8)) (qe_lst qa_nil)) (qss_cons (qs_set (i := 7) sc__law_row.nd rfl (.inl rfl) (qe_call (ok__law_of T) (hr.mono (by decide)) (by rfl) T.g__law_of T.k__law_of T.b__law_of (qa_cons (qe_var (i := 0)) (qa_cons (qe_var (i := 8)) qa_nil))))
      (qss_cons (qs_asg (qe_ix (qe_ix (qe_var (i := 1)) qe_int) (qe_var (i := 7))) (qg_tup rfl (qgs_cons (qg_name (i := 9) sc__law_row.nd rfl (.inl rfl)) (qgs_cons (qg_name (i := 10) sc__law_row.nd rfl (.inl rfl)) qgs_nil))))
      (qss_cons (qs_expr (qe_bm PySem.F.plainAttrs_list PySem.F.slot_list_append PySem.F.type_list_append q_append (qe_var (i := 5)) (qa_cons (qe_op q_add (qe_tup (qa_cons (qe_var (i := 9)) qa_nil)) (qe_callTy q_tuple (by rfl) T.m_tuple (by decide +kernel) (qa_cons (qe_lc (own := [("_law_number_here", 11)]) rfl sc__law_row.nd (qi_range1 (by rfl) T.m_range (qa_cons (qe_var (i := 10)) qa_nil)) ws_rg1 (blkOk_by (N := ["_law_hand_here", "_law_prog", "_law_gate", "_law_stead", "_law_count", "_law_found", "_law_turn", "_law_spot", "_law_some", "_law_name", "_law_notes", "_law_number_here"]) (sc := defScope s__law_row) (by decide +kernel)) (len_nm 11) (by decide) (fun _ _ _ _ _ => (qg_name (i := 11) sc__law_row.nd rfl (Or.inl rfl))) (fun _ _ _ _ _ => qts_nil) (fun _ _ _ _ _ => (qe_call (ok__law_number T) (hr.mono (by decide)) (by rfl) T.g__law_number T.k__law_number T.b__law_number (qa_cons (qe_var (i := 0)) qa_nil)))) qa_nil))) qa_nil)))
      (qss_one (qs_set (i := 3) sc__law_row.nd rfl (.inr rfl) (qe_ix (qe_ix (qe_var (i := 2)) (qe_var (i := 3))) (qe_var (i := 7)))))))) qss_nil))))
      (qss_one (qs_ret (qe_tup (qa_cons (qe_callTy q_tuple (by rfl) T.m_tuple (by decide +kernel) (qa_cons (qe_var (i := 5)) qa_nil)) (qa_cons (qe_var (i := 3)) qa_nil))))))))
theorem ok__law_figures (T : Txt K mg) : FnOk P w K mg base CX0 1 T.f__law_figures T.fd__law_figures ["_law_word"] (spOf K m__law_figures) := fn_ok (k := 0) T.F__law_figures sc__law_figures rfl rfl (fun cdv A outer s H E hr => (qss_cons (qs_if (QW.pt (qw_or (qt_not (qt_chain (q_lt hr) (q_lt hr) qe_int (qe_callB q_len (by rfl) T.m_len (by decide +kernel) (qa_cons (qe_var (i := 0)) qa_nil)) qe_int)) (qw_or1 (qt_cmp (q_ne hr) (qe_lc (own := [("_law_sign", 1)]) rfl sc__law_figures.nd (qi_txt (qe_var (i := 0))) ws_txt (blkOk_by (N := ["_law_word", "_law_sign", "_law_number_here"]) (sc := defScope s__law_figures) (by decide +kernel)) (len_nm 1) (by decide) (fun _ _ _ _ _ => (qg_name (i := 1) sc__law_figures.nd rfl (Or.inl rfl))) (fun _ _ _ _ _ => (qts_one (qt_cmp (q_notIn hr) (qe_var (i := 1)) qe_str))) (fun _ _ _ _ _ => (qe_var (i := 1)))) (qe_lst qa_nil))))) (qss_one (qs_ret qe_non)) qss_nil)
      (qss_cons (qs_set (i := 2) sc__law_figures.nd rfl (.inl rfl) qe_int)
      (qss_cons (qs_for PassesOwn.never rfl (qi_txt (qe_var (i := 0))) (qg_name (i := 1) sc__law_figures.nd rfl (.inl rfl)) (qss_one (qs_set (i := 2) sc__law_figures.nd rfl (.inl rfl) (qe_op q_add (qe_op q_mul qe_int (qe_var (i := 2))) (qe_bm PySem.F.plainAttrs_str PySem.F.slot_str_index PySem.F.type_str_index (q_sindex rfl) qe_str (qa_cons (qe_var (i := 1)) qa_nil))))))
      (qss_one (qs_ret (qe_ifExp (qt_cmp (q_eq hr) (qe_callTy q_str (by rfl) T.m_str (by decide +kernel) (qa_cons (qe_var (i := 2)) qa_nil)) (qe_var (i := 0))) (qe_var (i := 2)) qe_non)))))))
theorem ok__law_spoilt_row (T : Txt K mg) : FnOk P w K mg base CX0 3 T.f__law_spoilt_row T.fd__law_spoilt_row ["_law_hand_here", "_law_row_here"] (spOf K m__law_spoilt_row) := fn_ok (k := 2) T.F__law_spoilt_row sc__law_spoilt_row rfl rfl (fun cdv A outer s H E hr => (qss_cons (qs_par (i := 2) (j := 3) rfl sc__law_spoilt_row.nd rfl rfl (by decide) rfl rfl (qa_cons qe_str (qa_cons (qe_bm PySem.F.plainAttrs_str PySem.F.slot_str_split PySem.F.type_str_split q_split (qe_var (i := 1)) (qa_cons qe_str qa_nil)) qa_nil)) (by rfl))
      (qss_cons (qs_par3 (i := 4) (j := 5) (l := 6) rfl sc__law_spoilt_row.nd rfl rfl rfl (by decide) (by decide) (by decide) rfl rfl rfl (qa_cons (qe_call (ok__law_take T) (hr.mono (by decide)) (by rfl) T.g__law_take T.k__law_take T.b__law_take (qa_cons (qe_var (i := 0)) (qa_cons (qe_op q_add (qe_callB q_len (by rfl) T.m_len (by decide +kernel) (qa_cons (qe_var (i := 1)) qa_nil)) qe_int) qa_nil))) (qa_cons (qe_call (ok__law_of T) (hr.mono (by decide)) (by rfl) T.g__law_of T.k__law_of T.b__law_of (qa_cons (qe_var (i := 0)) (qa_cons (qe_var (i := 2)) qa_nil))) (qa_cons (qe_call (ok__law_take T) (hr.mono (by decide)) (by rfl) T.g__law_take T.k__law_take T.b__law_take (qa_cons (qe_var (i := 0)) (qa_cons (qe_callB q_len (by rfl) T.m_len (by decide +kernel) (qa_cons (qe_var (i := 3)) qa_nil)) qa_nil))) qa_nil))) (by rfl))
      (qss_cons (qs_set (i := 7) sc__law_spoilt_row.nd rfl (.inl rfl) (qe_lst (qa_cons qe_str (qa_cons qe_str (qa_cons qe_str (qa_cons qe_str (qa_cons qe_str (qa_cons qe_str (qa_cons qe_str (qa_cons qe_str (qa_cons (qe_op q_mulZ qe_str qe_int) (qa_cons (qe_op q_add qe_str (qe_op q_mulZ qe_str qe_int)) (qa_cons qe_str (qa_cons qe_str (qa_cons qe_str (qa_cons qe_str (qa_cons qe_str qa_nil)))))))))))))))))
      (qss_cons (qs_set (i := 7) sc__law_spoilt_row.nd rfl (.inl rfl) (qe_op q_add (qe_var (i := 7)) (qe_lst (qa_cons qe_str (qa_cons qe_str (qa_cons qe_str (qa_cons qe_str (qa_cons qe_str (qa_cons qe_str qa_nil)))))))))
      (qss_cons (qs_set (i := 7) sc__law_spoilt_row.nd rfl (.inl rfl) (qe_op q_add (qe_var (i := 7)) (qe_lst (qa_cons (qe_op q_add (qe_op q_add (qe_op q_mulZ qe_str qe_int) qe_str) (qe_op q_mulZ qe_str qe_int)) (qa_cons (qe_op q_add (qe_op q_add (qe_op q_mulZ qe_str qe_int) qe_str) (qe_op q_mulZ qe_str qe_int)) (qa_cons qe_str (qa_cons qe_str (qa_cons qe_str qa_nil))))))))
      (qss_cons (qs_set (i := 7) sc__law_spoilt_row.nd rfl (.inl rfl) (qe_op q_add (qe_var (i := 7)) (qe_lst (qa_cons (qe_op q_add (qe_op q_add (qe_op q_mulZ qe_str qe_int) qe_str) (qe_op q_mulZ qe_str qe_int)) (qa_cons (qe_op q_mulZ qe_str qe_int) (qa_cons qe_str (qa_cons qe_str (qa_cons qe_str (qa_cons qe_str (qa_cons qe_str (qa_cons qe_str qa_nil)))))))))))
      (qss_cons (qs_set (i := 7) sc__law_spoilt_row.nd rfl (.inl rfl) (qe_op q_add (qe_var (i := 7)) (qe_lst (qa_cons qe_str (qa_cons qe_str (qa_cons qe_str (qa_cons qe_str qa_nil)))))))
      (qss_cons (qs_set (i := 8) sc__law_spoilt_row.nd rfl (.inl rfl) (qe_call (ok__law_take T) (hr.mono (by decide)) (by rfl) T.g__law_take T.k__law_take T.b__law_take (qa_cons (qe_var (i := 0)) (qa_cons qe_int qa_nil))))
      (qss_cons (qs_if (qt_cmp (q_lt hr) (qe_var (i := 8)) qe_int) (qss_one (qs_ret (qe_ix (qe_lst (qa_cons (qe_op q_add (qe_op q_add (qe_slice (qe_var (i := 1)) qo_none (qo_some (qe_var (i := 4)))) (qe_var (i := 5))) (qe_slice (qe_var (i := 1)) (qo_some (qe_var (i := 4))) qo_none)) (qa_cons (qe_op q_add (qe_slice (qe_var (i := 1)) qo_none (qo_some (qe_var (i := 4)))) (qe_slice (qe_var (i := 1)) (qo_some (qe_op q_add (qe_var (i := 4)) qe_int)) qo_none)) (qa_cons (qe_op q_add (qe_op q_add (qe_slice (qe_var (i := 1)) qo_none (qo_some (qe_var (i := 4)))) (qe_var (i := 5))) (qe_slice (qe_var (i := 1)) (qo_some (qe_op q_add (qe_var (i := 4)) qe_int)) qo_none)) qa_nil)))) (qe_var (i := 8))))) qss_nil)
      (qss_cons (qs_if (qt_cmp (q_lt hr) (qe_var (i := 8)) qe_int) (qss_one (qs_ret (qe_bm PySem.F.plainAttrs_str PySem.F.slot_str_join PySem.F.type_str_join q_join qe_str (qa_cons (qe_op q_add (qe_op q_add (qe_slice (qe_var (i := 3)) qo_none (qo_some (qe_var (i := 6)))) (qe_lst (qa_cons (qe_call (ok__law_of T) (hr.mono (by decide)) (by rfl) T.g__law_of T.k__law_of T.b__law_of (qa_cons (qe_var (i := 0)) (qa_cons (qe_var (i := 7)) qa_nil))) qa_nil))) (qe_slice (qe_var (i := 3)) (qo_some (qe_op q_add (qe_var (i := 6)) qe_int)) qo_none)) qa_nil)))) qss_nil)
      (qss_cons (qs_set (i := 9) sc__law_spoilt_row.nd rfl (.inl rfl) (qe_op q_mul (qe_slice (qe_var (i := 3)) (qo_some (qe_var (i := 6))) (qo_some (qe_op q_add (qe_var (i := 6)) qe_int))) (qe_op q_mul qe_int (qe_callTy q_int (by rfl) T.m_int (by decide +kernel) (qa_cons (qe_cmp (q_eq hr) (qe_var (i := 8)) qe_int) qa_nil)))))
      (qss_one (qs_ret (qe_bm PySem.F.plainAttrs_str PySem.F.slot_str_join PySem.F.type_str_join q_join qe_str (qa_cons (qe_op q_add (qe_op q_add (qe_slice (qe_var (i := 3)) qo_none (qo_some (qe_var (i := 6)))) (qe_var (i := 9))) (qe_slice (qe_var (i := 3)) (qo_some (qe_op q_add (qe_var (i := 6)) qe_int)) qo_none)) qa_nil))))))))))))))))
theorem ok__law_row_text (T : Txt K mg) : FnOk P w K mg base CX0 1 T.f__law_row_text T.fd__law_row_text ["_law_row_here"] (spOf K m__law_row_text) := fn_ok (k := 0) T.F__law_row_text sc__law_row_text rfl rfl (fun cdv A outer s H E hr => (qss_cons (qs_setLc (i := 1) (own := [("_law_act", 2)]) rfl sc__law_row_text.nd rfl rfl (sw_true rfl rfl rfl (by decide +kernel)) (qi_seq (qe_var (i := 0))) ws_seq (blkOk_by (N := ["_law_row_here", "_law_found", "_law_act", "_law_number_here"]) (sc := defScope s__law_row_text) (by decide +kernel)) (len_nm 2) (by decide) (fun _ _ _ _ _ => (qg_name (i := 2) sc__law_row_text.nd rfl (Or.inl rfl))) (fun _ _ _ _ _ => qts_nil) (fun _ _ _ _ _ => (qe_bm PySem.F.plainAttrs_str PySem.F.slot_str_join PySem.F.type_str_join q_join qe_str (qa_cons (qe_op q_add (qe_lst (qa_cons (qe_ix (qe_var (i := 2)) qe_int) qa_nil)) (qe_lc (own := [("_law_number_here", 3)]) rfl sc__law_row_text.nd (qi_seq (qe_slice (qe_var (i := 2)) (qo_some qe_int) qo_none)) ws_seq (blkOk_by (N := ["_law_row_here", "_law_found", "_law_act", "_law_number_here"]) (sc := ({ kind := PySem.ScopeKind.function, names := [(PySem.Str.ofString ".0", PySem.NameKind.local), (PySem.Str.ofString "_law_act", PySem.NameKind.local)], isGenerator := false, isCoroutine := false, more := [] : PySem.Scope })) (by decide +kernel)) (len_nm 3) (by decide) (fun _ _ _ _ _ => (qg_name (i := 3) sc__law_row_text.nd rfl (Or.inl rfl))) (fun _ _ _ _ _ => qts_nil) (fun _ _ _ _ _ => (qe_callTy q_str (by rfl) T.m_str (by decide +kernel) (qa_cons (qe_var (i := 3)) qa_nil))))) qa_nil))))
      (qss_one (qs_ret (qe_ifExp (qt_cmp (q_ne hr) (qe_var (i := 1)) (qe_lst qa_nil)) (qe_bm PySem.F.plainAttrs_str PySem.F.slot_str_join PySem.F.type_str_join q_join qe_str (qa_cons (qe_var (i := 1)) qa_nil)) qe_str)))))
theorem ok__law_read_row (T : Txt K mg) : FnOk P w K mg base CX0 2 T.f__law_read_row T.fd__law_read_row ["_law_acts", "_law_text"] (spOf K m__law_read_row) := fn_ok (k := 1) T.F__law_read_row sc__law_read_row rfl rfl (fun cdv A outer s H E hr => (qss_cons (qs_if (qt_not (qt_val (qe_callB q_isi (by rfl) T.m_isinstance (by decide +kernel) (qa_cons (qe_var (i := 1)) (qa_cons (qe_ty (n := "str") (by rfl) T.m_str (by decide +kernel)) qa_nil))))) (qss_one (qs_ret (qe_lst (qa_cons qe_int qa_nil)))) qss_nil)
      (qss_cons (qs_par (i := 2) (j := 3) rfl sc__law_read_row.nd rfl rfl (by decide) rfl rfl (qa_cons (qe_lst qa_nil) (qa_cons (qe_callTy (q_dictP rfl) (by rfl) T.m_dict (by decide +kernel) (qa_cons (qe_callTy q_list (by rfl) T.m_list (by decide +kernel) (qa_cons (qe_var (i := 0)) qa_nil)) qa_nil)) qa_nil)) (by rfl))
      (qss_cons (qs_for PassesOwn.never rfl (qi_seq (qe_ifExp (qt_cmp (q_eq hr) (qe_var (i := 1)) qe_str) (qe_lst qa_nil) (qe_bm PySem.F.plainAttrs_str PySem.F.slot_str_split PySem.F.type_str_split q_split (qe_var (i := 1)) (qa_cons qe_str qa_nil)))) (qg_name (i := 4) sc__law_read_row.nd rfl (.inl rfl)) (qss_cons (qs_par (i := 5) (j := 6) rfl sc__law_read_row.nd rfl rfl (by decide) rfl rfl (qa_cons (qe_bm PySem.F.plainAttrs_str PySem.F.slot_str_split PySem.F.type_str_split q_split (qe_var (i := 4)) (qa_cons qe_str qa_nil)) (qa_cons (qe_lst qa_nil) qa_nil)) (by rfl))
      (qss_cons (qs_if (QW.pt (qw_or (qt_cmp (q_notInG hr) (qe_ix (qe_var (i := 5)) qe_int) (qe_var (i := 3))) (qw_or1 (qt_cmp (q_ne hr) (qe_callB q_len (by rfl) T.m_len (by decide +kernel) (qa_cons (qe_var (i := 5)) qa_nil)) (qe_op q_add qe_int (qe_ixG hr (qe_var (i := 3)) (qe_ix (qe_var (i := 5)) qe_int))))))) (qss_one (qs_ret (qe_lst (qa_cons qe_int qa_nil)))) qss_nil)
      (qss_cons (qs_for PassesOwn.never rfl (qi_seq (qe_slice (qe_var (i := 5)) (qo_some qe_int) qo_none)) (qg_name (i := 7) sc__law_read_row.nd rfl (.inl rfl)) (qss_cons (qs_set (i := 8) sc__law_read_row.nd rfl (.inl rfl) (qe_call (ok__law_figures T) (hr.mono (by decide)) (by rfl) T.g__law_figures T.k__law_figures T.b__law_figures (qa_cons (qe_ifExp (qt_cmp (q_eq hr) (qe_slice (qe_var (i := 7)) qo_none (qo_some qe_int)) qe_str) (qe_slice (qe_var (i := 7)) (qo_some qe_int) qo_none) (qe_var (i := 7))) qa_nil)))
      (qss_cons (qs_if (QW.pt (qw_or (qt_cmp q_is (qe_var (i := 8)) qe_non) (qw_or1 (qt_cmp (q_eq hr) (qe_var (i := 7)) qe_str)))) (qss_one (qs_ret (qe_lst (qa_cons qe_int qa_nil)))) qss_nil)
      (qss_one (qs_expr (qe_bm PySem.F.plainAttrs_list PySem.F.slot_list_append PySem.F.type_list_append q_append (qe_var (i := 6)) (qa_cons (qe_ifExp (qt_cmp (q_eq hr) (qe_slice (qe_var (i := 7)) qo_none (qo_some qe_int)) qe_str) (qe_op q_sub qe_int (qe_var (i := 8))) (qe_var (i := 8))) qa_nil)))))))
      (qss_one (qs_expr (qe_bm PySem.F.plainAttrs_list PySem.F.slot_list_append PySem.F.type_list_append q_append (qe_var (i := 2)) (qa_cons (qe_op q_add (qe_tup (qa_cons (qe_ix (qe_var (i := 5)) qe_int) qa_nil)) (qe_callTy q_tuple (by rfl) T.m_tuple (by decide +kernel) (qa_cons (qe_var (i := 6)) qa_nil))) qa_nil))))))))
      (qss_one (qs_ret (qe_callTy q_tuple (by rfl) T.m_tuple (by decide +kernel) (qa_cons (qe_var (i := 2)) qa_nil))))))))
theorem ok__law_told (T : Txt K mg) : FnOk P w K mg base CX0 5 T.f__law_told T.fd__law_told ["_law_acts", "_law_text"] (spOf K (m__law_told T.A)) := fn_ok (k := 4) T.F__law_told sc__law_told rfl rfl (fun cdv A outer s H E hr => (qss_cons (qs_asg (qe_tupN (qa_cons qe_non (qa_cons qe_non qa_nil))) (qg_tup rfl (qgs_cons (qg_name (i := 2) sc__law_told.nd rfl (.inl rfl)) (qgs_cons (qg_name (i := 3) sc__law_told.nd rfl (.inl rfl)) qgs_nil))))
      (qss_cons (qs_tryK (i := 4) (j := 2) rfl rfl rfl sc__law_told.nd rfl rfl ⟨rfl, by decide, .inl T.mC_ToldError⟩ T.exm_ToldError (fun qn xe hp => (qssx_one (qsx_set (i := 3) sc__law_told.nd rfl (.inl rfl) (qex_call (ok_read_history T) (hr.mono (by decide)) (by rfl) T.g_read_history T.k_read_history T.b_read_history (qa_cons (qe_var (i := 0)) (qa_cons (qe_var (i := 1)) qa_nil)))))) (fun a oe qn => pss_one (ps_set (i := 2) sc__law_told.nd rfl (Or.inl rfl) (pv 4))))
      (qss_cons (qs_if (qt_cmp q_is (qe_var (i := 2)) qe_non) (qss_one (qs_ret (qe_var (i := 3)))) qss_nil)
      (qss_cons (qs_set (i := 5) sc__law_told.nd rfl (.inl rfl) (qe_and (qe_callB (q_isX T.tab) (by rfl) T.m_isinstance (by decide +kernel) (qa_cons (qe_var (i := 2)) (qa_cons (qe_globA (by rfl) T.mC_NoText) qa_nil))) (qe_one (qe_callB (q_isX T.tab) (by rfl) T.m_isinstance (by decide +kernel) (qa_cons (qe_var (i := 2)) (qa_cons (qe_ty (by rfl) T.m_ValueError PyProof.Rows.Boot.«ValueError») qa_nil))))))
      (qss_one (qs_ret (qe_ifExp (qt_truth (qe_var (i := 5))) (qe_lst (qa_cons (qe_xf T.xf_NoText (qe_var (i := 2))) qa_nil)) qe_str))))))))
theorem ok_law (T : Txt K mg) : FnG P w K mg base 6 T.f_law T.fd_law ["_law_script"] (spOf K (m_law T.A)) := fn_okG (k := 5) T.F_law sc_law rfl rfl (fun cdv A outer s H E hgd hr => (qss_cons (qs_for PassesOwn.never rfl (qi_range1 (by rfl) T.m_range (qa_cons (qe_op q_add qe_int (qe_callB (q_min2 rfl) (by rfl) T.m_min (by decide +kernel) (qa_cons qe_int (qa_cons (qe_callB q_len (by rfl) T.m_len (by decide +kernel) (qa_cons (qe_var (i := 0)) qa_nil)) qa_nil)))) qa_nil)) (qg_name (i := 1) sc_law.nd rfl (.inl rfl)) (qss_cons (qs_set (i := 2) sc_law.nd rfl (.inr rfl) (qe_call (ok__law_hand T) (hr.mono (by decide)) (by rfl) T.g__law_hand T.k__law_hand T.b__law_hand (qa_cons (qe_var (i := 0)) (qa_cons (qe_var (i := 1)) qa_nil))))
      (qss_cons (qs_set (i := 3) sc_law.nd rfl (.inr rfl) (qe_call (ok__law_names T) (hr.mono (by decide)) (by rfl) T.g__law_names T.k__law_names T.b__law_names (qa_cons (qe_var (i := 2)) (qa_cons qe_int qa_nil))))
      (qss_cons (qs_set (i := 4) sc_law.nd rfl (.inl rfl) (qe_callTy q_tuple (by rfl) T.m_tuple (by decide +kernel) (qa_cons (qe_lc (own := [("_law_spot", 14)]) rfl sc_law.nd (qi_range1 (by rfl) T.m_range (qa_cons (qe_op q_add qe_int (qe_call (ok__law_take T) (hr.mono (by decide)) (by rfl) T.g__law_take T.k__law_take T.b__law_take (qa_cons (qe_var (i := 2)) (qa_cons qe_int qa_nil)))) qa_nil)) ws_rg1 (blkOk_by (N := ["_law_script", "_law_nth", "_law_hand_here", "_law_some", "_law_acts", "_law_turn", "_law_row_here", "_law_stead", "_law_text", "_law_kept", "_law_things", "_law_again", "_law_spoilt", "_law_thing", "_law_spot", "_law_one"]) (sc := defScope s_law) (by decide +kernel)) (len_nm 14) (by decide) (fun _ _ _ _ _ => (qg_name (i := 14) sc_law.nd rfl (Or.inl rfl))) (fun _ _ _ _ _ => qts_nil) (fun _ _ _ _ _ => (qe_tup (qa_cons (qe_ix (qe_var (i := 3)) (qe_var (i := 14))) (qa_cons (qe_call (ok__law_take T) (hr.mono (by decide)) (by rfl) T.g__law_take T.k__law_take T.b__law_take (qa_cons (qe_var (i := 2)) (qa_cons qe_int qa_nil))) qa_nil))))) qa_nil)))
      (qss_one (qs_for PassesOwn.never rfl (qi_range1 (by rfl) T.m_range (qa_cons qe_int qa_nil)) (qg_name (i := 5) sc_law.nd rfl (.inl rfl)) (qss_cons (qs_asg (qe_call (ok__law_row T) (hr.mono (by decide)) (by rfl) T.g__law_row T.k__law_row T.b__law_row (qa_cons (qe_var (i := 2)) (qa_cons (qe_tup (qa_cons (qe_tup qa_nil) (qa_cons (qe_var (i := 4)) (qa_cons (qe_tup qa_nil) qa_nil)))) (qa_cons (qe_tup (qa_cons (qe_op q_mul (qe_tup (qa_cons qe_int qa_nil)) (qe_callB q_len (by rfl) T.m_len (by decide +kernel) (qa_cons (qe_var (i := 4)) qa_nil))) qa_nil)) (qa_cons qe_int (qa_cons (qe_call (ok__law_take T) (hr.mono (by decide)) (by rfl) T.g__law_take T.k__law_take T.b__law_take (qa_cons (qe_var (i := 2)) (qa_cons qe_int qa_nil))) qa_nil)))))) (qg_tup rfl (qgs_cons (qg_name (i := 6) sc_law.nd rfl (.inl rfl)) (qgs_cons (qg_name (i := 7) sc_law.nd rfl (.inl rfl)) qgs_nil))))
      (qss_cons (qs_par (i := 8) (j := 9) rfl sc_law.nd rfl rfl (by decide) rfl rfl (qa_cons (qe_call (ok__law_row_text T) (hr.mono (by decide)) (by rfl) T.g__law_row_text T.k__law_row_text T.b__law_row_text (qa_cons (qe_var (i := 6)) qa_nil)) (qa_cons (qe_callB (q_repr hgd hr) (by rfl) T.m_repr (by decide +kernel) (qa_cons (qe_var (i := 6)) qa_nil)) qa_nil)) (by rfl))
      (qss_cons (qs_if (QW.pt (qw_or (qt_cmp (q_ne hr) (qe_call (ok_show_history T) (hr.mono (by decide)) (by rfl) T.g_show_history T.k_show_history T.b_show_history (qa_cons (qe_var (i := 6)) qa_nil)) (qe_var (i := 8))) (qw_or (qt_cmp (q_ne hr) (qe_kw0 (ok_show_history T) (hr.mono (by decide)) (by rfl) T.g_show_history T.k_show_history T.kb_kb_show_history_0_history kb_show_history_0_history_rel (qk_cons (qe_var (i := 6)) qk_nil)) (qe_var (i := 8))) (qw_or1 (qt_cmp (q_ne hr) (qe_callB (q_repr hgd hr) (by rfl) T.m_repr (by decide +kernel) (qa_cons (qe_var (i := 6)) qa_nil)) (qe_var (i := 9))))))) (qss_one (qs_ret qe_bl)) qss_nil)
      (qss_cons (qs_set (i := 10) sc_law.nd rfl (.inl rfl) (qe_lst (qa_cons (qe_var (i := 8)) (qa_cons qe_str (qa_cons qe_str (qa_cons qe_non (qa_cons (qe_tup qa_nil) (qa_cons (qe_var (i := 6)) (qa_cons qe_int (qa_cons (qe_op q_add (qe_var (i := 8)) qe_str) (qa_cons (qe_op q_add (qe_var (i := 8)) qe_str) (qa_cons (qe_op q_add (qe_var (i := 8)) qe_str) (qa_cons qe_str (qa_cons (qe_op q_add (qe_var (i := 8)) qe_str) qa_nil))))))))))))))
      (qss_cons (qs_for PassesOwn.never rfl (qi_range1 (by rfl) T.m_range (qa_cons qe_int qa_nil)) (qg_name (i := 11) sc_law.nd rfl (.inl rfl)) (qss_cons (qs_set (i := 12) sc_law.nd rfl (.inl rfl) (qe_call (ok__law_spoilt_row T) (hr.mono (by decide)) (by rfl) T.g__law_spoilt_row T.k__law_spoilt_row T.b__law_spoilt_row (qa_cons (qe_var (i := 2)) (qa_cons (qe_var (i := 8)) qa_nil))))
      (qss_one (qs_expr (qe_bm PySem.F.plainAttrs_list PySem.F.slot_list_append PySem.F.type_list_append q_append (qe_var (i := 10)) (qa_cons (qe_ifExp (qt_cmp (q_eq hr) (qe_call (ok__law_take T) (hr.mono (by decide)) (by rfl) T.g__law_take T.k__law_take T.b__law_take (qa_cons (qe_var (i := 2)) (qa_cons qe_int qa_nil))) qe_int) (qe_call (ok__law_spoilt_row T) (hr.mono (by decide)) (by rfl) T.g__law_spoilt_row T.k__law_spoilt_row T.b__law_spoilt_row (qa_cons (qe_var (i := 2)) (qa_cons (qe_var (i := 12)) qa_nil))) (qe_var (i := 12))) qa_nil))))))
      (qss_one (qs_for PassesOwn.never rfl (qi_seq (qe_lc (own := [("_law_one", 15)]) rfl sc_law.nd (qi_seq (qe_var (i := 10))) ws_seq (blkOk_by (N := ["_law_script", "_law_nth", "_law_hand_here", "_law_some", "_law_acts", "_law_turn", "_law_row_here", "_law_stead", "_law_text", "_law_kept", "_law_things", "_law_again", "_law_spoilt", "_law_thing", "_law_spot", "_law_one"]) (sc := defScope s_law) (by decide +kernel)) (len_nm 15) (by decide) (fun _ _ _ _ _ => (qg_name (i := 15) sc_law.nd rfl (Or.inl rfl))) (fun _ _ _ _ _ => (qts_one (QW.pt (qw_or (qt_not (qt_val (qe_callB q_isi (by rfl) T.m_isinstance (by decide +kernel) (qa_cons (qe_var (i := 15)) (qa_cons (qe_ty (n := "str") (by rfl) T.m_str (by decide +kernel)) qa_nil))))) (qw_or1 (qt_cmp (q_lt hr) (qe_callB q_len (by rfl) T.m_len (by decide +kernel) (qa_cons (qe_var (i := 15)) qa_nil)) qe_int)))))) (fun _ _ _ _ _ => (qe_var (i := 15))))) (qg_name (i := 13) sc_law.nd rfl (.inl rfl)) (qss_one (qs_if (qt_cmp (q_ne hr) (qe_callB (q_repr hgd hr) (by rfl) T.m_repr (by decide +kernel) (qa_cons (qe_call (ok__law_told T) (hr.mono (by decide)) (by rfl) T.g__law_told T.k__law_told T.b__law_told (qa_cons (qe_var (i := 4)) (qa_cons (qe_var (i := 13)) qa_nil))) qa_nil)) (qe_callB (q_repr hgd hr) (by rfl) T.m_repr (by decide +kernel) (qa_cons (qe_call (ok__law_read_row T) (hr.mono (by decide)) (by rfl) T.g__law_read_row T.k__law_read_row T.b__law_read_row (qa_cons (qe_var (i := 4)) (qa_cons (qe_var (i := 13)) qa_nil))) qa_nil))) (qss_one (qs_ret qe_bl)) qss_nil)))))))))))))))
      (qss_one (qs_ret qe_bl))))
end
end Z

namespace Z
open PySem PySem.Spec PyProof.Rows L2 Lw Pu
noncomputable def v_read_number : FA := mkFn 1 2 (sSeq (sIf (tOrM (tNotM (tOf (eChain leU leU (eC (.int 1)) (eCB lenF (aCons (eVar 0) aNil)) (eC (.int 70))))) (tNotM (tOf (eCB allF (aCons (vLc (iTxt (eVar 0)) (gNm 1) tYesM (eOp (inU false) (eVar 1) (eC (.str (Str.ofString "0123456789")))) [1]) aNil)))))
  (sRet (eC .none))
  sNil)
  (sRet (eIf (tAndM (tOf (eOp gtU (eCB lenF (aCons (eVar 0) aNil)) (eC (.int 1)))) (tOf (eOp eqU (eOp ixU (eVar 0) (eC (.int 0))) (eC (.str (Str.ofString "0")))))) (eC .none) (eCB intSF (aCons (eVar 0) aNil)))))
noncomputable def v_read_whole : FA := mkFn 1 2 (sSeq (sIf (tNotM (tTrN (eMt "str" startsF (eVar 0) (aCons (eC (.str (Str.ofString "-"))) aNil))))
  (sRet (eCB v_read_number (aCons (eVar 0) aNil)))
  sNil)
  (sSeq (sAsg (eCB v_read_number (aCons (vSl (eVar 0) (oSome (eC (.int 1))) oNone) aNil)) (gNm 1))
  (sRet (eIf (tOrM (tOf (eOp (isF false) (eVar 1) (eC .none))) (tOf (eOp eqU (eVar 1) (eC (.int 0))))) (eC .none) (eNeg (eVar 1))))))
noncomputable def v_read_deed : FA := mkFn 2 6 (sSeq (vStar 2 3 (eMt "str" vsplitF (eVar 1) (aCons (eC (.str (Str.ofString " "))) aNil)))
  (sSeq (sAsg (vLc (viSeq (eVar 3)) (gNm 5) tYesM (eCB v_read_whole (aCons (eVar 5) aNil)) [5]) (gNm 4))
  (sRet (eIf (tOrM (tOf (eOp (inU false) (eC .none) (eVar 4))) (tOf (eOp (inU true) (vTup (aCons (eVar 2) (aCons (eCB lenF (aCons (eVar 4) aNil)) aNil))) (eVar 0)))) (eC .none) (vTup (aCons (eVar 2) (aStar (eVar 4) aNil)))))))
noncomputable def v_read_history (A : Adr) : FX := mkFnX 2 4 (sSeqX (sIfX (tNotM (tOf (eCB isiF (aCons (eVar 1) (aCons (eK (.ty "str")) aNil)))))
  (sRaise A.C_NoText (Str.ofString "row") (eC (.int 0)))
  (sUp sNil))
  (sSeqX (sUp (sIf (tOf (eOp eqU (eVar 1) (eC (.str (Str.ofString "-")))))
  (sRet (vTup aNil))
  sNil))
  (sSeqX (sUp (sAsg (eCB vtupleF (aCons (vLc (viSeq (eMt "str" vsplitF (eVar 1) (aCons (eC (.str (Str.ofString ", "))) aNil))) (gNm 3) tYesM (eCB v_read_deed (aCons (eVar 0) (aCons (eVar 3) aNil))) [3]) aNil)) (gNm 2)))
  (sSeqX (sIfX (tOf (eOp (inU false) (eC .none) (eVar 2)))
  (sRaise A.C_NoText (Str.ofString "row") (eC (.int 0)))
  (sUp sNil))
  (sUp (sRet (eVar 2)))))))
noncomputable def v_show_history : FA := mkFn 1 3 (sSeq (sIf (tOf (eOp eqU (eCB lenF (aCons (eVar 0) aNil)) (eC (.int 0))))
  (sRet (eC (.str (Str.ofString "-"))))
  sNil)
  (sRet (eMt "str" joinF (eC (.str (Str.ofString ", "))) (aCons (vLc (viSeq (eVar 0)) (gNm 1) tYesM (eMt "str" joinF (eC (.str (Str.ofString " "))) (aCons (vLc (viSeq (eVar 1)) (gNm 2) tYesM (eCB strSF (aCons (eVar 2) aNil)) [2]) aNil)) [1]) aNil))))
noncomputable def v__law_hand : FA := mkFn 2 4 (sSeq (sAsg (eIf (tOf (eOp ltU (eVar 1) (eCB lenF (aCons (eVar 0) aNil)))) (eOp ixU (eVar 0) (eVar 1)) (eOp vaddU (eOp vmulU (eC (.int 3)) (eVar 1)) (eC (.int 5)))) (gNm 2))
  (sSeq (sAsg (eOp vmulU (eOp modU (eCB absF (aCons (eVar 2) aNil)) (eOp powU (eOp powU (eC (.int 10)) (eC (.int 60))) (eC (.int 15)))) (eCB intF (aCons (eOp geU (eCB absF (aCons (eVar 2) aNil)) (eOp powU (eC (.int 10)) (eC (.int 18)))) aNil))) (gNm 3))
  (sRet (vHnd (aCons (eVar 3) (aCons (eOp modU (eOp vmulU (eOp vaddU (eOp vaddU (eOp modU (eVar 2) (eC (.int 2305843009213693951))) (eOp vmulU (eOp vmulU (eC (.int 104729)) (eVar 1)) (eVar 1))) (eC (.int 13))) (eC (.int 48271))) (eC (.int 2305843009213693921))) (aCons (eC (.int 0)) aNil)))))))
noncomputable def v__law_take : FA := mkFn 2 5 (sSeq (sIf (tOf (eOp gtU (eOp ixU (eVar 0) (eC (.int 0))) (eC (.int 0))))
  (sSeq (sAsg (eOp modU (eOp ixU (eVar 0) (eC (.int 0))) (eVar 1)) (gNm 2))
  (sSeq (vSb (eOp fdivU (eOp ixU (eVar 0) (eC (.int 0))) (eVar 1)) (eVar 0) (eC (.int 0)))
  (sRet (eVar 2))))
  sNil)
  (sSeq (vSb (eOp vaddU (eOp ixU (eVar 0) (eC (.int 2))) (eC (.int 1))) (eVar 0) (eC (.int 2)))
  (sSeq (sAsg (eOp ixU (vLst (aCons (eC (.int 2147483629)) (aCons (eC (.int 2147483587)) (aCons (eC (.int 2147483579)) (aCons (eC (.int 2147483563)) (aCons (eC (.int 2147483549)) (aCons (eC (.int 2147483543)) (aCons (eC (.int 2147483497)) aNil)))))))) (eOp modU (eOp ixU (eVar 0) (eC (.int 2))) (eC (.int 7)))) (gNm 3))
  (sSeq (sAsg (eOp modU (eOp powU (eOp vaddU (eOp ixU (eVar 0) (eC (.int 1))) (eOp vmulU (eC (.int 7919)) (eOp ixU (eVar 0) (eC (.int 2))))) (eC (.int 3))) (eVar 3)) (gNm 4))
  (sRet (eOp modU (eOp fdivU (eOp modU (eOp vmulU (eVar 4) (eOp vaddU (eOp modU (eVar 4) (eC (.int 1009))) (eOp ixU (eVar 0) (eC (.int 2))))) (eVar 3)) (eC (.int 11))) (eVar 1)))))))
noncomputable def v__law_of : FA := mkFn 2 2 (sRet (eOp ixU (eVar 1) (eCB v__law_take (aCons (eVar 0) (aCons (eCB lenF (aCons (eVar 1) aNil)) aNil)))))
noncomputable def v__law_names : FA := mkFn 2 12 (sSeq (sAsg (eC (.str (Str.ofString "abcdefghijklmnopqrstuvwxyz"))) (gNm 2))
  (sSeq (vPar 3 4 (eCB v__law_take (aCons (eVar 0) (aCons (eC (.int 26)) aNil))) (eCB v__law_of (aCons (eVar 0) (aCons (vLst (aCons (eC (.int 1)) (aCons (eC (.int 3)) (aCons (eC (.int 5)) (aCons (eC (.int 7)) (aCons (eC (.int 9)) (aCons (eC (.int 11)) aNil))))))) aNil))))
  (sSeq (sAsg (eCB v__law_of (aCons (eVar 0) (aCons (vLst (aCons (eC (.int 0)) (aCons (eC (.int 0)) (aCons (eC (.int 1)) (aCons (eC (.int 2)) (aCons (eC (.int 3)) (aCons (eC (.int 6)) aNil))))))) aNil))) (gNm 5))
  (sSeq (sAsg (eMt "str" joinF (eC (.str (Str.ofString ""))) (aCons (vLc (iRg1 (aCons (eVar 5) aNil)) (gNm 6) tYesM (eCB v__law_of (aCons (eVar 0) (aCons (eVar 2) aNil))) [6]) aNil)) (gNm 7))
  (sSeq (vParF 8 9 (eCB v__law_take (aCons (eVar 0) (aCons (eOp vaddU (eVar 5) (eC (.int 1))) aNil))) (vLst aNil))
  (sSeq (vFor (iRg1 (aCons (eVar 1) aNil)) (gNm 6)
  (sSeq (sAsg (eOp ixU (eVar 2) (eOp modU (eOp vaddU (eVar 3) (eOp vmulU (eVar 4) (eVar 6))) (eC (.int 26)))) (gNm 10))
  (sSeq (sAsg (eOp vaddU (eOp vaddU (vSl (eVar 7) oNone (oSome (eVar 8))) (eVar 10)) (vSl (eVar 7) (oSome (eVar 8)) oNone)) (gNm 11))
  (vApp 9 (eOp vaddU (eVar 11) (eOp vmulU (eC (.str (Str.ofString "x"))) (eCB intF (aCons (eOp (inU false) (eVar 11) (vTup (aCons (eC (.str (Str.ofString "none"))) (aCons (eC (.str (Str.ofString "cell"))) (aCons (eC (.str (Str.ofString "came"))) (aCons (eC (.str (Str.ofString "kth"))) (aCons (eC (.str (Str.ofString "least"))) aNil))))))) aNil))))))))
  (sRet (eVar 9))))))))
noncomputable def v__law_number : FA := mkFn 1 2 (sSeq (sAsg (eCB v__law_take (aCons (eVar 0) (aCons (eC (.int 9)) aNil))) (gNm 1))
  (sSeq (sIf (tOf (eOp ltU (eVar 1) (eC (.int 7))))
  (sRet (eCB v__law_take (aCons (eVar 0) (aCons (eC (.int 6)) aNil))))
  sNil)
  (sRet (eOp ixU (vLst (aCons (eCB v__law_take (aCons (eVar 0) (aCons (eOp powU (eC (.int 10)) (eC (.int 59))) aNil))) (aCons (eOp subU (eNeg (eC (.int 1))) (eCB v__law_take (aCons (eVar 0) (aCons (eC (.int 9)) aNil)))) aNil))) (eOp subU (eVar 1) (eC (.int 7)))))))
noncomputable def v__law_row : FA := mkFn 5 12 (sSeq (sOwn (vLst aNil) 5)
  (sSeq (vFor (iRg1 (aCons (eVar 4) aNil)) (gNm 6)
  (sSeq (sAsg (vLc (iRg1 (aCons (eCB lenF (aCons (eOp ixU (eVar 1) (eC (.int 1))) aNil)) aNil)) (gNm 7) (tOf (eOp (isF true) (eOp ixU (eOp ixU (eVar 2) (eVar 3)) (eVar 7)) (eC .none))) (eVar 7) [7]) (gNm 8))
  (sIf (tOf (eOp neU (eVar 8) (vLst aNil)))
  (sSeq (sAsg (eCB v__law_of (aCons (eVar 0) (aCons (eVar 8) aNil))) (gNm 7))
  (sSeq (sAsg (eOp ixU (eOp ixU (eVar 1) (eC (.int 1))) (eVar 7)) (gTp 2 (gCn (gNm 9) (gCn (gNm 10) gN0))))
  (sSeq (vApp 5 (eOp vaddU (vTup (aCons (eVar 9) aNil)) (eCB vtupleF (aCons (vLc (iRg1 (aCons (eVar 10) aNil)) (gNm 11) tYesM (eCB v__law_number (aCons (eVar 0) aNil)) [11]) aNil))))
  (sAsg (eOp ixU (eOp ixU (eVar 2) (eVar 3)) (eVar 7)) (gNm 3)))))
  sNil)))
  (sRet (vTup (aCons (eCB vtupleF (aCons (eVar 5) aNil)) (aCons (eVar 3) aNil))))))
noncomputable def v__law_figures : FA := mkFn 1 3 (sSeq (sIf (tOrM (tNotM (tOf (eChain ltU ltU (eC (.int 0)) (eCB lenF (aCons (eVar 0) aNil)) (eC (.int 71))))) (tOf (eOp neU (vLc (iTxt (eVar 0)) (gNm 1) (tOf (eOp (inU true) (eVar 1) (eC (.str (Str.ofString "0123456789"))))) (eVar 1) [1]) (vLst aNil))))
  (sRet (eC .none))
  sNil)
  (sSeq (sAsg (eC (.int 0)) (gNm 2))
  (sSeq (vFor (iTxt (eVar 0)) (gNm 1)
  (sAsg (eOp vaddU (eOp vmulU (eC (.int 10)) (eVar 2)) (eMt "str" sindexF (eC (.str (Str.ofString "0123456789"))) (aCons (eVar 1) aNil))) (gNm 2)))
  (sRet (eIf (tOf (eOp eqU (eCB strF (aCons (eVar 2) aNil)) (eVar 0))) (eVar 2) (eC .none))))))
noncomputable def v__law_spoilt_row : FA := mkFn 2 10 (sSeq (vPar 2 3 (eC (.str (Str.ofString "abcxyz0123456789 -(),;.@none"))) (eMt "str" vsplitF (eVar 1) (aCons (eC (.str (Str.ofString " "))) aNil)))
  (sSeq (vParN [4, 5, 6] (aCons (eCB v__law_take (aCons (eVar 0) (aCons (eOp vaddU (eCB lenF (aCons (eVar 1) aNil)) (eC (.int 1))) aNil))) (aCons (eCB v__law_of (aCons (eVar 0) (aCons (eVar 2) aNil))) (aCons (eCB v__law_take (aCons (eVar 0) (aCons (eCB lenF (aCons (eVar 3) aNil)) aNil))) aNil))))
  (sSeq (sAsg (vLst (aCons (eC (.str (Str.ofString "0"))) (aCons (eC (.str (Str.ofString "1"))) (aCons (eC (.str (Str.ofString "2"))) (aCons (eC (.str (Str.ofString "3"))) (aCons (eC (.str (Str.ofString "00"))) (aCons (eC (.str (Str.ofString "01"))) (aCons (eC (.str (Str.ofString "-1"))) (aCons (eC (.str (Str.ofString "6"))) (aCons (eOp vmulZ (eC (.str (Str.ofString "9"))) (eC (.int 70))) (aCons (eOp vaddU (eC (.str (Str.ofString "1"))) (eOp vmulZ (eC (.str (Str.ofString "0"))) (eC (.int 70)))) (aCons (eC (.str (Str.ofString "none"))) (aCons (eC (.str (Str.ofString "cell"))) (aCons (eC (.str (Str.ofString "came"))) (aCons (eC (.str (Str.ofString "came0"))) (aCons (eC (.str (Str.ofString ""))) aNil)))))))))))))))) (gNm 7))
  (sSeq (sAsg (eOp vaddU (eVar 7) (vLst (aCons (eC (.str (Str.ofString "kth"))) (aCons (eC (.str (Str.ofString "kth()"))) (aCons (eC (.str (Str.ofString "kth(1;none)"))) (aCons (eC (.str (Str.ofString "kth(0;none)"))) (aCons (eC (.str (Str.ofString "greatest()"))) (aCons (eC (.str (Str.ofString "least(none,none,none,none,none,none)"))) aNil)))))))) (gNm 7))
  (sSeq (sAsg (eOp vaddU (eVar 7) (vLst (aCons (eOp vaddU (eOp vaddU (eOp vmulZ (eC (.str (Str.ofString "least("))) (eC (.int 7))) (eC (.str (Str.ofString "none")))) (eOp vmulZ (eC (.str (Str.ofString ")"))) (eC (.int 7)))) (aCons (eOp vaddU (eOp vaddU (eOp vmulZ (eC (.str (Str.ofString "least("))) (eC (.int 8))) (eC (.str (Str.ofString "none")))) (eOp vmulZ (eC (.str (Str.ofString ")"))) (eC (.int 8)))) (aCons (eC (.str (Str.ofString "kth(2;none)"))) (aCons (eC (.str (Str.ofString "abcdefghi"))) (aCons (eC (.str (Str.ofString "on"))) aNil))))))) (gNm 7))
  (sSeq (sAsg (eOp vaddU (eVar 7) (vLst (aCons (eOp vaddU (eOp vaddU (eOp vmulZ (eC (.str (Str.ofString "greatest("))) (eC (.int 600))) (eC (.str (Str.ofString "none")))) (eOp vmulZ (eC (.str (Str.ofString ")"))) (eC (.int 600)))) (aCons (eOp vmulZ (eC (.str (Str.ofString "("))) (eC (.int 3000))) (aCons (eC (.str (Str.ofString "cells"))) (aCons (eC (.str (Str.ofString "deed"))) (aCons (eC (.str (Str.ofString "mode"))) (aCons (eC (.str (Str.ofString "set"))) (aCons (eC (.str (Str.ofString "tell"))) (aCons (eC (.str (Str.ofString "let"))) aNil)))))))))) (gNm 7))
  (sSeq (sAsg (eOp vaddU (eVar 7) (vLst (aCons (eC (.str (Str.ofString "place"))) (aCons (eC (.str (Str.ofString "came2"))) (aCons (eC (.str (Str.ofString "- 1"))) (aCons (eC (.str (Str.ofString "5@0.0"))) aNil)))))) (gNm 7))
  (sSeq (sAsg (eCB v__law_take (aCons (eVar 0) (aCons (eC (.int 8)) aNil))) (gNm 8))
  (sSeq (sIf (tOf (eOp ltU (eVar 8) (eC (.int 3))))
  (sRet (eOp ixU (vLst (aCons (eOp vaddU (eOp vaddU (vSl (eVar 1) oNone (oSome (eVar 4))) (eVar 5)) (vSl (eVar 1) (oSome (eVar 4)) oNone)) (aCons (eOp vaddU (vSl (eVar 1) oNone (oSome (eVar 4))) (vSl (eVar 1) (oSome (eOp vaddU (eVar 4) (eC (.int 1)))) oNone)) (aCons (eOp vaddU (eOp vaddU (vSl (eVar 1) oNone (oSome (eVar 4))) (eVar 5)) (vSl (eVar 1) (oSome (eOp vaddU (eVar 4) (eC (.int 1)))) oNone)) aNil)))) (eVar 8)))
  sNil)
  (sSeq (sIf (tOf (eOp ltU (eVar 8) (eC (.int 6))))
  (sRet (eMt "str" joinF (eC (.str (Str.ofString " "))) (aCons (eOp vaddU (eOp vaddU (vSl (eVar 3) oNone (oSome (eVar 6))) (vLst (aCons (eCB v__law_of (aCons (eVar 0) (aCons (eVar 7) aNil))) aNil))) (vSl (eVar 3) (oSome (eOp vaddU (eVar 6) (eC (.int 1)))) oNone)) aNil)))
  sNil)
  (sSeq (sAsg (eOp vmulU (vSl (eVar 3) (oSome (eVar 6)) (oSome (eOp vaddU (eVar 6) (eC (.int 1))))) (eOp vmulU (eC (.int 2)) (eCB intF (aCons (eOp eqU (eVar 8) (eC (.int 6))) aNil)))) (gNm 9))
  (sRet (eMt "str" joinF (eC (.str (Str.ofString " "))) (aCons (eOp vaddU (eOp vaddU (vSl (eVar 3) oNone (oSome (eVar 6))) (eVar 9)) (vSl (eVar 3) (oSome (eOp vaddU (eVar 6) (eC (.int 1)))) oNone)) aNil))))))))))))))
noncomputable def v__law_row_text : FA := mkFn 1 4 (sSeq (sAsg (vLc (viSeq (eVar 0)) (gNm 2) tYesM (eMt "str" joinF (eC (.str (Str.ofString " "))) (aCons (eOp vaddU (vLst (aCons (eOp ixU (eVar 2) (eC (.int 0))) aNil)) (vLc (viSeq (vSl (eVar 2) (oSome (eC (.int 1))) oNone)) (gNm 3) tYesM (eCB strF (aCons (eVar 3) aNil)) [3])) aNil)) [2]) (gNm 1))
  (sRet (eIf (tOf (eOp neU (eVar 1) (vLst aNil))) (eMt "str" joinF (eC (.str (Str.ofString ", "))) (aCons (eVar 1) aNil)) (eC (.str (Str.ofString "-"))))))
noncomputable def v__law_read_row : FA := mkFn 2 9 (sSeq (sIf (tNotM (tOf (eCB isiF (aCons (eVar 1) (aCons (eK (.ty "str")) aNil)))))
  (sRet (vLst (aCons (eC (.int 0)) aNil)))
  sNil)
  (sSeq (vParG 2 3 (vLst aNil) (eCB dictPF (aCons (eCB vlistF (aCons (eVar 0) aNil)) aNil)))
  (sSeq (vFor (viSeq (eIf (tOf (eOp eqU (eVar 1) (eC (.str (Str.ofString "-"))))) (vLst aNil) (eMt "str" vsplitF (eVar 1) (aCons (eC (.str (Str.ofString ", "))) aNil)))) (gNm 4)
  (sSeq (vParF 5 6 (eMt "str" vsplitF (eVar 4) (aCons (eC (.str (Str.ofString " "))) aNil)) (vLst aNil))
  (sSeq (sIf (tOrM (tOf (eOp (inG true) (eOp ixU (eVar 5) (eC (.int 0))) (eVar 3))) (tOf (eOp neU (eCB lenF (aCons (eVar 5) aNil)) (eOp vaddU (eC (.int 1)) (eOp ixG (eVar 3) (eOp ixU (eVar 5) (eC (.int 0))))))))
  (sRet (vLst (aCons (eC (.int 0)) aNil)))
  sNil)
  (sSeq (vFor (viSeq (vSl (eVar 5) (oSome (eC (.int 1))) oNone)) (gNm 7)
  (sSeq (sAsg (eCB v__law_figures (aCons (eIf (tOf (eOp eqU (vSl (eVar 7) oNone (oSome (eC (.int 1)))) (eC (.str (Str.ofString "-"))))) (vSl (eVar 7) (oSome (eC (.int 1))) oNone) (eVar 7)) aNil)) (gNm 8))
  (sSeq (sIf (tOrM (tOf (eOp (isF false) (eVar 8) (eC .none))) (tOf (eOp eqU (eVar 7) (eC (.str (Str.ofString "-0"))))))
  (sRet (vLst (aCons (eC (.int 0)) aNil)))
  sNil)
  (vApp 6 (eIf (tOf (eOp eqU (vSl (eVar 7) oNone (oSome (eC (.int 1)))) (eC (.str (Str.ofString "-"))))) (eOp subU (eC (.int 0)) (eVar 8)) (eVar 8))))))
  (vApp 2 (eOp vaddU (vTup (aCons (eOp ixU (eVar 5) (eC (.int 0))) aNil)) (eCB vtupleF (aCons (eVar 6) aNil))))))))
  (sRet (eCB vtupleF (aCons (eVar 2) aNil))))))
noncomputable def v__law_told (A : Adr) : FA := mkFn 2 6 (sSeq (vPar 2 3 (eC .none) (eC .none))
  (sSeq (sTryK [A.C_NoText] 4 2 (sSetX 3 (eCX (v_read_history A) (aCons (eVar 0) (aCons (eVar 1) aNil)))))
  (sSeq (sIf (tOf (eOp (isF false) (eVar 2) (eC .none)))
  (sRet (eVar 3))
  sNil)
  (sSeq (sAsg (eAnd (eCB (isX (tab A)) (aCons (eVar 2) (aCons (eK (.adr A.C_NoText)) aNil))) (eCB (isX (tab A)) (aCons (eVar 2) (aCons (eK (.ty "ValueError")) aNil)))) (gNm 5))
  (sRet (eIf (tTrN (eVar 5)) (vLst (aCons (eXf [A.C_NoText] (Str.ofString "row") (eVar 2)) aNil)) (eC (.str (Str.ofString "odd")))))))))
noncomputable def v_law (A : Adr) : FA := mkFn 1 16 (sSeq (vFor (iRg1 (aCons (eOp vaddU (eC (.int 1)) (eCB min2F (aCons (eC (.int 3)) (aCons (eCB lenF (aCons (eVar 0) aNil)) aNil)))) aNil)) (gNm 1)
  (sSeq (sAsg (eCB v__law_hand (aCons (eVar 0) (aCons (eVar 1) aNil))) (gNm 2))
  (sSeq (sAsg (eCB v__law_names (aCons (eVar 2) (aCons (eC (.int 4)) aNil))) (gNm 3))
  (sSeq (sAsg (eCB vtupleF (aCons (vLc (iRg1 (aCons (eOp vaddU (eC (.int 1)) (eCB v__law_take (aCons (eVar 2) (aCons (eC (.int 4)) aNil)))) aNil)) (gNm 14) tYesM (vTup (aCons (eOp ixU (eVar 3) (eVar 14)) (aCons (eCB v__law_take (aCons (eVar 2) (aCons (eC (.int 3)) aNil))) aNil))) [14]) aNil)) (gNm 4))
  (vFor (iRg1 (aCons (eC (.int 2)) aNil)) (gNm 5)
  (sSeq (sAsg (eCB v__law_row (aCons (eVar 2) (aCons (vTup (aCons (vTup aNil) (aCons (eVar 4) (aCons (vTup aNil) aNil)))) (aCons (vTup (aCons (eOp vmulU (vTup (aCons (eC (.int 0)) aNil)) (eCB lenF (aCons (eVar 4) aNil))) aNil)) (aCons (eC (.int 0)) (aCons (eCB v__law_take (aCons (eVar 2) (aCons (eC (.int 31)) aNil))) aNil)))))) (gTp 2 (gCn (gNm 6) (gCn (gNm 7) gN0))))
  (sSeq (vPar 8 9 (eCB v__law_row_text (aCons (eVar 6) aNil)) (eCB vreprF (aCons (eVar 6) aNil)))
  (sSeq (sIf (tOrM (tOf (eOp neU (eCB v_show_history (aCons (eVar 6) aNil)) (eVar 8))) (tOrM (tOf (eOp neU (eCK v_show_history kb_show_history_0_history aNil (aCons (eVar 6) aNil)) (eVar 8))) (tOf (eOp neU (eCB vreprF (aCons (eVar 6) aNil)) (eVar 9)))))
  (sRet (eC (.bool false)))
  sNil)
  (sSeq (sOwn (vLst (aCons (eVar 8) (aCons (eC (.str (Str.ofString "-"))) (aCons (eC (.str (Str.ofString ""))) (aCons (eC .none) (aCons (vTup aNil) (aCons (eVar 6) (aCons (eC (.int 0)) (aCons (eOp vaddU (eVar 8) (eC (.str (Str.ofString ", ")))) (aCons (eOp vaddU (eVar 8) (eC (.str (Str.ofString "\n")))) (aCons (eOp vaddU (eVar 8) (eC (.str (Str.ofString ", -")))) (aCons (eC (.str (Str.ofString "- "))) (aCons (eOp vaddU (eVar 8) (eC (.str (Str.ofString ",")))) aNil))))))))))))) 10)
  (sSeq (vFor (iRg1 (aCons (eC (.int 14)) aNil)) (gNm 11)
  (sSeq (sAsg (eCB v__law_spoilt_row (aCons (eVar 2) (aCons (eVar 8) aNil))) (gNm 12))
  (vApp 10 (eIf (tOf (eOp eqU (eCB v__law_take (aCons (eVar 2) (aCons (eC (.int 3)) aNil))) (eC (.int 0)))) (eCB v__law_spoilt_row (aCons (eVar 2) (aCons (eVar 12) aNil))) (eVar 12)))))
  (vFor (viSeq (vLc (viSeq (eVar 10)) (gNm 15) (tOrM (tNotM (tOf (eCB isiF (aCons (eVar 15) (aCons (eK (.ty "str")) aNil))))) (tOf (eOp ltU (eCB lenF (aCons (eVar 15) aNil)) (eC (.int 20001))))) (eVar 15) [15])) (gNm 13)
  (sIf (tOf (eOp neU (eCB vreprF (aCons (eCB (v__law_told A) (aCons (eVar 4) (aCons (eVar 13) aNil))) aNil)) (eCB vreprF (aCons (eCB v__law_read_row (aCons (eVar 4) (aCons (eVar 13) aNil))) aNil))))
  (sRet (eC (.bool false)))
  sNil))))))))))))
  (sRet (eC (.bool true))))

end Z

namespace Z
open PySem PySem.Spec PyProof.Rows L2 Lw Pu
theorem kr_kb_show_history_0_history : KR kb_show_history_0_history := by
  refine ⟨fun {γ M vs us ws ys} r1 r2 => ?_, fun {us ys u} h => ?_⟩
  · by_cases h : vs.length = 0 ∧ ws.length = 1
    · match vs, us, ws, ys, r1, r2, h with
      | _, _, _, _, .nil, (.cons hb0 .nil), _ => exact (.cons hb0 .nil)
    · have e1 := r1.length
      have e2 := r2.length
      have z1 : kb_show_history_0_history vs ws = [] := by
        unfold kb_show_history_0_history
        split
        · exact absurd ⟨rfl, rfl⟩ h
        · rfl
      have z2 : kb_show_history_0_history us ys = [] := by
        unfold kb_show_history_0_history
        split
        · exact absurd ⟨e1, e2⟩ h
        · rfl
      rw [z1, z2]
      exact .nil
  · unfold kb_show_history_0_history at h
    split at h
    · simp only [List.mem_cons, List.not_mem_nil, or_false] at h ⊢
      grind
    · cases h
theorem vf_read_number : VF m_read_number v_read_number := vf_fn (k := 1) (n := 2) (vs_seq (S := []) (S1 := []) (S' := []) (B := []) (vs_if (S := []) (S' := []) (B := []) (vt_or (vt_not (vt_of (vj_chain n_le n_le vj_c (vj_cb na_len (va_cons (vj_var (i := 0) (by decide)) va_nil)) vj_c))) (vt_not (vt_of (vj_cb na_all (va_cons (VFr.vj (vfr_lc (vi_txt (vj_var (i := 0) (by decide))) (vg_nm (i := 1)) vt_yes (vj_op (n_in false) (vj_var (i := 1) (by decide)) vj_c))) va_nil))))) (vs_ret (S := []) (S' := []) (B := []) vj_c) (vs_nil (S := []) (S' := []) (B := [])))
   (vs_ret (S := []) (S' := []) (B := []) (vj_if (vt_and (vt_of (vj_op n_gt (vj_cb na_len (va_cons (vj_var (i := 0) (by decide)) va_nil)) vj_c)) (vt_of (vj_op n_eq (vj_op n_ix (vj_var (i := 0) (by decide)) vj_c) vj_c))) vj_c (vj_cb na_intS (va_cons (vj_var (i := 0) (by decide)) va_nil)))))
theorem vf_read_whole : VF m_read_whole v_read_whole := vf_fn (k := 1) (n := 2) (vs_seq (S := []) (S1 := []) (S' := []) (B := []) (vs_if (S := []) (S' := []) (B := []) (vt_not (vt_tr (vj_mt nm_starts (vj_var (i := 0) (by decide)) (va_cons vj_c va_nil)))) (vs_ret (S := []) (S' := []) (B := []) (vj_call vf_read_number (va_cons (vj_var (i := 0) (by decide)) va_nil))) (vs_nil (S := []) (S' := []) (B := [])))
   (vs_seq (S := []) (S1 := []) (S' := []) (B := []) (vs_set (S := []) (S' := []) (B := []) (i := 1) (vj_call vf_read_number (va_cons (vj_sl (vj_var (i := 0) (by decide)) (vo_some vj_c) vo_none) va_nil)))
   (vs_ret (S := []) (S' := []) (B := []) (vj_if (vt_or (vt_of (vj_op (n_is false) (vj_var (i := 1) (by decide)) vj_c)) (vt_of (vj_op n_eq (vj_var (i := 1) (by decide)) vj_c))) vj_c (vj_neg (vj_var (i := 1) (by decide)))))))
theorem vf_read_deed : VF m_read_deed v_read_deed := vf_fn (k := 2) (n := 6) (vs_seq (S := []) (S1 := []) (S' := []) (B := []) (vs_star (S := []) (S' := []) (B := []) (i := 2) (j := 3) (vj_mt nm_split (vj_var (i := 1) (by decide)) (va_cons vj_c va_nil)))
   (vs_seq (S := []) (S1 := []) (S' := []) (B := []) (vs_set (S := []) (S' := []) (B := []) (i := 4) (VFr.vj (vfr_lc (vi_seq (vj_var (i := 3) (by decide))) (vg_nm (i := 5)) vt_yes (vj_call vf_read_whole (va_cons (vj_var (i := 5) (by decide)) va_nil)))))
   (vs_ret (S := []) (S' := []) (B := []) (vj_if (vt_or (vt_of (vj_op (n_in false) vj_c (vj_var (i := 4) (by decide)))) (vt_of (vj_op (n_in true) (vj_tup (vx_cons (vj_var (i := 2) (by decide)) (vx_cons (vj_cb na_len (va_cons (vj_var (i := 4) (by decide)) va_nil)) vx_nil))) (vj_var (i := 0) (by decide))))) vj_c (vj_tup (vx_cons (vj_var (i := 2) (by decide)) (vx_star (vj_var (i := 4) (by decide)) vx_nil)))))))
theorem vf_read_history (A : Adr) : VFX (m_read_history A) (v_read_history A) := vfx_fn (k := 2) (n := 4) (vsx_seq (S := []) (S1 := []) (S' := []) (B := []) (T := []) (vsx_if (S := []) (S' := []) (B := []) (T := []) (vt_not (vt_of (vj_cb na_isi (va_cons (vj_var (i := 1) (by decide)) (va_cons vj_ty va_nil))))) (vsx_raise (S := []) (S' := []) (B := []) (T := []) vj_c) (vsx_up (S := []) (S' := []) (B := []) (T := []) (vs_nil (S := []) (S' := []) (B := []))))
   (vsx_seq (S := []) (S1 := []) (S' := []) (B := []) (T := []) (vsx_up (S := []) (S' := []) (B := []) (T := []) (vs_if (S := []) (S' := []) (B := []) (vt_of (vj_op n_eq (vj_var (i := 1) (by decide)) vj_c)) (vs_ret (S := []) (S' := []) (B := []) (vj_tup vx_nil)) (vs_nil (S := []) (S' := []) (B := []))))
   (vsx_seq (S := []) (S1 := []) (S' := []) (B := []) (T := []) (vsx_up (S := []) (S' := []) (B := []) (T := []) (vs_set (S := []) (S' := []) (B := []) (i := 2) (vj_cb na_tuple (va_cons (VFr.vj (vfr_lc (vi_seq (vj_mt nm_split (vj_var (i := 1) (by decide)) (va_cons vj_c va_nil))) (vg_nm (i := 3)) vt_yes (vj_call vf_read_deed (va_cons (vj_var (i := 0) (by decide)) (va_cons (vj_var (i := 3) (by decide)) va_nil))))) va_nil))))
   (vsx_seq (S := []) (S1 := []) (S' := []) (B := []) (T := []) (vsx_if (S := []) (S' := []) (B := []) (T := []) (vt_of (vj_op (n_in false) vj_c (vj_var (i := 2) (by decide)))) (vsx_raise (S := []) (S' := []) (B := []) (T := []) vj_c) (vsx_up (S := []) (S' := []) (B := []) (T := []) (vs_nil (S := []) (S' := []) (B := []))))
   (vsx_up (S := []) (S' := []) (B := []) (T := []) (vs_ret (S := []) (S' := []) (B := []) (vj_var (i := 2) (by decide))))))))
theorem vf_show_history : VF m_show_history v_show_history := vf_fn (k := 1) (n := 3) (vs_seq (S := []) (S1 := []) (S' := []) (B := []) (vs_if (S := []) (S' := []) (B := []) (vt_of (vj_op n_eq (vj_cb na_len (va_cons (vj_var (i := 0) (by decide)) va_nil)) vj_c)) (vs_ret (S := []) (S' := []) (B := []) vj_c) (vs_nil (S := []) (S' := []) (B := [])))
   (vs_ret (S := []) (S' := []) (B := []) (vj_mt nm_join vj_c (va_cons (VFr.vj (vfr_lc (vi_seq (vj_var (i := 0) (by decide))) (vg_nm (i := 1)) vt_yes (vj_mt nm_join vj_c (va_cons (VFr.vj (vfr_lc (vi_seq (vj_var (i := 1) (by decide))) (vg_nm (i := 2)) vt_yes (vj_cb na_strS (va_cons (vj_var (i := 2) (by decide)) va_nil)))) va_nil)))) va_nil))))
theorem vf__law_hand : VF m__law_hand v__law_hand := vf_fn (k := 2) (n := 4) (vs_seq (S := []) (S1 := []) (S' := []) (B := []) (vs_set (S := []) (S' := []) (B := []) (i := 2) (vj_if (vt_of (vj_op n_lt (vj_var (i := 1) (by decide)) (vj_cb na_len (va_cons (vj_var (i := 0) (by decide)) va_nil)))) (vj_op n_ix (vj_var (i := 0) (by decide)) (vj_var (i := 1) (by decide))) (vj_op n_add (vj_op n_mul vj_c (vj_var (i := 1) (by decide))) vj_c)))
   (vs_seq (S := []) (S1 := []) (S' := []) (B := []) (vs_set (S := []) (S' := []) (B := []) (i := 3) (vj_op n_mul (vj_op n_mod (vj_cb na_abs (va_cons (vj_var (i := 2) (by decide)) va_nil)) (vj_op n_pow (vj_op n_pow vj_c vj_c) vj_c)) (vj_cb na_int (va_cons (vj_op n_ge (vj_cb na_abs (va_cons (vj_var (i := 2) (by decide)) va_nil)) (vj_op n_pow vj_c vj_c)) va_nil))))
   (vs_ret (S := []) (S' := []) (B := []) (vj_hnd (vx_cons (vj_var (i := 3) (by decide)) (vx_cons (vj_op n_mod (vj_op n_mul (vj_op n_add (vj_op n_add (vj_op n_mod (vj_var (i := 2) (by decide)) vj_c) (vj_op n_mul (vj_op n_mul vj_c (vj_var (i := 1) (by decide))) (vj_var (i := 1) (by decide)))) vj_c) vj_c) vj_c) (vx_cons vj_c vx_nil)))))))
theorem vf__law_take : VF m__law_take v__law_take := vf_fn (k := 2) (n := 5) (vs_seq (S := []) (S1 := []) (S' := []) (B := []) (vs_if (S := []) (S' := []) (B := []) (vt_of (vj_op n_gt (vj_op n_ix (vj_var (i := 0) (by decide)) vj_c) vj_c)) (vs_seq (S := []) (S1 := []) (S' := []) (B := []) (vs_set (S := []) (S' := []) (B := []) (i := 2) (vj_op n_mod (vj_op n_ix (vj_var (i := 0) (by decide)) vj_c) (vj_var (i := 1) (by decide))))
   (vs_seq (S := []) (S1 := []) (S' := []) (B := []) (vs_sb (S := []) (B := []) (vj_op n_fdiv (vj_op n_ix (vj_var (i := 0) (by decide)) vj_c) (vj_var (i := 1) (by decide))) (vj_var (i := 0) (by decide)) vj_c)
   (vs_ret (S := []) (S' := []) (B := []) (vj_var (i := 2) (by decide))))) (vs_nil (S := []) (S' := []) (B := [])))
   (vs_seq (S := []) (S1 := []) (S' := []) (B := []) (vs_sb (S := []) (B := []) (vj_op n_add (vj_op n_ix (vj_var (i := 0) (by decide)) vj_c) vj_c) (vj_var (i := 0) (by decide)) vj_c)
   (vs_seq (S := []) (S1 := []) (S' := []) (B := []) (vs_set (S := []) (S' := []) (B := []) (i := 3) (vj_op n_ix (VFr.vj (vfr_lst (vx_cons vj_c (vx_cons vj_c (vx_cons vj_c (vx_cons vj_c (vx_cons vj_c (vx_cons vj_c (vx_cons vj_c vx_nil))))))))) (vj_op n_mod (vj_op n_ix (vj_var (i := 0) (by decide)) vj_c) vj_c)))
   (vs_seq (S := []) (S1 := []) (S' := []) (B := []) (vs_set (S := []) (S' := []) (B := []) (i := 4) (vj_op n_mod (vj_op n_pow (vj_op n_add (vj_op n_ix (vj_var (i := 0) (by decide)) vj_c) (vj_op n_mul vj_c (vj_op n_ix (vj_var (i := 0) (by decide)) vj_c))) vj_c) (vj_var (i := 3) (by decide))))
   (vs_ret (S := []) (S' := []) (B := []) (vj_op n_mod (vj_op n_fdiv (vj_op n_mod (vj_op n_mul (vj_var (i := 4) (by decide)) (vj_op n_add (vj_op n_mod (vj_var (i := 4) (by decide)) vj_c) (vj_op n_ix (vj_var (i := 0) (by decide)) vj_c))) (vj_var (i := 3) (by decide))) vj_c) (vj_var (i := 1) (by decide))))))))
theorem vf__law_of : VF m__law_of v__law_of := vf_fn (k := 2) (n := 2) (vs_ret (S := []) (S' := []) (B := []) (vj_op n_ix (vj_var (i := 1) (by decide)) (vj_call vf__law_take (va_cons (vj_var (i := 0) (by decide)) (va_cons (vj_cb na_len (va_cons (vj_var (i := 1) (by decide)) va_nil)) va_nil)))))
theorem vf__law_names : VF m__law_names v__law_names := vf_fn (k := 2) (n := 12) (vs_seq (S := []) (S1 := []) (S' := []) (B := []) (vs_set (S := []) (S' := []) (B := []) (i := 2) vj_c)
   (vs_seq (S := []) (S1 := []) (S' := []) (B := []) (vs_par2 (S := []) (S' := []) (B := []) (i := 3) (j := 4) (fun a b => par_m a b) (vj_call vf__law_take (va_cons (vj_var (i := 0) (by decide)) (va_cons vj_c va_nil))) (vj_call vf__law_of (va_cons (vj_var (i := 0) (by decide)) (va_cons (VFr.vj (vfr_lst (vx_cons vj_c (vx_cons vj_c (vx_cons vj_c (vx_cons vj_c (vx_cons vj_c (vx_cons vj_c vx_nil)))))))) va_nil))))
   (vs_seq (S := []) (S1 := []) (S' := []) (B := []) (vs_set (S := []) (S' := []) (B := []) (i := 5) (vj_call vf__law_of (va_cons (vj_var (i := 0) (by decide)) (va_cons (VFr.vj (vfr_lst (vx_cons vj_c (vx_cons vj_c (vx_cons vj_c (vx_cons vj_c (vx_cons vj_c (vx_cons vj_c vx_nil)))))))) va_nil))))
   (vs_seq (S := []) (S1 := []) (S' := []) (B := []) (vs_set (S := []) (S' := []) (B := []) (i := 7) (vj_mt nm_join vj_c (va_cons (VFr.vj (vfr_lc (vi_rg1 (va_cons (vj_var (i := 5) (by decide)) va_nil)) (vg_nm (i := 6)) vt_yes (vj_call vf__law_of (va_cons (vj_var (i := 0) (by decide)) (va_cons (vj_var (i := 2) (by decide)) va_nil))))) va_nil)))
   (vs_seq (S := []) (S1 := [9]) (S' := []) (B := []) (vs_parF (S := []) (S' := [9]) (B := []) (i := 8) (j := 9) (fun a b => par_m a b) (vj_call vf__law_take (va_cons (vj_var (i := 0) (by decide)) (va_cons (vj_op n_add (vj_var (i := 5) (by decide)) vj_c) va_nil))) (vfr_lst vx_nil))
   (vs_seq (S := [9]) (S1 := [9]) (S' := []) (B := []) (vs_for (S := [9]) (B := []) (vi_rg1 (va_cons (vj_var (i := 1) (by decide)) va_nil)) (vg_nm (i := 6)) (vs_seq (S := [9]) (S1 := [9]) (S' := [9]) (B := [9]) (vs_set (S := [9]) (S' := [9]) (B := [9]) (i := 10) (vj_op n_ix (vj_var (i := 2) (by decide)) (vj_op n_mod (vj_op n_add (vj_var (i := 3) (by decide)) (vj_op n_mul (vj_var (i := 4) (by decide)) (vj_var (i := 6) (by decide)))) vj_c)))
   (vs_seq (S := [9]) (S1 := [9]) (S' := [9]) (B := [9]) (vs_set (S := [9]) (S' := [9]) (B := [9]) (i := 11) (vj_op n_add (vj_op n_add (vj_sl (vj_var (i := 7) (by decide)) vo_none (vo_some (vj_var (i := 8) (by decide)))) (vj_var (i := 10) (by decide))) (vj_sl (vj_var (i := 7) (by decide)) (vo_some (vj_var (i := 8) (by decide))) vo_none)))
   (vs_app (S := [9]) (B := [9]) (i := 9) (vx_cons (vj_op n_add (vj_var (i := 11) (by decide)) (vj_op n_mul vj_c (vj_cb na_int (va_cons (vj_op (n_in false) (vj_var (i := 11) (by decide)) (vj_tup (vx_cons vj_c (vx_cons vj_c (vx_cons vj_c (vx_cons vj_c (vx_cons vj_c vx_nil))))))) va_nil)))) vx_nil)))))
   (vs_ret (S := [9]) (S' := []) (B := []) (vj_var (i := 9) (by decide)))))))))
theorem vf__law_number : VF m__law_number v__law_number := vf_fn (k := 1) (n := 2) (vs_seq (S := []) (S1 := []) (S' := []) (B := []) (vs_set (S := []) (S' := []) (B := []) (i := 1) (vj_call vf__law_take (va_cons (vj_var (i := 0) (by decide)) (va_cons vj_c va_nil))))
   (vs_seq (S := []) (S1 := []) (S' := []) (B := []) (vs_if (S := []) (S' := []) (B := []) (vt_of (vj_op n_lt (vj_var (i := 1) (by decide)) vj_c)) (vs_ret (S := []) (S' := []) (B := []) (vj_call vf__law_take (va_cons (vj_var (i := 0) (by decide)) (va_cons vj_c va_nil)))) (vs_nil (S := []) (S' := []) (B := [])))
   (vs_ret (S := []) (S' := []) (B := []) (vj_op n_ix (VFr.vj (vfr_lst (vx_cons (vj_call vf__law_take (va_cons (vj_var (i := 0) (by decide)) (va_cons (vj_op n_pow vj_c vj_c) va_nil))) (vx_cons (vj_op n_sub (vj_neg vj_c) (vj_call vf__law_take (va_cons (vj_var (i := 0) (by decide)) (va_cons vj_c va_nil)))) vx_nil)))) (vj_op n_sub (vj_var (i := 1) (by decide)) vj_c)))))
theorem vf__law_row : VF m__law_row v__law_row := vf_fn (k := 5) (n := 12) (vs_seq (S := []) (S1 := [5]) (S' := []) (B := []) (vs_own (S := []) (S' := [5]) (B := []) (i := 5) (vfr_lst vx_nil))
   (vs_seq (S := [5]) (S1 := [5]) (S' := []) (B := []) (vs_for (S := [5]) (B := []) (vi_rg1 (va_cons (vj_var (i := 4) (by decide)) va_nil)) (vg_nm (i := 6)) (vs_seq (S := [5]) (S1 := [5]) (S' := [5]) (B := [5]) (vs_set (S := [5]) (S' := [5]) (B := [5]) (i := 8) (VFr.vj (vfr_lc (vi_rg1 (va_cons (vj_cb na_len (va_cons (vj_op n_ix (vj_var (i := 1) (by decide)) vj_c) va_nil)) va_nil)) (vg_nm (i := 7)) (vt_of (vj_op (n_is true) (vj_op n_ix (vj_op n_ix (vj_var (i := 2) (by decide)) (vj_var (i := 3) (by decide))) (vj_var (i := 7) (by decide))) vj_c)) (vj_var (i := 7) (by decide)))))
   (vs_if (S := [5]) (S' := [5]) (B := [5]) (vt_of (vj_op n_ne (vj_var (i := 8) (by decide)) (VFr.vj (vfr_lst vx_nil)))) (vs_seq (S := [5]) (S1 := [5]) (S' := [5]) (B := [5]) (vs_set (S := [5]) (S' := [5]) (B := [5]) (i := 7) (vj_call vf__law_of (va_cons (vj_var (i := 0) (by decide)) (va_cons (vj_var (i := 8) (by decide)) va_nil))))
   (vs_seq (S := [5]) (S1 := [5]) (S' := [5]) (B := [5]) (vs_asgT (S := [5]) (S' := [5]) (B := [5]) (vj_op n_ix (vj_op n_ix (vj_var (i := 1) (by decide)) vj_c) (vj_var (i := 7) (by decide))) (vgs_cons (vg_nm (i := 9)) (vgs_cons (vg_nm (i := 10)) vgs_nil)))
   (vs_seq (S := [5]) (S1 := [5]) (S' := [5]) (B := [5]) (vs_app (S := [5]) (B := [5]) (i := 5) (vx_cons (vj_op n_add (vj_tup (vx_cons (vj_var (i := 9) (by decide)) vx_nil)) (vj_cb na_tuple (va_cons (VFr.vj (vfr_lc (vi_rg1 (va_cons (vj_var (i := 10) (by decide)) va_nil)) (vg_nm (i := 11)) vt_yes (vj_call vf__law_number (va_cons (vj_var (i := 0) (by decide)) va_nil)))) va_nil))) vx_nil))
   (vs_set (S := [5]) (S' := [5]) (B := [5]) (i := 3) (vj_op n_ix (vj_op n_ix (vj_var (i := 2) (by decide)) (vj_var (i := 3) (by decide))) (vj_var (i := 7) (by decide))))))) (vs_nil (S := [5]) (S' := [5]) (B := [5])))))
   (vs_ret (S := [5]) (S' := []) (B := []) (vj_tup (vx_cons (vj_cb na_tuple (va_cons (vj_var (i := 5) (by decide)) va_nil)) (vx_cons (vj_var (i := 3) (by decide)) vx_nil))))))
theorem vf__law_figures : VF m__law_figures v__law_figures := vf_fn (k := 1) (n := 3) (vs_seq (S := []) (S1 := []) (S' := []) (B := []) (vs_if (S := []) (S' := []) (B := []) (vt_or (vt_not (vt_of (vj_chain n_lt n_lt vj_c (vj_cb na_len (va_cons (vj_var (i := 0) (by decide)) va_nil)) vj_c))) (vt_of (vj_op n_ne (VFr.vj (vfr_lc (vi_txt (vj_var (i := 0) (by decide))) (vg_nm (i := 1)) (vt_of (vj_op (n_in true) (vj_var (i := 1) (by decide)) vj_c)) (vj_var (i := 1) (by decide)))) (VFr.vj (vfr_lst vx_nil))))) (vs_ret (S := []) (S' := []) (B := []) vj_c) (vs_nil (S := []) (S' := []) (B := [])))
   (vs_seq (S := []) (S1 := []) (S' := []) (B := []) (vs_set (S := []) (S' := []) (B := []) (i := 2) vj_c)
   (vs_seq (S := []) (S1 := []) (S' := []) (B := []) (vs_for (S := []) (B := []) (vi_txt (vj_var (i := 0) (by decide))) (vg_nm (i := 1)) (vs_set (S := []) (S' := []) (B := []) (i := 2) (vj_op n_add (vj_op n_mul vj_c (vj_var (i := 2) (by decide))) (vj_mt nm_sindex vj_c (va_cons (vj_var (i := 1) (by decide)) va_nil)))))
   (vs_ret (S := []) (S' := []) (B := []) (vj_if (vt_of (vj_op n_eq (vj_cb na_str (va_cons (vj_var (i := 2) (by decide)) va_nil)) (vj_var (i := 0) (by decide)))) (vj_var (i := 2) (by decide)) vj_c)))))
theorem vf__law_spoilt_row : VF m__law_spoilt_row v__law_spoilt_row := vf_fn (k := 2) (n := 10) (vs_seq (S := []) (S1 := []) (S' := []) (B := []) (vs_par2 (S := []) (S' := []) (B := []) (i := 2) (j := 3) (fun a b => par_m a b) vj_c (vj_mt nm_split (vj_var (i := 1) (by decide)) (va_cons vj_c va_nil)))
   (vs_seq (S := []) (S1 := []) (S' := []) (B := []) (vs_parN (S := []) (S' := []) (B := []) (is := [4, 5, 6]) (va_cons (vj_call vf__law_take (va_cons (vj_var (i := 0) (by decide)) (va_cons (vj_op n_add (vj_cb na_len (va_cons (vj_var (i := 1) (by decide)) va_nil)) vj_c) va_nil))) (va_cons (vj_call vf__law_of (va_cons (vj_var (i := 0) (by decide)) (va_cons (vj_var (i := 2) (by decide)) va_nil))) (va_cons (vj_call vf__law_take (va_cons (vj_var (i := 0) (by decide)) (va_cons (vj_cb na_len (va_cons (vj_var (i := 3) (by decide)) va_nil)) va_nil))) va_nil))))
   (vs_seq (S := []) (S1 := []) (S' := []) (B := []) (vs_set (S := []) (S' := []) (B := []) (i := 7) (VFr.vj (vfr_lst (vx_cons vj_c (vx_cons vj_c (vx_cons vj_c (vx_cons vj_c (vx_cons vj_c (vx_cons vj_c (vx_cons vj_c (vx_cons vj_c (vx_cons (vj_op n_mulZ vj_c vj_c) (vx_cons (vj_op n_add vj_c (vj_op n_mulZ vj_c vj_c)) (vx_cons vj_c (vx_cons vj_c (vx_cons vj_c (vx_cons vj_c (vx_cons vj_c vx_nil))))))))))))))))))
   (vs_seq (S := []) (S1 := []) (S' := []) (B := []) (vs_set (S := []) (S' := []) (B := []) (i := 7) (vj_op n_add (vj_var (i := 7) (by decide)) (VFr.vj (vfr_lst (vx_cons vj_c (vx_cons vj_c (vx_cons vj_c (vx_cons vj_c (vx_cons vj_c (vx_cons vj_c vx_nil))))))))))
   (vs_seq (S := []) (S1 := []) (S' := []) (B := []) (vs_set (S := []) (S' := []) (B := []) (i := 7) (vj_op n_add (vj_var (i := 7) (by decide)) (VFr.vj (vfr_lst (vx_cons (vj_op n_add (vj_op n_add (vj_op n_mulZ vj_c vj_c) vj_c) (vj_op n_mulZ vj_c vj_c)) (vx_cons (vj_op n_add (vj_op n_add (vj_op n_mulZ vj_c vj_c) vj_c) (vj_op n_mulZ vj_c vj_c)) (vx_cons vj_c (vx_cons vj_c (vx_cons vj_c vx_nil)))))))))
   (vs_seq (S := []) (S1 := []) (S' := []) (B := []) (vs_set (S := []) (S' := []) (B := []) (i := 7) (vj_op n_add (vj_var (i := 7) (by decide)) (VFr.vj (vfr_lst (vx_cons (vj_op n_add (vj_op n_add (vj_op n_mulZ vj_c vj_c) vj_c) (vj_op n_mulZ vj_c vj_c)) (vx_cons (vj_op n_mulZ vj_c vj_c) (vx_cons vj_c (vx_cons vj_c (vx_cons vj_c (vx_cons vj_c (vx_cons vj_c (vx_cons vj_c vx_nil))))))))))))
   (vs_seq (S := []) (S1 := []) (S' := []) (B := []) (vs_set (S := []) (S' := []) (B := []) (i := 7) (vj_op n_add (vj_var (i := 7) (by decide)) (VFr.vj (vfr_lst (vx_cons vj_c (vx_cons vj_c (vx_cons vj_c (vx_cons vj_c vx_nil))))))))
   (vs_seq (S := []) (S1 := []) (S' := []) (B := []) (vs_set (S := []) (S' := []) (B := []) (i := 8) (vj_call vf__law_take (va_cons (vj_var (i := 0) (by decide)) (va_cons vj_c va_nil))))
   (vs_seq (S := []) (S1 := []) (S' := []) (B := []) (vs_if (S := []) (S' := []) (B := []) (vt_of (vj_op n_lt (vj_var (i := 8) (by decide)) vj_c)) (vs_ret (S := []) (S' := []) (B := []) (vj_op n_ix (VFr.vj (vfr_lst (vx_cons (vj_op n_add (vj_op n_add (vj_sl (vj_var (i := 1) (by decide)) vo_none (vo_some (vj_var (i := 4) (by decide)))) (vj_var (i := 5) (by decide))) (vj_sl (vj_var (i := 1) (by decide)) (vo_some (vj_var (i := 4) (by decide))) vo_none)) (vx_cons (vj_op n_add (vj_sl (vj_var (i := 1) (by decide)) vo_none (vo_some (vj_var (i := 4) (by decide)))) (vj_sl (vj_var (i := 1) (by decide)) (vo_some (vj_op n_add (vj_var (i := 4) (by decide)) vj_c)) vo_none)) (vx_cons (vj_op n_add (vj_op n_add (vj_sl (vj_var (i := 1) (by decide)) vo_none (vo_some (vj_var (i := 4) (by decide)))) (vj_var (i := 5) (by decide))) (vj_sl (vj_var (i := 1) (by decide)) (vo_some (vj_op n_add (vj_var (i := 4) (by decide)) vj_c)) vo_none)) vx_nil))))) (vj_var (i := 8) (by decide)))) (vs_nil (S := []) (S' := []) (B := [])))
   (vs_seq (S := []) (S1 := []) (S' := []) (B := []) (vs_if (S := []) (S' := []) (B := []) (vt_of (vj_op n_lt (vj_var (i := 8) (by decide)) vj_c)) (vs_ret (S := []) (S' := []) (B := []) (vj_mt nm_join vj_c (va_cons (vj_op n_add (vj_op n_add (vj_sl (vj_var (i := 3) (by decide)) vo_none (vo_some (vj_var (i := 6) (by decide)))) (VFr.vj (vfr_lst (vx_cons (vj_call vf__law_of (va_cons (vj_var (i := 0) (by decide)) (va_cons (vj_var (i := 7) (by decide)) va_nil))) vx_nil)))) (vj_sl (vj_var (i := 3) (by decide)) (vo_some (vj_op n_add (vj_var (i := 6) (by decide)) vj_c)) vo_none)) va_nil))) (vs_nil (S := []) (S' := []) (B := [])))
   (vs_seq (S := []) (S1 := []) (S' := []) (B := []) (vs_set (S := []) (S' := []) (B := []) (i := 9) (vj_op n_mul (vj_sl (vj_var (i := 3) (by decide)) (vo_some (vj_var (i := 6) (by decide))) (vo_some (vj_op n_add (vj_var (i := 6) (by decide)) vj_c))) (vj_op n_mul vj_c (vj_cb na_int (va_cons (vj_op n_eq (vj_var (i := 8) (by decide)) vj_c) va_nil)))))
   (vs_ret (S := []) (S' := []) (B := []) (vj_mt nm_join vj_c (va_cons (vj_op n_add (vj_op n_add (vj_sl (vj_var (i := 3) (by decide)) vo_none (vo_some (vj_var (i := 6) (by decide)))) (vj_var (i := 9) (by decide))) (vj_sl (vj_var (i := 3) (by decide)) (vo_some (vj_op n_add (vj_var (i := 6) (by decide)) vj_c)) vo_none)) va_nil))))))))))))))
theorem vf__law_row_text : VF m__law_row_text v__law_row_text := vf_fn (k := 1) (n := 4) (vs_seq (S := []) (S1 := []) (S' := []) (B := []) (vs_set (S := []) (S' := []) (B := []) (i := 1) (VFr.vj (vfr_lc (vi_seq (vj_var (i := 0) (by decide))) (vg_nm (i := 2)) vt_yes (vj_mt nm_join vj_c (va_cons (vj_op n_add (VFr.vj (vfr_lst (vx_cons (vj_op n_ix (vj_var (i := 2) (by decide)) vj_c) vx_nil))) (VFr.vj (vfr_lc (vi_seq (vj_sl (vj_var (i := 2) (by decide)) (vo_some vj_c) vo_none)) (vg_nm (i := 3)) vt_yes (vj_cb na_str (va_cons (vj_var (i := 3) (by decide)) va_nil))))) va_nil)))))
   (vs_ret (S := []) (S' := []) (B := []) (vj_if (vt_of (vj_op n_ne (vj_var (i := 1) (by decide)) (VFr.vj (vfr_lst vx_nil)))) (vj_mt nm_join vj_c (va_cons (vj_var (i := 1) (by decide)) va_nil)) vj_c)))
theorem vf__law_read_row : VF m__law_read_row v__law_read_row := vf_fn (k := 2) (n := 9) (vs_seq (S := []) (S1 := []) (S' := []) (B := []) (vs_if (S := []) (S' := []) (B := []) (vt_not (vt_of (vj_cb na_isi (va_cons (vj_var (i := 1) (by decide)) (va_cons vj_ty va_nil))))) (vs_ret (S := []) (S' := []) (B := []) (VFr.vj (vfr_lst (vx_cons vj_c vx_nil)))) (vs_nil (S := []) (S' := []) (B := [])))
   (vs_seq (S := []) (S1 := [2]) (S' := []) (B := []) (vs_parG (S := []) (S' := [2]) (B := []) (i := 2) (j := 3) (fun a b => par_m a b) (vfr_lst vx_nil) (vj_cb na_dictP (va_cons (vj_cb na_list (va_cons (vj_var (i := 0) (by decide)) va_nil)) va_nil)))
   (vs_seq (S := [2]) (S1 := [2]) (S' := []) (B := []) (vs_for (S := [2]) (B := []) (vi_seq (vj_if (vt_of (vj_op n_eq (vj_var (i := 1) (by decide)) vj_c)) (VFr.vj (vfr_lst vx_nil)) (vj_mt nm_split (vj_var (i := 1) (by decide)) (va_cons vj_c va_nil)))) (vg_nm (i := 4)) (vs_seq (S := [2]) (S1 := [2, 6]) (S' := [2]) (B := [2]) (vs_parF (S := [2]) (S' := [2, 6]) (B := [2]) (i := 5) (j := 6) (fun a b => par_m a b) (vj_mt nm_split (vj_var (i := 4) (by decide)) (va_cons vj_c va_nil)) (vfr_lst vx_nil))
   (vs_seq (S := [2, 6]) (S1 := [2, 6]) (S' := [2]) (B := [2]) (vs_if (S := [2, 6]) (S' := [2, 6]) (B := [2]) (vt_or (vt_of (vj_op (n_inG true) (vj_op n_ix (vj_var (i := 5) (by decide)) vj_c) (vj_var (i := 3) (by decide)))) (vt_of (vj_op n_ne (vj_cb na_len (va_cons (vj_var (i := 5) (by decide)) va_nil)) (vj_op n_add vj_c (vj_op n_ixG (vj_var (i := 3) (by decide)) (vj_op n_ix (vj_var (i := 5) (by decide)) vj_c)))))) (vs_ret (S := [2, 6]) (S' := [2, 6]) (B := [2]) (VFr.vj (vfr_lst (vx_cons vj_c vx_nil)))) (vs_nil (S := [2, 6]) (S' := [2, 6]) (B := [2])))
   (vs_seq (S := [2, 6]) (S1 := [2, 6]) (S' := [2]) (B := [2]) (vs_for (S := [2, 6]) (B := [2]) (vi_seq (vj_sl (vj_var (i := 5) (by decide)) (vo_some vj_c) vo_none)) (vg_nm (i := 7)) (vs_seq (S := [2, 6]) (S1 := [2, 6]) (S' := [2, 6]) (B := [2, 6]) (vs_set (S := [2, 6]) (S' := [2, 6]) (B := [2, 6]) (i := 8) (vj_call vf__law_figures (va_cons (vj_if (vt_of (vj_op n_eq (vj_sl (vj_var (i := 7) (by decide)) vo_none (vo_some vj_c)) vj_c)) (vj_sl (vj_var (i := 7) (by decide)) (vo_some vj_c) vo_none) (vj_var (i := 7) (by decide))) va_nil)))
   (vs_seq (S := [2, 6]) (S1 := [2, 6]) (S' := [2, 6]) (B := [2, 6]) (vs_if (S := [2, 6]) (S' := [2, 6]) (B := [2, 6]) (vt_or (vt_of (vj_op (n_is false) (vj_var (i := 8) (by decide)) vj_c)) (vt_of (vj_op n_eq (vj_var (i := 7) (by decide)) vj_c))) (vs_ret (S := [2, 6]) (S' := [2, 6]) (B := [2, 6]) (VFr.vj (vfr_lst (vx_cons vj_c vx_nil)))) (vs_nil (S := [2, 6]) (S' := [2, 6]) (B := [2, 6])))
   (vs_app (S := [2, 6]) (B := [2, 6]) (i := 6) (vx_cons (vj_if (vt_of (vj_op n_eq (vj_sl (vj_var (i := 7) (by decide)) vo_none (vo_some vj_c)) vj_c)) (vj_op n_sub vj_c (vj_var (i := 8) (by decide))) (vj_var (i := 8) (by decide))) vx_nil)))))
   (VS.weak (S := [2, 6]) (S' := [2, 6]) (S'' := [2]) (B := [2]) (vs_app (S := [2, 6]) (B := [2]) (i := 2) (vx_cons (vj_op n_add (vj_tup (vx_cons (vj_op n_ix (vj_var (i := 5) (by decide)) vj_c) vx_nil)) (vj_cb na_tuple (va_cons (vj_var (i := 6) (by decide)) va_nil))) vx_nil)))))))
   (vs_ret (S := [2]) (S' := []) (B := []) (vj_cb na_tuple (va_cons (vj_var (i := 2) (by decide)) va_nil))))))
theorem vf__law_told (A : Adr) : VF (m__law_told A) (v__law_told A) := vf_fn (k := 2) (n := 6) (vs_seq (S := []) (S1 := []) (S' := []) (B := []) (vs_par2 (S := []) (S' := []) (B := []) (i := 2) (j := 3) (fun a b => parn_m a b) vj_c vj_c)
   (vs_seq (S := []) (S1 := []) (S' := []) (B := []) (vs_tryK (S := []) (S' := []) (B := []) (cs := [A.C_NoText]) (i := 4) (j := 2) (vsx_set (S := []) (S' := []) (B := []) (T := []) (i := 3) (vex_call (vf_read_history A) (va_cons (vj_var (i := 0) (by decide)) (va_cons (vj_var (i := 1) (by decide)) va_nil)))))
   (vs_seq (S := []) (S1 := []) (S' := []) (B := []) (vs_if (S := []) (S' := []) (B := []) (vt_of (vj_op (n_is false) (vj_var (i := 2) (by decide)) vj_c)) (vs_ret (S := []) (S' := []) (B := []) (vj_var (i := 3) (by decide))) (vs_nil (S := []) (S' := []) (B := [])))
   (vs_seq (S := []) (S1 := []) (S' := []) (B := []) (vs_set (S := []) (S' := []) (B := []) (i := 5) (vj_and (vj_cb (na_isX (tab A)) (va_cons (vj_var (i := 2) (by decide)) (va_cons vj_adr va_nil))) (vj_cb (na_isX (tab A)) (va_cons (vj_var (i := 2) (by decide)) (va_cons vj_ty va_nil)))))
   (vs_ret (S := []) (S' := []) (B := []) (vj_if (vt_tr (vj_var (i := 5) (by decide))) (VFr.vj (vfr_lst (vx_cons (vj_xf (vj_var (i := 2) (by decide))) vx_nil))) vj_c))))))
theorem vf_law (A : Adr) : VF (m_law A) (v_law A) := vf_fn (k := 1) (n := 16) (vs_seq (S := []) (S1 := []) (S' := []) (B := []) (vs_for (S := []) (B := []) (vi_rg1 (va_cons (vj_op n_add vj_c (vj_cb na_min2 (va_cons vj_c (va_cons (vj_cb na_len (va_cons (vj_var (i := 0) (by decide)) va_nil)) va_nil)))) va_nil)) (vg_nm (i := 1)) (vs_seq (S := []) (S1 := []) (S' := []) (B := []) (vs_set (S := []) (S' := []) (B := []) (i := 2) (vj_call vf__law_hand (va_cons (vj_var (i := 0) (by decide)) (va_cons (vj_var (i := 1) (by decide)) va_nil))))
   (vs_seq (S := []) (S1 := []) (S' := []) (B := []) (vs_set (S := []) (S' := []) (B := []) (i := 3) (vj_call vf__law_names (va_cons (vj_var (i := 2) (by decide)) (va_cons vj_c va_nil))))
   (vs_seq (S := []) (S1 := []) (S' := []) (B := []) (vs_set (S := []) (S' := []) (B := []) (i := 4) (vj_cb na_tuple (va_cons (VFr.vj (vfr_lc (vi_rg1 (va_cons (vj_op n_add vj_c (vj_call vf__law_take (va_cons (vj_var (i := 2) (by decide)) (va_cons vj_c va_nil)))) va_nil)) (vg_nm (i := 14)) vt_yes (vj_tup (vx_cons (vj_op n_ix (vj_var (i := 3) (by decide)) (vj_var (i := 14) (by decide))) (vx_cons (vj_call vf__law_take (va_cons (vj_var (i := 2) (by decide)) (va_cons vj_c va_nil))) vx_nil))))) va_nil)))
   (vs_for (S := []) (B := []) (vi_rg1 (va_cons vj_c va_nil)) (vg_nm (i := 5)) (vs_seq (S := []) (S1 := []) (S' := []) (B := []) (vs_asgT (S := []) (S' := []) (B := []) (vj_call vf__law_row (va_cons (vj_var (i := 2) (by decide)) (va_cons (vj_tup (vx_cons (vj_tup vx_nil) (vx_cons (vj_var (i := 4) (by decide)) (vx_cons (vj_tup vx_nil) vx_nil)))) (va_cons (vj_tup (vx_cons (vj_op n_mul (vj_tup (vx_cons vj_c vx_nil)) (vj_cb na_len (va_cons (vj_var (i := 4) (by decide)) va_nil))) vx_nil)) (va_cons vj_c (va_cons (vj_call vf__law_take (va_cons (vj_var (i := 2) (by decide)) (va_cons vj_c va_nil))) va_nil)))))) (vgs_cons (vg_nm (i := 6)) (vgs_cons (vg_nm (i := 7)) vgs_nil)))
   (vs_seq (S := []) (S1 := []) (S' := []) (B := []) (vs_par2 (S := []) (S' := []) (B := []) (i := 8) (j := 9) (fun a b => par_m a b) (vj_call vf__law_row_text (va_cons (vj_var (i := 6) (by decide)) va_nil)) (vj_cb na_repr (va_cons (vj_var (i := 6) (by decide)) va_nil)))
   (vs_seq (S := []) (S1 := []) (S' := []) (B := []) (vs_if (S := []) (S' := []) (B := []) (vt_or (vt_of (vj_op n_ne (vj_call vf_show_history (va_cons (vj_var (i := 6) (by decide)) va_nil)) (vj_var (i := 8) (by decide)))) (vt_or (vt_of (vj_op n_ne (vj_ck vf_show_history kr_kb_show_history_0_history va_nil (va_cons (vj_var (i := 6) (by decide)) va_nil)) (vj_var (i := 8) (by decide)))) (vt_of (vj_op n_ne (vj_cb na_repr (va_cons (vj_var (i := 6) (by decide)) va_nil)) (vj_var (i := 9) (by decide)))))) (vs_ret (S := []) (S' := []) (B := []) vj_c) (vs_nil (S := []) (S' := []) (B := [])))
   (vs_seq (S := []) (S1 := [10]) (S' := []) (B := []) (vs_own (S := []) (S' := [10]) (B := []) (i := 10) (vfr_lst (vx_cons (vj_var (i := 8) (by decide)) (vx_cons vj_c (vx_cons vj_c (vx_cons vj_c (vx_cons (vj_tup vx_nil) (vx_cons (vj_var (i := 6) (by decide)) (vx_cons vj_c (vx_cons (vj_op n_add (vj_var (i := 8) (by decide)) vj_c) (vx_cons (vj_op n_add (vj_var (i := 8) (by decide)) vj_c) (vx_cons (vj_op n_add (vj_var (i := 8) (by decide)) vj_c) (vx_cons vj_c (vx_cons (vj_op n_add (vj_var (i := 8) (by decide)) vj_c) vx_nil))))))))))))))
   (vs_seq (S := [10]) (S1 := [10]) (S' := []) (B := []) (vs_for (S := [10]) (B := []) (vi_rg1 (va_cons vj_c va_nil)) (vg_nm (i := 11)) (vs_seq (S := [10]) (S1 := [10]) (S' := [10]) (B := [10]) (vs_set (S := [10]) (S' := [10]) (B := [10]) (i := 12) (vj_call vf__law_spoilt_row (va_cons (vj_var (i := 2) (by decide)) (va_cons (vj_var (i := 8) (by decide)) va_nil))))
   (vs_app (S := [10]) (B := [10]) (i := 10) (vx_cons (vj_if (vt_of (vj_op n_eq (vj_call vf__law_take (va_cons (vj_var (i := 2) (by decide)) (va_cons vj_c va_nil))) vj_c)) (vj_call vf__law_spoilt_row (va_cons (vj_var (i := 2) (by decide)) (va_cons (vj_var (i := 12) (by decide)) va_nil))) (vj_var (i := 12) (by decide))) vx_nil))))
   (VS.weak (S := [10]) (S' := [10]) (S'' := []) (B := []) (vs_for (S := [10]) (B := []) (vi_seq (VFr.vj (vfr_lc (vi_seq (vj_var (i := 10) (by decide))) (vg_nm (i := 15)) (vt_or (vt_not (vt_of (vj_cb na_isi (va_cons (vj_var (i := 15) (by decide)) (va_cons vj_ty va_nil))))) (vt_of (vj_op n_lt (vj_cb na_len (va_cons (vj_var (i := 15) (by decide)) va_nil)) vj_c))) (vj_var (i := 15) (by decide))))) (vg_nm (i := 13)) (vs_if (S := [10]) (S' := [10]) (B := [10]) (vt_of (vj_op n_ne (vj_cb na_repr (va_cons (vj_call (vf__law_told A) (va_cons (vj_var (i := 4) (by decide)) (va_cons (vj_var (i := 13) (by decide)) va_nil))) va_nil)) (vj_cb na_repr (va_cons (vj_call vf__law_read_row (va_cons (vj_var (i := 4) (by decide)) (va_cons (vj_var (i := 13) (by decide)) va_nil))) va_nil)))) (vs_ret (S := [10]) (S' := [10]) (B := [10]) vj_c) (vs_nil (S := [10]) (S' := [10]) (B := [10])))))))))))))))
   (vs_ret (S := []) (S' := []) (B := []) vj_c))
end Z

namespace Z
open PySem PySem.Spec PyProof.Rows L2 Lw Pu
/-! ### the hand that draws, over values -/
def HF (N : Mem) (h n : Nat) (M : Mem) : Prop := ∃ g m c : Int, h < N.length ∧ M = N.set h (.lst true [.dat (.int g), .dat (.int m), .dat (.int c)]) ∧ 0 ≤ m ∧ m < 2305843009213693921 ∧ 0 ≤ c ∧ c ≤ n
theorem HF.mono {N M : Mem} {h n k : Nat} (hh : HF N h n M) (hk : n ≤ k) : HF N h k M := by
  obtain ⟨g, m, c, e, a, b, d, c0, c1⟩ := hh
  exact ⟨g, m, c, e, a, b, d, c0, by omega⟩
theorem prime_ix {c : Int} (h : 0 ≤ c) : ∃ p, atI (primes.map PyData.int) (c % 7) = some (.int p) ∧ 2147483497 ≤ p ∧ p ≤ 2147483629 := by
  obtain ⟨p, hp, a, b⟩ := prime_at h
  exact ⟨p, by rw [atI_map, hp]; rfl, a, b⟩
theorem take_wide {N M : Mem} {h n : Nat} {k : Int} {Q : U → Mem → Prop} (hh : HF N h n M) (hn : n + 1 ≤ 1000000000) (hk : 0 < k) (hk2 : k.natAbs < 2 ^ 400) (q : ∀ x M', 0 ≤ x → x < k → HF N h (n + 1) M' → Q (.dat (.int x)) M') :
    W (v__law_take [.cell h, .dat (.int k)] M) Q := by
  obtain ⟨g, m, c, hl, rfl, m0, m1, c0, c1⟩ := hh
  have e : (N.set h (.lst true [.dat (.int g), .dat (.int m), .dat (.int c)]))[h]? = some (.lst true [.dat (.int g), .dat (.int m), .dat (.int c)]) := List.getElem?_set_self hl
  simp only [v__law_take, w_fn, w_ret, w_seq, w_sif, w_of, w_trn, w_op, w_snil, w_pass, w_retn, w_asg, w_gnm, w_gsb, w_gtp, w_gcn, w_gn0, w_par, w_aug, w_drop, w_c, w_k, w_lst, w_tup, w_and, w_or, w_not, w_neg, w_ifx, w_tand, w_tor, w_tnot, w_cb, w_ck, w_mt, w_cons, w_nil, w_var, w_chain, w_sl, w_osome, w_onone, Pu.w_rev, w_dct0, w_for, w_iseq, w_irg1, w_lc, w_lc2, List.map_cons, List.map_nil, List.cons_append, List.nil_append, List.getElem?_cons_zero, List.getElem?_cons_succ, List.length_cons, List.length_nil, Option.some.injEq, exists_eq_left', w_some, List.replicate, List.set_cons_zero, List.set_cons_succ, frz_nil, frz_dat, frz_new, frz_new0, ne_ss, list_t, mk_nil, mk1, mk2, mk3, U.dat.injEq, PyData.int.injEq, PyData.bool.injEq, PyData.str.injEq, U.cell.injEq, add_ii, sub_ii, lt_ii, le_ii, gt_ii, ge_ii, eq_ii, ne_ii, eq_tt0, ne_tt0, eq_ds, sl_t, len_t, isi_int, isi_bool, isi_str, isi_tup, abs_i, min_ii, max_ii, int_i, int_b, mod_ii, fdiv_ii, mul_ii, pow_ii, add_ss, add_tt, mul_ti, repr_d, frzU_dat, and_true, true_and, and_assoc, List.cons.injEq, exists_and_left, exists_and_right, exists_eq_left, exists_eq_right, ix_t, ix_s, sl_s, len_s, is_non, Nat.reduceAdd, Nat.reduceSub, sz0, sz1, sz2, sz3, sz4, sz5, sz6, sz7, sz8, sz9, sz10, sz11, sz12, sz13, sz14, sz15, sz16, sz17, sz18, sz19, sz20, sz21, sz22, sz23, sz24, sz25, sz26, sz27, sz28, sz29, sz30, w_vtup, w_vlst, w_vhnd, w_fzl, w_vlc, w_vlc2, w_viseq, w_vien, w_vizp, w_irg2, w_vtxt, w_vfor, w_sown, w_vapp, w_vext, w_vsb, w_vpar, w_vparf, w_vparg, w_vsl, w_star, ad_nil, ad_dat, ad_map, ad_app, Option.map_some, vadd_ii, vadd_ss, vadd_tt, vadd_ll, vmul_ii, vmul_ti, vsl_t, vsl_l, vsl_s, seq_t, seq_lv, seq_dl, lst_lv, nc_lv, nc_dat, nc_scr, len_lv, ix_lv, vlist_t, vlist_l, vlistT_t, vtup_l, vtup_t, vrepr_d, vrepr_l, vsort_l, ty_lv, wipeR, dtup_t, List.append_nil, vcat_ll]
  refine (ix_h e).1.mpr ?_
  simp only [w_fn, w_ret, w_seq, w_sif, w_of, w_trn, w_op, w_snil, w_pass, w_retn, w_asg, w_gnm, w_gsb, w_gtp, w_gcn, w_gn0, w_par, w_aug, w_drop, w_c, w_k, w_lst, w_tup, w_and, w_or, w_not, w_neg, w_ifx, w_tand, w_tor, w_tnot, w_cb, w_ck, w_mt, w_cons, w_nil, w_var, w_chain, w_sl, w_osome, w_onone, Pu.w_rev, w_dct0, w_for, w_iseq, w_irg1, w_lc, w_lc2, List.map_cons, List.map_nil, List.cons_append, List.nil_append, List.getElem?_cons_zero, List.getElem?_cons_succ, List.length_cons, List.length_nil, Option.some.injEq, exists_eq_left', w_some, List.replicate, List.set_cons_zero, List.set_cons_succ, frz_nil, frz_dat, frz_new, frz_new0, ne_ss, list_t, mk_nil, mk1, mk2, mk3, U.dat.injEq, PyData.int.injEq, PyData.bool.injEq, PyData.str.injEq, U.cell.injEq, add_ii, sub_ii, lt_ii, le_ii, gt_ii, ge_ii, eq_ii, ne_ii, eq_tt0, ne_tt0, eq_ds, sl_t, len_t, isi_int, isi_bool, isi_str, isi_tup, abs_i, min_ii, max_ii, int_i, int_b, mod_ii, fdiv_ii, mul_ii, pow_ii, add_ss, add_tt, mul_ti, repr_d, frzU_dat, and_true, true_and, and_assoc, List.cons.injEq, exists_and_left, exists_and_right, exists_eq_left, exists_eq_right, ix_t, ix_s, sl_s, len_s, is_non, Nat.reduceAdd, Nat.reduceSub, sz0, sz1, sz2, sz3, sz4, sz5, sz6, sz7, sz8, sz9, sz10, sz11, sz12, sz13, sz14, sz15, sz16, sz17, sz18, sz19, sz20, sz21, sz22, sz23, sz24, sz25, sz26, sz27, sz28, sz29, sz30, w_vtup, w_vlst, w_vhnd, w_fzl, w_vlc, w_vlc2, w_viseq, w_vien, w_vizp, w_irg2, w_vtxt, w_vfor, w_sown, w_vapp, w_vext, w_vsb, w_vpar, w_vparf, w_vparg, w_vsl, w_star, ad_nil, ad_dat, ad_map, ad_app, Option.map_some, vadd_ii, vadd_ss, vadd_tt, vadd_ll, vmul_ii, vmul_ti, vsl_t, vsl_l, vsl_s, seq_t, seq_lv, seq_dl, lst_lv, nc_lv, nc_dat, nc_scr, len_lv, ix_lv, vlist_t, vlist_l, vlistT_t, vtup_l, vtup_t, vrepr_d, vrepr_l, vsort_l, ty_lv, wipeR, dtup_t, List.append_nil, vcat_ll]
  by_cases hg : 0 < g
  · rw [decide_eq_true hg]
    simp only
    refine (ix_h e).1.mpr ?_
    simp only [w_fn, w_ret, w_seq, w_sif, w_of, w_trn, w_op, w_snil, w_pass, w_retn, w_asg, w_gnm, w_gsb, w_gtp, w_gcn, w_gn0, w_par, w_aug, w_drop, w_c, w_k, w_lst, w_tup, w_and, w_or, w_not, w_neg, w_ifx, w_tand, w_tor, w_tnot, w_cb, w_ck, w_mt, w_cons, w_nil, w_var, w_chain, w_sl, w_osome, w_onone, Pu.w_rev, w_dct0, w_for, w_iseq, w_irg1, w_lc, w_lc2, List.map_cons, List.map_nil, List.cons_append, List.nil_append, List.getElem?_cons_zero, List.getElem?_cons_succ, List.length_cons, List.length_nil, Option.some.injEq, exists_eq_left', w_some, List.replicate, List.set_cons_zero, List.set_cons_succ, frz_nil, frz_dat, frz_new, frz_new0, ne_ss, list_t, mk_nil, mk1, mk2, mk3, U.dat.injEq, PyData.int.injEq, PyData.bool.injEq, PyData.str.injEq, U.cell.injEq, add_ii, sub_ii, lt_ii, le_ii, gt_ii, ge_ii, eq_ii, ne_ii, eq_tt0, ne_tt0, eq_ds, sl_t, len_t, isi_int, isi_bool, isi_str, isi_tup, abs_i, min_ii, max_ii, int_i, int_b, mod_ii, fdiv_ii, mul_ii, pow_ii, add_ss, add_tt, mul_ti, repr_d, frzU_dat, and_true, true_and, and_assoc, List.cons.injEq, exists_and_left, exists_and_right, exists_eq_left, exists_eq_right, ix_t, ix_s, sl_s, len_s, is_non, Nat.reduceAdd, Nat.reduceSub, sz0, sz1, sz2, sz3, sz4, sz5, sz6, sz7, sz8, sz9, sz10, sz11, sz12, sz13, sz14, sz15, sz16, sz17, sz18, sz19, sz20, sz21, sz22, sz23, sz24, sz25, sz26, sz27, sz28, sz29, sz30, w_vtup, w_vlst, w_vhnd, w_fzl, w_vlc, w_vlc2, w_viseq, w_vien, w_vizp, w_irg2, w_vtxt, w_vfor, w_sown, w_vapp, w_vext, w_vsb, w_vpar, w_vparf, w_vparg, w_vsl, w_star, ad_nil, ad_dat, ad_map, ad_app, Option.map_some, vadd_ii, vadd_ss, vadd_tt, vadd_ll, vmul_ii, vmul_ti, vsl_t, vsl_l, vsl_s, seq_t, seq_lv, seq_dl, lst_lv, nc_lv, nc_dat, nc_scr, len_lv, ix_lv, vlist_t, vlist_l, vlistT_t, vtup_l, vtup_t, vrepr_d, vrepr_l, vsort_l, ty_lv, wipeR, dtup_t, List.append_nil, vcat_ll]
    refine ⟨hk, (ix_h e).1.mpr ?_⟩
    simp only [w_fn, w_ret, w_seq, w_sif, w_of, w_trn, w_op, w_snil, w_pass, w_retn, w_asg, w_gnm, w_gsb, w_gtp, w_gcn, w_gn0, w_par, w_aug, w_drop, w_c, w_k, w_lst, w_tup, w_and, w_or, w_not, w_neg, w_ifx, w_tand, w_tor, w_tnot, w_cb, w_ck, w_mt, w_cons, w_nil, w_var, w_chain, w_sl, w_osome, w_onone, Pu.w_rev, w_dct0, w_for, w_iseq, w_irg1, w_lc, w_lc2, List.map_cons, List.map_nil, List.cons_append, List.nil_append, List.getElem?_cons_zero, List.getElem?_cons_succ, List.length_cons, List.length_nil, Option.some.injEq, exists_eq_left', w_some, List.replicate, List.set_cons_zero, List.set_cons_succ, frz_nil, frz_dat, frz_new, frz_new0, ne_ss, list_t, mk_nil, mk1, mk2, mk3, U.dat.injEq, PyData.int.injEq, PyData.bool.injEq, PyData.str.injEq, U.cell.injEq, add_ii, sub_ii, lt_ii, le_ii, gt_ii, ge_ii, eq_ii, ne_ii, eq_tt0, ne_tt0, eq_ds, sl_t, len_t, isi_int, isi_bool, isi_str, isi_tup, abs_i, min_ii, max_ii, int_i, int_b, mod_ii, fdiv_ii, mul_ii, pow_ii, add_ss, add_tt, mul_ti, repr_d, frzU_dat, and_true, true_and, and_assoc, List.cons.injEq, exists_and_left, exists_and_right, exists_eq_left, exists_eq_right, ix_t, ix_s, sl_s, len_s, is_non, Nat.reduceAdd, Nat.reduceSub, sz0, sz1, sz2, sz3, sz4, sz5, sz6, sz7, sz8, sz9, sz10, sz11, sz12, sz13, sz14, sz15, sz16, sz17, sz18, sz19, sz20, sz21, sz22, sz23, sz24, sz25, sz26, sz27, sz28, sz29, sz30, w_vtup, w_vlst, w_vhnd, w_fzl, w_vlc, w_vlc2, w_viseq, w_vien, w_vizp, w_irg2, w_vtxt, w_vfor, w_sown, w_vapp, w_vext, w_vsb, w_vpar, w_vparf, w_vparg, w_vsl, w_star, ad_nil, ad_dat, ad_map, ad_app, Option.map_some, vadd_ii, vadd_ss, vadd_tt, vadd_ll, vmul_ii, vmul_ti, vsl_t, vsl_l, vsl_s, seq_t, seq_lv, seq_dl, lst_lv, nc_lv, nc_dat, nc_scr, len_lv, ix_lv, vlist_t, vlist_l, vlistT_t, vtup_l, vtup_t, vrepr_d, vrepr_l, vsort_l, ty_lv, wipeR, dtup_t, List.append_nil, vcat_ll]
    refine ⟨cdivL hk hk2, true, _, e, 0, rfl, ?_⟩
    refine q _ _ (Int.emod_nonneg _ (by omega)) (Int.emod_lt_of_pos _ hk) ⟨g / k, m, c, hl, ?_, m0, m1, c0, by omega⟩
    rw [List.set_set]
    rfl
  · rw [decide_eq_false hg]
    simp only
    refine (ix_h e).2.2.mpr ?_
    simp only [w_fn, w_ret, w_seq, w_sif, w_of, w_trn, w_op, w_snil, w_pass, w_retn, w_asg, w_gnm, w_gsb, w_gtp, w_gcn, w_gn0, w_par, w_aug, w_drop, w_c, w_k, w_lst, w_tup, w_and, w_or, w_not, w_neg, w_ifx, w_tand, w_tor, w_tnot, w_cb, w_ck, w_mt, w_cons, w_nil, w_var, w_chain, w_sl, w_osome, w_onone, Pu.w_rev, w_dct0, w_for, w_iseq, w_irg1, w_lc, w_lc2, List.map_cons, List.map_nil, List.cons_append, List.nil_append, List.getElem?_cons_zero, List.getElem?_cons_succ, List.length_cons, List.length_nil, Option.some.injEq, exists_eq_left', w_some, List.replicate, List.set_cons_zero, List.set_cons_succ, frz_nil, frz_dat, frz_new, frz_new0, ne_ss, list_t, mk_nil, mk1, mk2, mk3, U.dat.injEq, PyData.int.injEq, PyData.bool.injEq, PyData.str.injEq, U.cell.injEq, add_ii, sub_ii, lt_ii, le_ii, gt_ii, ge_ii, eq_ii, ne_ii, eq_tt0, ne_tt0, eq_ds, sl_t, len_t, isi_int, isi_bool, isi_str, isi_tup, abs_i, min_ii, max_ii, int_i, int_b, mod_ii, fdiv_ii, mul_ii, pow_ii, add_ss, add_tt, mul_ti, repr_d, frzU_dat, and_true, true_and, and_assoc, List.cons.injEq, exists_and_left, exists_and_right, exists_eq_left, exists_eq_right, ix_t, ix_s, sl_s, len_s, is_non, Nat.reduceAdd, Nat.reduceSub, sz0, sz1, sz2, sz3, sz4, sz5, sz6, sz7, sz8, sz9, sz10, sz11, sz12, sz13, sz14, sz15, sz16, sz17, sz18, sz19, sz20, sz21, sz22, sz23, sz24, sz25, sz26, sz27, sz28, sz29, sz30, w_vtup, w_vlst, w_vhnd, w_fzl, w_vlc, w_vlc2, w_viseq, w_vien, w_vizp, w_irg2, w_vtxt, w_vfor, w_sown, w_vapp, w_vext, w_vsb, w_vpar, w_vparf, w_vparg, w_vsl, w_star, ad_nil, ad_dat, ad_map, ad_app, Option.map_some, vadd_ii, vadd_ss, vadd_tt, vadd_ll, vmul_ii, vmul_ti, vsl_t, vsl_l, vsl_s, seq_t, seq_lv, seq_dl, lst_lv, nc_lv, nc_dat, nc_scr, len_lv, ix_lv, vlist_t, vlist_l, vlistT_t, vtup_l, vtup_t, vrepr_d, vrepr_l, vsort_l, ty_lv, wipeR, dtup_t, List.append_nil, vcat_ll]
    refine ⟨true, _, e, 2, rfl, ?_⟩
    rw [List.set_set]
    have e1 : (N.set h (.lst true [.dat (.int g), .dat (.int m), .dat (.int (c + 1))]))[h]? = some (.lst true [.dat (.int g), .dat (.int m), .dat (.int (c + 1))]) := List.getElem?_set_self hl
    simp only [List.set_cons_succ, List.set_cons_zero]
    refine (ix_h e1).2.2.mpr ?_
    simp only [w_fn, w_ret, w_seq, w_sif, w_of, w_trn, w_op, w_snil, w_pass, w_retn, w_asg, w_gnm, w_gsb, w_gtp, w_gcn, w_gn0, w_par, w_aug, w_drop, w_c, w_k, w_lst, w_tup, w_and, w_or, w_not, w_neg, w_ifx, w_tand, w_tor, w_tnot, w_cb, w_ck, w_mt, w_cons, w_nil, w_var, w_chain, w_sl, w_osome, w_onone, Pu.w_rev, w_dct0, w_for, w_iseq, w_irg1, w_lc, w_lc2, List.map_cons, List.map_nil, List.cons_append, List.nil_append, List.getElem?_cons_zero, List.getElem?_cons_succ, List.length_cons, List.length_nil, Option.some.injEq, exists_eq_left', w_some, List.replicate, List.set_cons_zero, List.set_cons_succ, frz_nil, frz_dat, frz_new, frz_new0, ne_ss, list_t, mk_nil, mk1, mk2, mk3, U.dat.injEq, PyData.int.injEq, PyData.bool.injEq, PyData.str.injEq, U.cell.injEq, add_ii, sub_ii, lt_ii, le_ii, gt_ii, ge_ii, eq_ii, ne_ii, eq_tt0, ne_tt0, eq_ds, sl_t, len_t, isi_int, isi_bool, isi_str, isi_tup, abs_i, min_ii, max_ii, int_i, int_b, mod_ii, fdiv_ii, mul_ii, pow_ii, add_ss, add_tt, mul_ti, repr_d, frzU_dat, and_true, true_and, and_assoc, List.cons.injEq, exists_and_left, exists_and_right, exists_eq_left, exists_eq_right, ix_t, ix_s, sl_s, len_s, is_non, Nat.reduceAdd, Nat.reduceSub, sz0, sz1, sz2, sz3, sz4, sz5, sz6, sz7, sz8, sz9, sz10, sz11, sz12, sz13, sz14, sz15, sz16, sz17, sz18, sz19, sz20, sz21, sz22, sz23, sz24, sz25, sz26, sz27, sz28, sz29, sz30, w_vtup, w_vlst, w_vhnd, w_fzl, w_vlc, w_vlc2, w_viseq, w_vien, w_vizp, w_irg2, w_vtxt, w_vfor, w_sown, w_vapp, w_vext, w_vsb, w_vpar, w_vparf, w_vparg, w_vsl, w_star, ad_nil, ad_dat, ad_map, ad_app, Option.map_some, vadd_ii, vadd_ss, vadd_tt, vadd_ll, vmul_ii, vmul_ti, vsl_t, vsl_l, vsl_s, seq_t, seq_lv, seq_dl, lst_lv, nc_lv, nc_dat, nc_scr, len_lv, ix_lv, vlist_t, vlist_l, vlistT_t, vtup_l, vtup_t, vrepr_d, vrepr_l, vsort_l, ty_lv, wipeR, dtup_t, List.append_nil, vcat_ll]
    refine ⟨by decide, ?_⟩
    obtain ⟨p, hp, p1, p2⟩ := prime_ix (c := c + 1) (by omega)
    refine ⟨.int p, hp, ?_⟩
    refine (ix_h e1).2.1.mpr ((ix_h e1).2.2.mpr ?_)
    simp only [w_fn, w_ret, w_seq, w_sif, w_of, w_trn, w_op, w_snil, w_pass, w_retn, w_asg, w_gnm, w_gsb, w_gtp, w_gcn, w_gn0, w_par, w_aug, w_drop, w_c, w_k, w_lst, w_tup, w_and, w_or, w_not, w_neg, w_ifx, w_tand, w_tor, w_tnot, w_cb, w_ck, w_mt, w_cons, w_nil, w_var, w_chain, w_sl, w_osome, w_onone, Pu.w_rev, w_dct0, w_for, w_iseq, w_irg1, w_lc, w_lc2, List.map_cons, List.map_nil, List.cons_append, List.nil_append, List.getElem?_cons_zero, List.getElem?_cons_succ, List.length_cons, List.length_nil, Option.some.injEq, exists_eq_left', w_some, List.replicate, List.set_cons_zero, List.set_cons_succ, frz_nil, frz_dat, frz_new, frz_new0, ne_ss, list_t, mk_nil, mk1, mk2, mk3, U.dat.injEq, PyData.int.injEq, PyData.bool.injEq, PyData.str.injEq, U.cell.injEq, add_ii, sub_ii, lt_ii, le_ii, gt_ii, ge_ii, eq_ii, ne_ii, eq_tt0, ne_tt0, eq_ds, sl_t, len_t, isi_int, isi_bool, isi_str, isi_tup, abs_i, min_ii, max_ii, int_i, int_b, mod_ii, fdiv_ii, mul_ii, pow_ii, add_ss, add_tt, mul_ti, repr_d, frzU_dat, and_true, true_and, and_assoc, List.cons.injEq, exists_and_left, exists_and_right, exists_eq_left, exists_eq_right, ix_t, ix_s, sl_s, len_s, is_non, Nat.reduceAdd, Nat.reduceSub, sz0, sz1, sz2, sz3, sz4, sz5, sz6, sz7, sz8, sz9, sz10, sz11, sz12, sz13, sz14, sz15, sz16, sz17, sz18, sz19, sz20, sz21, sz22, sz23, sz24, sz25, sz26, sz27, sz28, sz29, sz30, w_vtup, w_vlst, w_vhnd, w_fzl, w_vlc, w_vlc2, w_viseq, w_vien, w_vizp, w_irg2, w_vtxt, w_vfor, w_sown, w_vapp, w_vext, w_vsb, w_vpar, w_vparf, w_vparg, w_vsl, w_star, ad_nil, ad_dat, ad_map, ad_app, Option.map_some, vadd_ii, vadd_ss, vadd_tt, vadd_ll, vmul_ii, vmul_ti, vsl_t, vsl_l, vsl_s, seq_t, seq_lv, seq_dl, lst_lv, nc_lv, nc_dat, nc_scr, len_lv, ix_lv, vlist_t, vlist_l, vlistT_t, vtup_l, vtup_t, vrepr_d, vrepr_l, vsort_l, ty_lv, wipeR, dtup_t, List.append_nil, vcat_ll]
    refine ⟨cmul_s (by decide) (by omega), cpow3 (by omega), by omega, ?_⟩
    generalize hX : (m + 7919 * (c + 1)) ^ (3 : Int).toNat % p = X
    have X0 : 0 ≤ X := by rw [← hX]; exact Int.emod_nonneg _ (by omega)
    have X1 : X < p := by rw [← hX]; exact Int.emod_lt_of_pos _ (by omega)
    refine ⟨by decide, (ix_h e1).2.2.mpr ?_⟩
    simp only [w_fn, w_ret, w_seq, w_sif, w_of, w_trn, w_op, w_snil, w_pass, w_retn, w_asg, w_gnm, w_gsb, w_gtp, w_gcn, w_gn0, w_par, w_aug, w_drop, w_c, w_k, w_lst, w_tup, w_and, w_or, w_not, w_neg, w_ifx, w_tand, w_tor, w_tnot, w_cb, w_ck, w_mt, w_cons, w_nil, w_var, w_chain, w_sl, w_osome, w_onone, Pu.w_rev, w_dct0, w_for, w_iseq, w_irg1, w_lc, w_lc2, List.map_cons, List.map_nil, List.cons_append, List.nil_append, List.getElem?_cons_zero, List.getElem?_cons_succ, List.length_cons, List.length_nil, Option.some.injEq, exists_eq_left', w_some, List.replicate, List.set_cons_zero, List.set_cons_succ, frz_nil, frz_dat, frz_new, frz_new0, ne_ss, list_t, mk_nil, mk1, mk2, mk3, U.dat.injEq, PyData.int.injEq, PyData.bool.injEq, PyData.str.injEq, U.cell.injEq, add_ii, sub_ii, lt_ii, le_ii, gt_ii, ge_ii, eq_ii, ne_ii, eq_tt0, ne_tt0, eq_ds, sl_t, len_t, isi_int, isi_bool, isi_str, isi_tup, abs_i, min_ii, max_ii, int_i, int_b, mod_ii, fdiv_ii, mul_ii, pow_ii, add_ss, add_tt, mul_ti, repr_d, frzU_dat, and_true, true_and, and_assoc, List.cons.injEq, exists_and_left, exists_and_right, exists_eq_left, exists_eq_right, ix_t, ix_s, sl_s, len_s, is_non, Nat.reduceAdd, Nat.reduceSub, sz0, sz1, sz2, sz3, sz4, sz5, sz6, sz7, sz8, sz9, sz10, sz11, sz12, sz13, sz14, sz15, sz16, sz17, sz18, sz19, sz20, sz21, sz22, sz23, sz24, sz25, sz26, sz27, sz28, sz29, sz30, w_vtup, w_vlst, w_vhnd, w_fzl, w_vlc, w_vlc2, w_viseq, w_vien, w_vizp, w_irg2, w_vtxt, w_vfor, w_sown, w_vapp, w_vext, w_vsb, w_vpar, w_vparf, w_vparg, w_vsl, w_star, ad_nil, ad_dat, ad_map, ad_app, Option.map_some, vadd_ii, vadd_ss, vadd_tt, vadd_ll, vmul_ii, vmul_ti, vsl_t, vsl_l, vsl_s, seq_t, seq_lv, seq_dl, lst_lv, nc_lv, nc_dat, nc_scr, len_lv, ix_lv, vlist_t, vlist_l, vlistT_t, vtup_l, vtup_t, vrepr_d, vrepr_l, vsort_l, ty_lv, wipeR, dtup_t, List.append_nil, vcat_ll]
    have Y0 : 0 ≤ X % 1009 := Int.emod_nonneg _ (by decide)
    have Y1 : X % 1009 < 1009 := Int.emod_lt_of_pos _ (by decide)
    refine ⟨cmul_s (by omega) (by omega), by omega, cdiv (by decide) (by decide), hk, ?_⟩
    exact q _ _ (Int.emod_nonneg _ (by omega)) (Int.emod_lt_of_pos _ hk) ⟨g, m, c + 1, hl, rfl, m0, m1, by omega, by omega⟩
theorem take_spec {N M : Mem} {h n : Nat} {k : Int} {Q : U → Mem → Prop} (hh : HF N h n M) (hn : n + 1 ≤ 1000000000) (hk : 0 < k) (hk2 : k < 2 ^ 60) (q : ∀ x M', 0 ≤ x → x < k → HF N h (n + 1) M' → Q (.dat (.int x)) M') :
    W (v__law_take [.cell h, .dat (.int k)] M) Q := take_wide hh hn hk (Nat.lt_of_lt_of_le (show k.natAbs < 2 ^ 60 by omega) (Nat.pow_le_pow_right (by decide) (by decide))) q
/-- .. as a natural number -/
theorem take_nat {N M : Mem} {h n k : Nat} {Q : U → Mem → Prop} (hh : HF N h n M) (hn : n + 1 ≤ 1000000000) (hk : 0 < k) (hk2 : k < 2 ^ 60) (q : ∀ (x : Nat) M', x < k → HF N h (n + 1) M' → Q (.dat (.int x)) M') :
    W (v__law_take [.cell h, .dat (.int (k : Int))] M) Q := take_spec hh hn (by omega) (by omega) fun x M' x0 x1 hh' => by
  obtain ⟨y, rfl⟩ : ∃ y : Nat, x = y := ⟨x.toNat, by omega⟩
  exact q y M' (by omega) hh'
theorem of_l {N M : Mem} {h n : Nat} {ds : List PyData} {Q : U → Mem → Prop} (hh : HF N h n M) (hn : n + 1 ≤ 1000000000) (h0 : 0 < ds.length) (h1 : ds.length < 2 ^ 40)
    (q : ∀ d M', d ∈ ds → HF N h (n + 1) M' → Q (.dat d) M') : W (v__law_of [.cell h, .lv ds] M) Q := by
  simp only [v__law_of, w_fn, w_ret, w_seq, w_sif, w_of, w_trn, w_op, w_snil, w_pass, w_retn, w_asg, w_gnm, w_gsb, w_gtp, w_gcn, w_gn0, w_par, w_aug, w_drop, w_c, w_k, w_lst, w_tup, w_and, w_or, w_not, w_neg, w_ifx, w_tand, w_tor, w_tnot, w_cb, w_ck, w_mt, w_cons, w_nil, w_var, w_chain, w_sl, w_osome, w_onone, Pu.w_rev, w_dct0, w_for, w_iseq, w_irg1, w_lc, w_lc2, List.map_cons, List.map_nil, List.cons_append, List.nil_append, List.getElem?_cons_zero, List.getElem?_cons_succ, List.length_cons, List.length_nil, Option.some.injEq, exists_eq_left', w_some, List.replicate, List.set_cons_zero, List.set_cons_succ, frz_nil, frz_dat, frz_new, frz_new0, ne_ss, list_t, mk_nil, mk1, mk2, mk3, U.dat.injEq, PyData.int.injEq, PyData.bool.injEq, PyData.str.injEq, U.cell.injEq, add_ii, sub_ii, lt_ii, le_ii, gt_ii, ge_ii, eq_ii, ne_ii, eq_tt0, ne_tt0, eq_ds, sl_t, len_t, isi_int, isi_bool, isi_str, isi_tup, abs_i, min_ii, max_ii, int_i, int_b, mod_ii, fdiv_ii, mul_ii, pow_ii, add_ss, add_tt, mul_ti, repr_d, frzU_dat, and_true, true_and, and_assoc, List.cons.injEq, exists_and_left, exists_and_right, exists_eq_left, exists_eq_right, ix_t, ix_s, sl_s, len_s, is_non, Nat.reduceAdd, Nat.reduceSub, sz0, sz1, sz2, sz3, sz4, sz5, sz6, sz7, sz8, sz9, sz10, sz11, sz12, sz13, sz14, sz15, sz16, sz17, sz18, sz19, sz20, sz21, sz22, sz23, sz24, sz25, sz26, sz27, sz28, sz29, sz30, w_vtup, w_vlst, w_vhnd, w_fzl, w_vlc, w_vlc2, w_viseq, w_vien, w_vizp, w_irg2, w_vtxt, w_vfor, w_sown, w_vapp, w_vext, w_vsb, w_vpar, w_vparf, w_vparg, w_vsl, w_star, ad_nil, ad_dat, ad_map, ad_app, Option.map_some, vadd_ii, vadd_ss, vadd_tt, vadd_ll, vmul_ii, vmul_ti, vsl_t, vsl_l, vsl_s, seq_t, seq_lv, seq_dl, lst_lv, nc_lv, nc_dat, nc_scr, len_lv, ix_lv, vlist_t, vlist_l, vlistT_t, vtup_l, vtup_t, vrepr_d, vrepr_l, vsort_l, ty_lv, wipeR, dtup_t, List.append_nil, vcat_ll]
  refine take_nat hh hn (by omega) (by omega) fun k M' hk hh' => ?_
  simp only [w_fn, w_ret, w_seq, w_sif, w_of, w_trn, w_op, w_snil, w_pass, w_retn, w_asg, w_gnm, w_gsb, w_gtp, w_gcn, w_gn0, w_par, w_aug, w_drop, w_c, w_k, w_lst, w_tup, w_and, w_or, w_not, w_neg, w_ifx, w_tand, w_tor, w_tnot, w_cb, w_ck, w_mt, w_cons, w_nil, w_var, w_chain, w_sl, w_osome, w_onone, Pu.w_rev, w_dct0, w_for, w_iseq, w_irg1, w_lc, w_lc2, List.map_cons, List.map_nil, List.cons_append, List.nil_append, List.getElem?_cons_zero, List.getElem?_cons_succ, List.length_cons, List.length_nil, Option.some.injEq, exists_eq_left', w_some, List.replicate, List.set_cons_zero, List.set_cons_succ, frz_nil, frz_dat, frz_new, frz_new0, ne_ss, list_t, mk_nil, mk1, mk2, mk3, U.dat.injEq, PyData.int.injEq, PyData.bool.injEq, PyData.str.injEq, U.cell.injEq, add_ii, sub_ii, lt_ii, le_ii, gt_ii, ge_ii, eq_ii, ne_ii, eq_tt0, ne_tt0, eq_ds, sl_t, len_t, isi_int, isi_bool, isi_str, isi_tup, abs_i, min_ii, max_ii, int_i, int_b, mod_ii, fdiv_ii, mul_ii, pow_ii, add_ss, add_tt, mul_ti, repr_d, frzU_dat, and_true, true_and, and_assoc, List.cons.injEq, exists_and_left, exists_and_right, exists_eq_left, exists_eq_right, ix_t, ix_s, sl_s, len_s, is_non, Nat.reduceAdd, Nat.reduceSub, sz0, sz1, sz2, sz3, sz4, sz5, sz6, sz7, sz8, sz9, sz10, sz11, sz12, sz13, sz14, sz15, sz16, sz17, sz18, sz19, sz20, sz21, sz22, sz23, sz24, sz25, sz26, sz27, sz28, sz29, sz30, w_vtup, w_vlst, w_vhnd, w_fzl, w_vlc, w_vlc2, w_viseq, w_vien, w_vizp, w_irg2, w_vtxt, w_vfor, w_sown, w_vapp, w_vext, w_vsb, w_vpar, w_vparf, w_vparg, w_vsl, w_star, ad_nil, ad_dat, ad_map, ad_app, Option.map_some, vadd_ii, vadd_ss, vadd_tt, vadd_ll, vmul_ii, vmul_ti, vsl_t, vsl_l, vsl_s, seq_t, seq_lv, seq_dl, lst_lv, nc_lv, nc_dat, nc_scr, len_lv, ix_lv, vlist_t, vlist_l, vlistT_t, vtup_l, vtup_t, vrepr_d, vrepr_l, vsort_l, ty_lv, wipeR, dtup_t, List.append_nil, vcat_ll]
  exact ⟨ds[k], atI_nat (List.getElem?_eq_getElem hk), q _ _ (List.getElem_mem hk) hh'⟩
theorem of_s {N M : Mem} {h n : Nat} {z : Str} {Q : U → Mem → Prop} (hh : HF N h n M) (hn : n + 1 ≤ 1000000000) (h0 : 0 < z.length) (h1 : z.length ≤ 1000)
    (q : ∀ c M', c ∈ z.cps.toList → HF N h (n + 1) M' → Q (.dat (.str ⟨#[c]⟩)) M') : W (v__law_of [.cell h, .dat (.str z)] M) Q := by
  have hs : z.length ≤ sizeLine := Nat.le_trans h1 (by decide)
  simp only [v__law_of, w_fn, w_ret, w_seq, w_sif, w_of, w_trn, w_op, w_snil, w_pass, w_retn, w_asg, w_gnm, w_gsb, w_gtp, w_gcn, w_gn0, w_par, w_aug, w_drop, w_c, w_k, w_lst, w_tup, w_and, w_or, w_not, w_neg, w_ifx, w_tand, w_tor, w_tnot, w_cb, w_ck, w_mt, w_cons, w_nil, w_var, w_chain, w_sl, w_osome, w_onone, Pu.w_rev, w_dct0, w_for, w_iseq, w_irg1, w_lc, w_lc2, List.map_cons, List.map_nil, List.cons_append, List.nil_append, List.getElem?_cons_zero, List.getElem?_cons_succ, List.length_cons, List.length_nil, Option.some.injEq, exists_eq_left', w_some, List.replicate, List.set_cons_zero, List.set_cons_succ, frz_nil, frz_dat, frz_new, frz_new0, ne_ss, list_t, mk_nil, mk1, mk2, mk3, U.dat.injEq, PyData.int.injEq, PyData.bool.injEq, PyData.str.injEq, U.cell.injEq, add_ii, sub_ii, lt_ii, le_ii, gt_ii, ge_ii, eq_ii, ne_ii, eq_tt0, ne_tt0, eq_ds, sl_t, len_t, isi_int, isi_bool, isi_str, isi_tup, abs_i, min_ii, max_ii, int_i, int_b, mod_ii, fdiv_ii, mul_ii, pow_ii, add_ss, add_tt, mul_ti, repr_d, frzU_dat, and_true, true_and, and_assoc, List.cons.injEq, exists_and_left, exists_and_right, exists_eq_left, exists_eq_right, ix_t, ix_s, sl_s, len_s, is_non, Nat.reduceAdd, Nat.reduceSub, sz0, sz1, sz2, sz3, sz4, sz5, sz6, sz7, sz8, sz9, sz10, sz11, sz12, sz13, sz14, sz15, sz16, sz17, sz18, sz19, sz20, sz21, sz22, sz23, sz24, sz25, sz26, sz27, sz28, sz29, sz30, w_vtup, w_vlst, w_vhnd, w_fzl, w_vlc, w_vlc2, w_viseq, w_vien, w_vizp, w_irg2, w_vtxt, w_vfor, w_sown, w_vapp, w_vext, w_vsb, w_vpar, w_vparf, w_vparg, w_vsl, w_star, ad_nil, ad_dat, ad_map, ad_app, Option.map_some, vadd_ii, vadd_ss, vadd_tt, vadd_ll, vmul_ii, vmul_ti, vsl_t, vsl_l, vsl_s, seq_t, seq_lv, seq_dl, lst_lv, nc_lv, nc_dat, nc_scr, len_lv, ix_lv, vlist_t, vlist_l, vlistT_t, vtup_l, vtup_t, vrepr_d, vrepr_l, vsort_l, ty_lv, wipeR, dtup_t, List.append_nil, vcat_ll]
  refine ⟨hs, take_nat hh hn (by omega) (by omega) fun k M' hk hh' => ?_⟩
  simp only [w_fn, w_ret, w_seq, w_sif, w_of, w_trn, w_op, w_snil, w_pass, w_retn, w_asg, w_gnm, w_gsb, w_gtp, w_gcn, w_gn0, w_par, w_aug, w_drop, w_c, w_k, w_lst, w_tup, w_and, w_or, w_not, w_neg, w_ifx, w_tand, w_tor, w_tnot, w_cb, w_ck, w_mt, w_cons, w_nil, w_var, w_chain, w_sl, w_osome, w_onone, Pu.w_rev, w_dct0, w_for, w_iseq, w_irg1, w_lc, w_lc2, List.map_cons, List.map_nil, List.cons_append, List.nil_append, List.getElem?_cons_zero, List.getElem?_cons_succ, List.length_cons, List.length_nil, Option.some.injEq, exists_eq_left', w_some, List.replicate, List.set_cons_zero, List.set_cons_succ, frz_nil, frz_dat, frz_new, frz_new0, ne_ss, list_t, mk_nil, mk1, mk2, mk3, U.dat.injEq, PyData.int.injEq, PyData.bool.injEq, PyData.str.injEq, U.cell.injEq, add_ii, sub_ii, lt_ii, le_ii, gt_ii, ge_ii, eq_ii, ne_ii, eq_tt0, ne_tt0, eq_ds, sl_t, len_t, isi_int, isi_bool, isi_str, isi_tup, abs_i, min_ii, max_ii, int_i, int_b, mod_ii, fdiv_ii, mul_ii, pow_ii, add_ss, add_tt, mul_ti, repr_d, frzU_dat, and_true, true_and, and_assoc, List.cons.injEq, exists_and_left, exists_and_right, exists_eq_left, exists_eq_right, ix_t, ix_s, sl_s, len_s, is_non, Nat.reduceAdd, Nat.reduceSub, sz0, sz1, sz2, sz3, sz4, sz5, sz6, sz7, sz8, sz9, sz10, sz11, sz12, sz13, sz14, sz15, sz16, sz17, sz18, sz19, sz20, sz21, sz22, sz23, sz24, sz25, sz26, sz27, sz28, sz29, sz30, w_vtup, w_vlst, w_vhnd, w_fzl, w_vlc, w_vlc2, w_viseq, w_vien, w_vizp, w_irg2, w_vtxt, w_vfor, w_sown, w_vapp, w_vext, w_vsb, w_vpar, w_vparf, w_vparg, w_vsl, w_star, ad_nil, ad_dat, ad_map, ad_app, Option.map_some, vadd_ii, vadd_ss, vadd_tt, vadd_ll, vmul_ii, vmul_ti, vsl_t, vsl_l, vsl_s, seq_t, seq_lv, seq_dl, lst_lv, nc_lv, nc_dat, nc_scr, len_lv, ix_lv, vlist_t, vlist_l, vlistT_t, vtup_l, vtup_t, vrepr_d, vrepr_l, vsort_l, ty_lv, wipeR, dtup_t, List.append_nil, vcat_ll]
  have hl : k < z.cps.toList.length := by rw [← len_cps]; omega
  exact ⟨hs, z.cps.toList[k], atI_nat (List.getElem?_eq_getElem hl), q _ _ (List.getElem_mem hl) hh'⟩
theorem hf_new {M : Mem} {g m : Int} (h0 : 0 ≤ m) (h1 : m < 2305843009213693921) : HF (M ++ [.lst true [.dat (.int g), .dat (.int m), .dat (.int 0)]]) M.length 0 (M ++ [.lst true [.dat (.int g), .dat (.int m), .dat (.int 0)]]) :=
  ⟨g, m, 0, by simp, by rw [List.set_append_right (h := Nat.le_refl _)]; simp, h0, h1, by decide, by decide⟩
theorem hand_spec {ns : List Int} {k : Nat} {M : Mem} {Q : U → Mem → Prop} (hk : k ≤ 100) (q : ∀ N, HF N M.length 0 N → Q (.cell M.length) N) : W (v__law_hand [.scr ns, .dat (.int k)] M) Q := by
  have rest : ∀ cell : Int, W (sSeq (sAsg (eOp vmulU (eOp modU (eCB absF (aCons (eVar 2) aNil)) (eOp powU (eOp powU (eC (.int 10)) (eC (.int 60))) (eC (.int 15)))) (eCB intF (aCons (eOp geU (eCB absF (aCons (eVar 2) aNil)) (eOp powU (eC (.int 10)) (eC (.int 18)))) aNil))) (gNm 3))
      (sRet (vHnd (aCons (eVar 3) (aCons (eOp modU (eOp vmulU (eOp vaddU (eOp vaddU (eOp modU (eVar 2) (eC (.int 2305843009213693951))) (eOp vmulU (eOp vmulU (eC (.int 104729)) (eVar 1)) (eVar 1))) (eC (.int 13))) (eC (.int 48271))) (eC (.int 2305843009213693921))) (aCons (eC (.int 0)) aNil))))) [some (.scr ns), some (.dat (.int k)), some (.dat (.int cell)), none] M)
      fun o M1 => match o with
      | .rt u => Q u M1
      | .nx _ => Q (.dat .none) M1
      | _ => False := by
    intro cell
    simp only [w_fn, w_ret, w_seq, w_sif, w_of, w_trn, w_op, w_snil, w_pass, w_retn, w_asg, w_gnm, w_gsb, w_gtp, w_gcn, w_gn0, w_par, w_aug, w_drop, w_c, w_k, w_lst, w_tup, w_and, w_or, w_not, w_neg, w_ifx, w_tand, w_tor, w_tnot, w_cb, w_ck, w_mt, w_cons, w_nil, w_var, w_chain, w_sl, w_osome, w_onone, Pu.w_rev, w_dct0, w_for, w_iseq, w_irg1, w_lc, w_lc2, List.map_cons, List.map_nil, List.cons_append, List.nil_append, List.getElem?_cons_zero, List.getElem?_cons_succ, List.length_cons, List.length_nil, Option.some.injEq, exists_eq_left', w_some, List.replicate, List.set_cons_zero, List.set_cons_succ, frz_nil, frz_dat, frz_new, frz_new0, ne_ss, list_t, mk_nil, mk1, mk2, mk3, U.dat.injEq, PyData.int.injEq, PyData.bool.injEq, PyData.str.injEq, U.cell.injEq, add_ii, sub_ii, lt_ii, le_ii, gt_ii, ge_ii, eq_ii, ne_ii, eq_tt0, ne_tt0, eq_ds, sl_t, len_t, isi_int, isi_bool, isi_str, isi_tup, abs_i, min_ii, max_ii, int_i, int_b, mod_ii, fdiv_ii, mul_ii, pow_ii, add_ss, add_tt, mul_ti, repr_d, frzU_dat, and_true, true_and, and_assoc, List.cons.injEq, exists_and_left, exists_and_right, exists_eq_left, exists_eq_right, ix_t, ix_s, sl_s, len_s, is_non, Nat.reduceAdd, Nat.reduceSub, sz0, sz1, sz2, sz3, sz4, sz5, sz6, sz7, sz8, sz9, sz10, sz11, sz12, sz13, sz14, sz15, sz16, sz17, sz18, sz19, sz20, sz21, sz22, sz23, sz24, sz25, sz26, sz27, sz28, sz29, sz30, w_vtup, w_vlst, w_vhnd, w_fzl, w_vlc, w_vlc2, w_viseq, w_vien, w_vizp, w_irg2, w_vtxt, w_vfor, w_sown, w_vapp, w_vext, w_vsb, w_vpar, w_vparf, w_vparg, w_vsl, w_star, ad_nil, ad_dat, ad_map, ad_app, Option.map_some, vadd_ii, vadd_ss, vadd_tt, vadd_ll, vmul_ii, vmul_ti, vsl_t, vsl_l, vsl_s, seq_t, seq_lv, seq_dl, lst_lv, nc_lv, nc_dat, nc_scr, len_lv, ix_lv, vlist_t, vlist_l, vlistT_t, vtup_l, vtup_t, vrepr_d, vrepr_l, vsort_l, ty_lv, wipeR, dtup_t, List.append_nil, vcat_ll]
    have hm0 : (0 : Int) < (10 ^ (60 : Int).toNat) ^ (15 : Int).toNat := by decide +kernel
    have ha := abs_nn cell
    generalize (if cell < 0 then -cell else cell) = a at ha
    refine ⟨cpow60, cpow15, hm0, cpow18, ?_⟩
    have g0 := Int.emod_nonneg a (Int.ne_of_gt hm0)
    have g1 := Int.emod_lt_of_pos a hm0
    generalize a % (10 ^ (60 : Int).toNat) ^ (15 : Int).toNat = g at g0 g1
    have gb : g.natAbs < 2 ^ 4000 := by
      have e : (10 ^ (60 : Int).toNat : Int) ^ (15 : Int).toNat < 2 ^ 4000 := by decide +kernel
      have : (g.natAbs : Int) < ((2 ^ 4000 : Nat) : Int) := by
        rw [Int.natAbs_of_nonneg g0]
        exact Int.lt_trans g1 (by rw [Int.natCast_pow]; exact e)
      exact Int.ofNat_lt.mp this
    have c0 := Int.emod_nonneg cell (show (2305843009213693951 : Int) ≠ 0 by decide)
    have c1 := Int.emod_lt_of_pos cell (show (0 : Int) < 2305843009213693951 by decide)
    generalize cell % 2305843009213693951 = cc at c0 c1
    refine ⟨cmul gb (by split <;> decide), by decide, cmul_s (by decide) (by omega), cmul_s (by omega) (by omega), ?_⟩
    have kk0 : (0 : Int) ≤ 104729 * (k : Int) * (k : Int) := Int.mul_nonneg (by omega) (by omega)
    have kk1 : 104729 * (k : Int) * (k : Int) ≤ 104729 * 100 * 100 := Int.mul_le_mul (by omega) (by omega) (by omega) (by omega)
    generalize 104729 * (k : Int) * (k : Int) = kk at kk0 kk1
    refine ⟨cmul_s (by omega) (by decide), by decide, ?_⟩
    exact q _ (hf_new (Int.emod_nonneg _ (by decide)) (Int.emod_lt_of_pos _ (by decide)))
  rw [v__law_hand, w_fn]
  refine ⟨rfl, ?_⟩
  rw [w_seq]
  simp only [w_asg, w_ifx, w_of, w_op, w_cb, w_cons, w_nil, w_var, List.map_cons, List.map_nil, List.cons_append, List.nil_append, List.getElem?_cons_zero, List.getElem?_cons_succ, Option.some.injEq, exists_eq_left', List.replicate, w_c, w_some, w_gnm, List.set_cons_zero, List.set_cons_succ, Nat.reduceSub]
  have hs : seqOf M (.scr ns) = some (ns.map fun i => .dat (.int i)) := rfl
  rw [len_q hs, w_some]
  simp only [lt_ii, w_some, U.dat.injEq, PyData.bool.injEq, exists_eq_left', List.length_map]
  by_cases hl : (k : Int) < (ns.length : Int)
  · rw [decide_eq_true hl]
    simp only
    refine (ix_seq' hs).mpr ⟨.dat (.int (ns[k]'(by omega))), atI_nat ?_, rest _⟩
    rw [List.getElem?_map, List.getElem?_eq_getElem (by omega)]
    rfl
  · rw [decide_eq_false hl]
    simp only [vmul_ii, vadd_ii, w_some]
    exact ⟨cmul_s (by decide) (by omega), rest _⟩
/-! ### names -/
def five : List V := [.str "none", .str "cell", .str "came", .str "kth", .str "least"]
theorem name_ok {word : Str} (wt : Lt word) (wl : word.length ≤ 7) (w1 : 1 ≤ word.length) : Nm (word ++ (if inV (V.str word) five = true then (Str.ofString "x") else Str.empty)) := by
  have e1 : (Str.ofString "x").length = 1 := rfl
  have lx : Lt (Str.ofString "x") := by
    intro c hc
    have h : ∀ c ∈ (Str.ofString "x").cps.toList, 97 ≤ c ∧ c ≤ 122 := by decide +kernel
    exact h c hc
  cases hb : inV (V.str word) five with
  | true =>
    rw [if_pos rfl]
    refine ⟨lt_app wt lx, by rw [strLen_append]; omega, by rw [strLen_append]; omega, ?_⟩
    have h0 : (V.str word) ∈ five := by
      unfold inV at hb
      obtain ⟨u, hu, e⟩ := List.any_eq_true.mp hb
      unfold five at hu ⊢
      simp only [List.mem_cons, List.not_mem_nil, or_false] at hu ⊢
      rcases hu with rfl | rfl | rfl | rfl | rfl
      · exact .inl (congrArg V.str (eq_of_beq e).symm)
      · exact .inr (.inl (congrArg V.str (eq_of_beq e).symm))
      · exact .inr (.inr (.inl (congrArg V.str (eq_of_beq e).symm)))
      · exact .inr (.inr (.inr (.inl (congrArg V.str (eq_of_beq e).symm))))
      · exact .inr (.inr (.inr (.inr (congrArg V.str (eq_of_beq e).symm))))
    unfold five at h0
    simp only [List.mem_cons, List.not_mem_nil, or_false, V.str.injEq] at h0
    rcases h0 with e | e | e | e | e
    all_goals
      subst e
      decide +kernel
  | false =>
    rw [if_neg Bool.false_ne_true]
    have ea : word ++ Str.empty = word := by
      have ext : ∀ x y : Str, x.cps.toList = y.cps.toList → x = y := fun x y h => by
        cases x
        cases y
        exact congrArg Str.mk (Array.toList_inj.mp h)
      refine ext _ _ ?_
      rw [app_cps]
      show word.cps.toList ++ [] = _
      rw [List.append_nil]
    rw [ea]
    refine ⟨wt, w1, by omega, ?_⟩
    refine Bool.eq_false_iff.mpr fun h => ?_
    obtain ⟨u, hu, e⟩ := List.any_eq_true.mp h
    have e' := eq_of_beq e
    subst e'
    unfold wordsL at hu
    simp only [List.mem_cons, List.not_mem_nil, or_false] at hu
    rcases hu with e | e | e | e | e | e
    all_goals subst e
    all_goals first | (exact absurd hb (by decide +kernel)) | (exact absurd wl (by decide +kernel))
theorem in5 {z : Str} {M : Mem} : inU false (.dat (.str z)) (.dat (.tuple [.str (Str.ofString "none"), .str (Str.ofString "cell"), .str (Str.ofString "came"), .str (Str.ofString "kth"), .str (Str.ofString "least")])) M = some (.dat (.bool (inV (V.str z) five)), M) := by
  have h1 : inK false (.dat (.str z)) (.dat (.tuple [.str (Str.ofString "none"), .str (Str.ofString "cell"), .str (Str.ofString "came"), .str (Str.ofString "kth"), .str (Str.ofString "least")])) M = none := rfl
  have h2 : inFl false (.dat (.str z)) (.dat (.tuple [.str (Str.ofString "none"), .str (Str.ofString "cell"), .str (Str.ofString "came"), .str (Str.ofString "kth"), .str (Str.ofString "least")])) M = some (.dat (.bool (inV (V.str z) five)), M) := rfl
  unfold inU orF
  simp only [h1, h2]
theorem join_lv {zs : List Str} {M : Mem} {Q : U → Mem → Prop} (hz : (zs.map (·.length)).sum ≤ 1000) : W (joinF (.dat (.str (Str.ofString ""))) [.lv (zs.map .str)] M) Q ↔ Q (.dat (.str (Str.join Str.empty zs))) M := by
  have e : joinF (.dat (.str (Str.ofString ""))) [.lv (zs.map .str)] M = some (.dat (.str (Str.join Str.empty zs)), M) := by
    unfold joinF
    simp only [seq_lv, Option.bind, Pu.strs_map]
    rw [if_pos ?_]
    · show some (U.dat (.str (Builtin.Str.glued (Str.ofString "") zs)), M) = _
      rw [StrLaws.glued_eq_join]
      rfl
    · rw [show (Str.ofString "").length = 0 from rfl, Nat.mul_zero]
      exact Nat.le_trans hz (by decide)
  rw [e, w_some]
theorem abc_at2 (i : Int) : ∃ c : Nat, atI LET.cps.toList (i % 26) = some c ∧ (97 ≤ c ∧ c ≤ 122) ∧ (c : Int) = 97 + i % 26 := by
  have h0 : 0 ≤ i % 26 := Int.emod_nonneg _ (by decide)
  have h1 : i % 26 < 26 := Int.emod_lt_of_pos _ (by decide)
  have e : i % 26 = (((i % 26).toNat : Nat) : Int) := by omega
  refine ⟨97 + (i % 26).toNat, ?_, ?_, by omega⟩
  · rw [abc_list]
    rw [e]
    refine atI_nat ?_
    rw [List.getElem?_map, List.getElem?_range (by omega)]
    rfl
  · omega
/-- the words, each with its letter at one place -/
def Wd (p : Nat) (x st : Int) (ws : List Str) : Prop := ∀ (i : Nat) (z : Str), ws[i]? = some z → ∃ ch : Nat, z.cps.toList[p]? = some ch ∧ (ch : Int) = 97 + (x + st * (i : Int)) % 26
def NmI (N : Mem) (h n p : Nat) (x st : Int) (a4 a5 a7 a8 : U) (many : Int) (k : Nat) (ρ : Pu.Env) (M' : Mem) : Prop := ∃ (ws : List Str) (y6 y10 y11 : Option U), ρ = [some (.cell h), some (.dat (.int many)), some (.dat (.str LET)), some (.dat (.int x)), some a4, some a5, y6, some a7, some a8, some (.lv (ws.map .str)), y10, y11] ∧ ws.length = k ∧ (∀ w ∈ ws, Nm w) ∧ Wd p x st ws ∧ HF N h n M'
theorem names_spec {N M : Mem} {h n k : Nat} {Q : U → Mem → Prop} (hh : HF N h n M) (hn : n + 12 ≤ 1000000000) (hk : k ≤ 20) (q : ∀ (ws : List Str) M', ws.length = k → (∀ w ∈ ws, Nm w) → ws.Nodup → HF N h (n + 12) M' → Q (.lv (ws.map .str)) M') : W (v__law_names [.cell h, .dat (.int k)] M) Q := by
  simp only [v__law_names, w_fn, w_ret, w_seq, w_sif, w_of, w_trn, w_op, w_snil, w_pass, w_retn, w_asg, w_gnm, w_gsb, w_gtp, w_gcn, w_gn0, w_par, w_aug, w_drop, w_c, w_k, w_lst, w_tup, w_and, w_or, w_not, w_neg, w_ifx, w_tand, w_tor, w_tnot, w_cb, w_ck, w_mt, w_cons, w_nil, w_var, w_chain, w_sl, w_osome, w_onone, Pu.w_rev, w_dct0, w_for, w_iseq, w_irg1, w_lc, w_lc2, List.map_cons, List.map_nil, List.cons_append, List.nil_append, List.getElem?_cons_zero, List.getElem?_cons_succ, List.length_cons, List.length_nil, Option.some.injEq, exists_eq_left', w_some, List.replicate, List.set_cons_zero, List.set_cons_succ, frz_nil, frz_dat, frz_new, frz_new0, ne_ss, list_t, mk_nil, mk1, mk2, mk3, U.dat.injEq, PyData.int.injEq, PyData.bool.injEq, PyData.str.injEq, U.cell.injEq, add_ii, sub_ii, lt_ii, le_ii, gt_ii, ge_ii, eq_ii, ne_ii, eq_tt0, ne_tt0, eq_ds, sl_t, len_t, isi_int, isi_bool, isi_str, isi_tup, abs_i, min_ii, max_ii, int_i, int_b, mod_ii, fdiv_ii, mul_ii, pow_ii, add_ss, add_tt, mul_ti, repr_d, frzU_dat, and_true, true_and, and_assoc, List.cons.injEq, exists_and_left, exists_and_right, exists_eq_left, exists_eq_right, ix_t, ix_s, sl_s, len_s, is_non, Nat.reduceAdd, Nat.reduceSub, sz0, sz1, sz2, sz3, sz4, sz5, sz6, sz7, sz8, sz9, sz10, sz11, sz12, sz13, sz14, sz15, sz16, sz17, sz18, sz19, sz20, sz21, sz22, sz23, sz24, sz25, sz26, sz27, sz28, sz29, sz30, w_vtup, w_vlst, w_vhnd, w_fzl, w_vlc, w_vlc2, w_viseq, w_vien, w_vizp, w_irg2, w_vtxt, w_vfor, w_sown, w_vapp, w_vext, w_vsb, w_vpar, w_vparf, w_vparg, w_vsl, w_star, ad_nil, ad_dat, ad_map, ad_app, Option.map_some, vadd_ii, vadd_ss, vadd_tt, vadd_ll, vmul_ii, vmul_ti, vsl_t, vsl_l, vsl_s, seq_t, seq_lv, seq_dl, lst_lv, nc_lv, nc_dat, nc_scr, len_lv, ix_lv, vlist_t, vlist_l, vlistT_t, vtup_l, vtup_t, vrepr_d, vrepr_l, vsort_l, ty_lv, wipeR, dtup_t, List.append_nil, vcat_ll]
  refine take_spec hh (by omega) (by decide) (by decide) fun x1 M1 x10 x11 hh1 => ?_
  try simp only [w_fn, w_ret, w_seq, w_sif, w_of, w_trn, w_op, w_snil, w_pass, w_retn, w_asg, w_gnm, w_gsb, w_gtp, w_gcn, w_gn0, w_par, w_aug, w_drop, w_c, w_k, w_lst, w_tup, w_and, w_or, w_not, w_neg, w_ifx, w_tand, w_tor, w_tnot, w_cb, w_ck, w_mt, w_cons, w_nil, w_var, w_chain, w_sl, w_osome, w_onone, Pu.w_rev, w_dct0, w_for, w_iseq, w_irg1, w_lc, w_lc2, List.map_cons, List.map_nil, List.cons_append, List.nil_append, List.getElem?_cons_zero, List.getElem?_cons_succ, List.length_cons, List.length_nil, Option.some.injEq, exists_eq_left', w_some, List.replicate, List.set_cons_zero, List.set_cons_succ, frz_nil, frz_dat, frz_new, frz_new0, ne_ss, list_t, mk_nil, mk1, mk2, mk3, U.dat.injEq, PyData.int.injEq, PyData.bool.injEq, PyData.str.injEq, U.cell.injEq, add_ii, sub_ii, lt_ii, le_ii, gt_ii, ge_ii, eq_ii, ne_ii, eq_tt0, ne_tt0, eq_ds, sl_t, len_t, isi_int, isi_bool, isi_str, isi_tup, abs_i, min_ii, max_ii, int_i, int_b, mod_ii, fdiv_ii, mul_ii, pow_ii, add_ss, add_tt, mul_ti, repr_d, frzU_dat, and_true, true_and, and_assoc, List.cons.injEq, exists_and_left, exists_and_right, exists_eq_left, exists_eq_right, ix_t, ix_s, sl_s, len_s, is_non, Nat.reduceAdd, Nat.reduceSub, sz0, sz1, sz2, sz3, sz4, sz5, sz6, sz7, sz8, sz9, sz10, sz11, sz12, sz13, sz14, sz15, sz16, sz17, sz18, sz19, sz20, sz21, sz22, sz23, sz24, sz25, sz26, sz27, sz28, sz29, sz30, w_vtup, w_vlst, w_vhnd, w_fzl, w_vlc, w_vlc2, w_viseq, w_vien, w_vizp, w_irg2, w_vtxt, w_vfor, w_sown, w_vapp, w_vext, w_vsb, w_vpar, w_vparf, w_vparg, w_vsl, w_star, ad_nil, ad_dat, ad_map, ad_app, Option.map_some, vadd_ii, vadd_ss, vadd_tt, vadd_ll, vmul_ii, vmul_ti, vsl_t, vsl_l, vsl_s, seq_t, seq_lv, seq_dl, lst_lv, nc_lv, nc_dat, nc_scr, len_lv, ix_lv, vlist_t, vlist_l, vlistT_t, vtup_l, vtup_t, vrepr_d, vrepr_l, vsort_l, ty_lv, wipeR, dtup_t, List.append_nil, vcat_ll]
  refine of_l hh1 (by omega) (by decide) (by decide) fun u2 M2 hu2 hh2 => ?_
  obtain ⟨st, rfl, hst⟩ : ∃ st : Int, u2 = .int st ∧ (st = 1 ∨ st = 3 ∨ st = 5 ∨ st = 7 ∨ st = 9 ∨ st = 11) := by
    simp only [List.mem_cons, List.not_mem_nil, or_false] at hu2
    rcases hu2 with e | e | e | e | e | e
    all_goals exact ⟨_, e, by decide⟩
  try simp only [w_fn, w_ret, w_seq, w_sif, w_of, w_trn, w_op, w_snil, w_pass, w_retn, w_asg, w_gnm, w_gsb, w_gtp, w_gcn, w_gn0, w_par, w_aug, w_drop, w_c, w_k, w_lst, w_tup, w_and, w_or, w_not, w_neg, w_ifx, w_tand, w_tor, w_tnot, w_cb, w_ck, w_mt, w_cons, w_nil, w_var, w_chain, w_sl, w_osome, w_onone, Pu.w_rev, w_dct0, w_for, w_iseq, w_irg1, w_lc, w_lc2, List.map_cons, List.map_nil, List.cons_append, List.nil_append, List.getElem?_cons_zero, List.getElem?_cons_succ, List.length_cons, List.length_nil, Option.some.injEq, exists_eq_left', w_some, List.replicate, List.set_cons_zero, List.set_cons_succ, frz_nil, frz_dat, frz_new, frz_new0, ne_ss, list_t, mk_nil, mk1, mk2, mk3, U.dat.injEq, PyData.int.injEq, PyData.bool.injEq, PyData.str.injEq, U.cell.injEq, add_ii, sub_ii, lt_ii, le_ii, gt_ii, ge_ii, eq_ii, ne_ii, eq_tt0, ne_tt0, eq_ds, sl_t, len_t, isi_int, isi_bool, isi_str, isi_tup, abs_i, min_ii, max_ii, int_i, int_b, mod_ii, fdiv_ii, mul_ii, pow_ii, add_ss, add_tt, mul_ti, repr_d, frzU_dat, and_true, true_and, and_assoc, List.cons.injEq, exists_and_left, exists_and_right, exists_eq_left, exists_eq_right, ix_t, ix_s, sl_s, len_s, is_non, Nat.reduceAdd, Nat.reduceSub, sz0, sz1, sz2, sz3, sz4, sz5, sz6, sz7, sz8, sz9, sz10, sz11, sz12, sz13, sz14, sz15, sz16, sz17, sz18, sz19, sz20, sz21, sz22, sz23, sz24, sz25, sz26, sz27, sz28, sz29, sz30, w_vtup, w_vlst, w_vhnd, w_fzl, w_vlc, w_vlc2, w_viseq, w_vien, w_vizp, w_irg2, w_vtxt, w_vfor, w_sown, w_vapp, w_vext, w_vsb, w_vpar, w_vparf, w_vparg, w_vsl, w_star, ad_nil, ad_dat, ad_map, ad_app, Option.map_some, vadd_ii, vadd_ss, vadd_tt, vadd_ll, vmul_ii, vmul_ti, vsl_t, vsl_l, vsl_s, seq_t, seq_lv, seq_dl, lst_lv, nc_lv, nc_dat, nc_scr, len_lv, ix_lv, vlist_t, vlist_l, vlistT_t, vtup_l, vtup_t, vrepr_d, vrepr_l, vsort_l, ty_lv, wipeR, dtup_t, List.append_nil, vcat_ll]
  refine of_l hh2 (by omega) (by decide) (by decide) fun u3 M3 hu3 hh3 => ?_
  obtain ⟨more, rfl, mo1⟩ : ∃ mo : Nat, u3 = .int mo ∧ mo ≤ 6 := by
    simp only [List.mem_cons, List.not_mem_nil, or_false] at hu3
    rcases hu3 with e | e | e | e | e | e
    · exact ⟨0, e, by decide⟩
    · exact ⟨0, e, by decide⟩
    · exact ⟨1, e, by decide⟩
    · exact ⟨2, e, by decide⟩
    · exact ⟨3, e, by decide⟩
    · exact ⟨6, e, by decide⟩
  simp only [ty_s, w_fn, w_ret, w_seq, w_sif, w_of, w_trn, w_op, w_snil, w_pass, w_retn, w_asg, w_gnm, w_gsb, w_gtp, w_gcn, w_gn0, w_par, w_aug, w_drop, w_c, w_k, w_lst, w_tup, w_and, w_or, w_not, w_neg, w_ifx, w_tand, w_tor, w_tnot, w_cb, w_ck, w_mt, w_cons, w_nil, w_var, w_chain, w_sl, w_osome, w_onone, Pu.w_rev, w_dct0, w_for, w_iseq, w_irg1, w_lc, w_lc2, List.map_cons, List.map_nil, List.cons_append, List.nil_append, List.getElem?_cons_zero, List.getElem?_cons_succ, List.length_cons, List.length_nil, Option.some.injEq, exists_eq_left', w_some, List.replicate, List.set_cons_zero, List.set_cons_succ, frz_nil, frz_dat, frz_new, frz_new0, ne_ss, list_t, mk_nil, mk1, mk2, mk3, U.dat.injEq, PyData.int.injEq, PyData.bool.injEq, PyData.str.injEq, U.cell.injEq, add_ii, sub_ii, lt_ii, le_ii, gt_ii, ge_ii, eq_ii, ne_ii, eq_tt0, ne_tt0, eq_ds, sl_t, len_t, isi_int, isi_bool, isi_str, isi_tup, abs_i, min_ii, max_ii, int_i, int_b, mod_ii, fdiv_ii, mul_ii, pow_ii, add_ss, add_tt, mul_ti, repr_d, frzU_dat, and_true, true_and, and_assoc, List.cons.injEq, exists_and_left, exists_and_right, exists_eq_left, exists_eq_right, ix_t, ix_s, sl_s, len_s, is_non, Nat.reduceAdd, Nat.reduceSub, sz0, sz1, sz2, sz3, sz4, sz5, sz6, sz7, sz8, sz9, sz10, sz11, sz12, sz13, sz14, sz15, sz16, sz17, sz18, sz19, sz20, sz21, sz22, sz23, sz24, sz25, sz26, sz27, sz28, sz29, sz30, w_vtup, w_vlst, w_vhnd, w_fzl, w_vlc, w_vlc2, w_viseq, w_vien, w_vizp, w_irg2, w_vtxt, w_vfor, w_sown, w_vapp, w_vext, w_vsb, w_vpar, w_vparf, w_vparg, w_vsl, w_star, ad_nil, ad_dat, ad_map, ad_app, Option.map_some, vadd_ii, vadd_ss, vadd_tt, vadd_ll, vmul_ii, vmul_ti, vsl_t, vsl_l, vsl_s, seq_t, seq_lv, seq_dl, lst_lv, nc_lv, nc_dat, nc_scr, len_lv, ix_lv, vlist_t, vlist_l, vlistT_t, vtup_l, vtup_t, vrepr_d, vrepr_l, vsort_l, ty_lv, wipeR, dtup_t, List.append_nil, vcat_ll]
  refine ⟨by omega, by omega, ?_⟩
  refine vlc_draw (fun j M' => HF N h (n + 3 + j) M') (fun _ _ d => ∃ z : Str, d = .str z ∧ Lt z ∧ z.length = 1) _ 0 M3 _ hh3 (fun j u M' hj hx => by
      obtain ⟨hj1, rfl⟩ := range_get hj
      simp only [w_fn, w_ret, w_seq, w_sif, w_of, w_trn, w_op, w_snil, w_pass, w_retn, w_asg, w_gnm, w_gsb, w_gtp, w_gcn, w_gn0, w_par, w_aug, w_drop, w_c, w_k, w_lst, w_tup, w_and, w_or, w_not, w_neg, w_ifx, w_tand, w_tor, w_tnot, w_cb, w_ck, w_mt, w_cons, w_nil, w_var, w_chain, w_sl, w_osome, w_onone, Pu.w_rev, w_dct0, w_for, w_iseq, w_irg1, w_lc, w_lc2, List.map_cons, List.map_nil, List.cons_append, List.nil_append, List.getElem?_cons_zero, List.getElem?_cons_succ, List.length_cons, List.length_nil, Option.some.injEq, exists_eq_left', w_some, List.replicate, List.set_cons_zero, List.set_cons_succ, frz_nil, frz_dat, frz_new, frz_new0, ne_ss, list_t, mk_nil, mk1, mk2, mk3, U.dat.injEq, PyData.int.injEq, PyData.bool.injEq, PyData.str.injEq, U.cell.injEq, add_ii, sub_ii, lt_ii, le_ii, gt_ii, ge_ii, eq_ii, ne_ii, eq_tt0, ne_tt0, eq_ds, sl_t, len_t, isi_int, isi_bool, isi_str, isi_tup, abs_i, min_ii, max_ii, int_i, int_b, mod_ii, fdiv_ii, mul_ii, pow_ii, add_ss, add_tt, mul_ti, repr_d, frzU_dat, and_true, true_and, and_assoc, List.cons.injEq, exists_and_left, exists_and_right, exists_eq_left, exists_eq_right, ix_t, ix_s, sl_s, len_s, is_non, Nat.reduceAdd, Nat.reduceSub, sz0, sz1, sz2, sz3, sz4, sz5, sz6, sz7, sz8, sz9, sz10, sz11, sz12, sz13, sz14, sz15, sz16, sz17, sz18, sz19, sz20, sz21, sz22, sz23, sz24, sz25, sz26, sz27, sz28, sz29, sz30, w_vtup, w_vlst, w_vhnd, w_fzl, w_vlc, w_vlc2, w_viseq, w_vien, w_vizp, w_irg2, w_vtxt, w_vfor, w_sown, w_vapp, w_vext, w_vsb, w_vpar, w_vparf, w_vparg, w_vsl, w_star, ad_nil, ad_dat, ad_map, ad_app, Option.map_some, vadd_ii, vadd_ss, vadd_tt, vadd_ll, vmul_ii, vmul_ti, vsl_t, vsl_l, vsl_s, seq_t, seq_lv, seq_dl, lst_lv, nc_lv, nc_dat, nc_scr, len_lv, ix_lv, vlist_t, vlist_l, vlistT_t, vtup_l, vtup_t, vrepr_d, vrepr_l, vsort_l, ty_lv, wipeR, dtup_t, List.append_nil, vcat_ll]
      refine of_s hx (by omega) (by decide +kernel) (by decide +kernel) fun c M5 hc hx5 => ?_
      exact ⟨_, rfl, ⟨_, rfl, lt_one (abc_lt c hc), rfl⟩, hx5.mono (by omega)⟩) fun ds M4 hl4 r4 hh4 => ?_
  obtain ⟨zs, hzs, lzs, pzs⟩ : ∃ zs : List Str, ds = zs.map PyData.str ∧ zs.length = ds.length ∧ ∀ z ∈ zs, Lt z ∧ z.length = 1 := by
    have all : ∀ d ∈ ds, ∃ z : Str, d = .str z ∧ Lt z ∧ z.length = 1 := by
      intro d hd
      obtain ⟨j, hj, e⟩ := List.getElem_of_mem hd
      have hj2 : j < (rangeU 0 ((more : Int)).toNat).length := by omega
      exact r4 j _ d (List.getElem?_eq_getElem hj2) (by rw [List.getElem?_eq_getElem hj, e])
    clear r4 hl4
    induction ds with
    | nil => exact ⟨[], rfl, rfl, fun z hz => by cases hz⟩
    | cons d ds ih =>
      obtain ⟨zs, e, l, p⟩ := ih fun d hd => all d (List.mem_cons_of_mem _ hd)
      obtain ⟨z, e1, p1⟩ := all d List.mem_cons_self
      refine ⟨z :: zs, by rw [e1, e]; rfl, by simp [l], fun y hy => ?_⟩
      rcases List.mem_cons.mp hy with rfl | hy
      · exact p1
      · exact p y hy
  subst hzs
  rw [range_len] at hh4 hl4
  rw [List.length_map] at hl4
  have sum1 : (zs.map (·.length)).sum = zs.length := by
    clear lzs hl4 r4
    induction zs with
    | nil => rfl
    | cons z zs ih =>
      have h1 := (pzs z List.mem_cons_self).2
      have h2 := ih fun y hy => pzs y (List.mem_cons_of_mem _ hy)
      simp only [List.map_cons, List.sum_cons, List.length_cons]
      omega
  have lzm : zs.length ≤ 6 := by omega
  have big : ∀ z : Nat, z ≤ 100 → z ≤ sizeLine := fun z hz => Nat.le_trans hz (by decide)
  refine ⟨big _ (by rw [List.length_map]; omega), ?_⟩
  rw [join_lv (zs := zs) (by omega)]
  obtain ⟨pt, pl⟩ := join_lt (ys := zs) fun y hy => (pzs y hy).1
  generalize Str.join Str.empty zs = pad at pt pl
  try simp only [w_fn, w_ret, w_seq, w_sif, w_of, w_trn, w_op, w_snil, w_pass, w_retn, w_asg, w_gnm, w_gsb, w_gtp, w_gcn, w_gn0, w_par, w_aug, w_drop, w_c, w_k, w_lst, w_tup, w_and, w_or, w_not, w_neg, w_ifx, w_tand, w_tor, w_tnot, w_cb, w_ck, w_mt, w_cons, w_nil, w_var, w_chain, w_sl, w_osome, w_onone, Pu.w_rev, w_dct0, w_for, w_iseq, w_irg1, w_lc, w_lc2, List.map_cons, List.map_nil, List.cons_append, List.nil_append, List.getElem?_cons_zero, List.getElem?_cons_succ, List.length_cons, List.length_nil, Option.some.injEq, exists_eq_left', w_some, List.replicate, List.set_cons_zero, List.set_cons_succ, frz_nil, frz_dat, frz_new, frz_new0, ne_ss, list_t, mk_nil, mk1, mk2, mk3, U.dat.injEq, PyData.int.injEq, PyData.bool.injEq, PyData.str.injEq, U.cell.injEq, add_ii, sub_ii, lt_ii, le_ii, gt_ii, ge_ii, eq_ii, ne_ii, eq_tt0, ne_tt0, eq_ds, sl_t, len_t, isi_int, isi_bool, isi_str, isi_tup, abs_i, min_ii, max_ii, int_i, int_b, mod_ii, fdiv_ii, mul_ii, pow_ii, add_ss, add_tt, mul_ti, repr_d, frzU_dat, and_true, true_and, and_assoc, List.cons.injEq, exists_and_left, exists_and_right, exists_eq_left, exists_eq_right, ix_t, ix_s, sl_s, len_s, is_non, Nat.reduceAdd, Nat.reduceSub, sz0, sz1, sz2, sz3, sz4, sz5, sz6, sz7, sz8, sz9, sz10, sz11, sz12, sz13, sz14, sz15, sz16, sz17, sz18, sz19, sz20, sz21, sz22, sz23, sz24, sz25, sz26, sz27, sz28, sz29, sz30, w_vtup, w_vlst, w_vhnd, w_fzl, w_vlc, w_vlc2, w_viseq, w_vien, w_vizp, w_irg2, w_vtxt, w_vfor, w_sown, w_vapp, w_vext, w_vsb, w_vpar, w_vparf, w_vparg, w_vsl, w_star, ad_nil, ad_dat, ad_map, ad_app, Option.map_some, vadd_ii, vadd_ss, vadd_tt, vadd_ll, vmul_ii, vmul_ti, vsl_t, vsl_l, vsl_s, seq_t, seq_lv, seq_dl, lst_lv, nc_lv, nc_dat, nc_scr, len_lv, ix_lv, vlist_t, vlist_l, vlistT_t, vtup_l, vtup_t, vrepr_d, vrepr_l, vsort_l, ty_lv, wipeR, dtup_t, List.append_nil, vcat_ll]
  refine ⟨by decide, ?_⟩
  refine take_nat (k := more + 1) (hh4.mono (k := n + 9) (by omega)) (by omega) (by omega) (by omega) fun a M5 at1 hh5 => ?_
  try simp only [w_fn, w_ret, w_seq, w_sif, w_of, w_trn, w_op, w_snil, w_pass, w_retn, w_asg, w_gnm, w_gsb, w_gtp, w_gcn, w_gn0, w_par, w_aug, w_drop, w_c, w_k, w_lst, w_tup, w_and, w_or, w_not, w_neg, w_ifx, w_tand, w_tor, w_tnot, w_cb, w_ck, w_mt, w_cons, w_nil, w_var, w_chain, w_sl, w_osome, w_onone, Pu.w_rev, w_dct0, w_for, w_iseq, w_irg1, w_lc, w_lc2, List.map_cons, List.map_nil, List.cons_append, List.nil_append, List.getElem?_cons_zero, List.getElem?_cons_succ, List.length_cons, List.length_nil, Option.some.injEq, exists_eq_left', w_some, List.replicate, List.set_cons_zero, List.set_cons_succ, frz_nil, frz_dat, frz_new, frz_new0, ne_ss, list_t, mk_nil, mk1, mk2, mk3, U.dat.injEq, PyData.int.injEq, PyData.bool.injEq, PyData.str.injEq, U.cell.injEq, add_ii, sub_ii, lt_ii, le_ii, gt_ii, ge_ii, eq_ii, ne_ii, eq_tt0, ne_tt0, eq_ds, sl_t, len_t, isi_int, isi_bool, isi_str, isi_tup, abs_i, min_ii, max_ii, int_i, int_b, mod_ii, fdiv_ii, mul_ii, pow_ii, add_ss, add_tt, mul_ti, repr_d, frzU_dat, and_true, true_and, and_assoc, List.cons.injEq, exists_and_left, exists_and_right, exists_eq_left, exists_eq_right, ix_t, ix_s, sl_s, len_s, is_non, Nat.reduceAdd, Nat.reduceSub, sz0, sz1, sz2, sz3, sz4, sz5, sz6, sz7, sz8, sz9, sz10, sz11, sz12, sz13, sz14, sz15, sz16, sz17, sz18, sz19, sz20, sz21, sz22, sz23, sz24, sz25, sz26, sz27, sz28, sz29, sz30, w_vtup, w_vlst, w_vhnd, w_fzl, w_vlc, w_vlc2, w_viseq, w_vien, w_vizp, w_irg2, w_vtxt, w_vfor, w_sown, w_vapp, w_vext, w_vsb, w_vpar, w_vparf, w_vparg, w_vsl, w_star, ad_nil, ad_dat, ad_map, ad_app, Option.map_some, vadd_ii, vadd_ss, vadd_tt, vadd_ll, vmul_ii, vmul_ti, vsl_t, vsl_l, vsl_s, seq_t, seq_lv, seq_dl, lst_lv, nc_lv, nc_dat, nc_scr, len_lv, ix_lv, vlist_t, vlist_l, vlistT_t, vtup_l, vtup_t, vrepr_d, vrepr_l, vsort_l, ty_lv, wipeR, dtup_t, List.append_nil, vcat_ll]
  refine ⟨by omega, by omega, ?_⟩
  refine for_inv (NmI N h (n + 10) (cutS pad none (some (a : Int))).cps.toList.length x1 st (.dat (.int st)) (.dat (.int more)) (.dat (.str pad)) (.dat (.int a)) k) _ 0 _ _ ⟨[], none, none, none, rfl, rfl, (fun w hw => by cases hw), (fun i z hz => by simp at hz), hh5⟩ ?_ ?_
  · intro j u ρ M6 hj hI
    obtain ⟨hj1, rfl⟩ := range_get hj
    obtain ⟨ws, y6, y10, y11, rfl, hl6, hw6, hd6, hh6⟩ := hI
    have s26 : (26 : Nat) ≤ sizeLine := by decide
    try simp only [w_fn, w_ret, w_seq, w_sif, w_of, w_trn, w_op, w_snil, w_pass, w_retn, w_asg, w_gnm, w_gsb, w_gtp, w_gcn, w_gn0, w_par, w_aug, w_drop, w_c, w_k, w_lst, w_tup, w_and, w_or, w_not, w_neg, w_ifx, w_tand, w_tor, w_tnot, w_cb, w_ck, w_mt, w_cons, w_nil, w_var, w_chain, w_sl, w_osome, w_onone, Pu.w_rev, w_dct0, w_for, w_iseq, w_irg1, w_lc, w_lc2, List.map_cons, List.map_nil, List.cons_append, List.nil_append, List.getElem?_cons_zero, List.getElem?_cons_succ, List.length_cons, List.length_nil, Option.some.injEq, exists_eq_left', w_some, List.replicate, List.set_cons_zero, List.set_cons_succ, frz_nil, frz_dat, frz_new, frz_new0, ne_ss, list_t, mk_nil, mk1, mk2, mk3, U.dat.injEq, PyData.int.injEq, PyData.bool.injEq, PyData.str.injEq, U.cell.injEq, add_ii, sub_ii, lt_ii, le_ii, gt_ii, ge_ii, eq_ii, ne_ii, eq_tt0, ne_tt0, eq_ds, sl_t, len_t, isi_int, isi_bool, isi_str, isi_tup, abs_i, min_ii, max_ii, int_i, int_b, mod_ii, fdiv_ii, mul_ii, pow_ii, add_ss, add_tt, mul_ti, repr_d, frzU_dat, and_true, true_and, and_assoc, List.cons.injEq, exists_and_left, exists_and_right, exists_eq_left, exists_eq_right, ix_t, ix_s, sl_s, len_s, is_non, Nat.reduceAdd, Nat.reduceSub, sz0, sz1, sz2, sz3, sz4, sz5, sz6, sz7, sz8, sz9, sz10, sz11, sz12, sz13, sz14, sz15, sz16, sz17, sz18, sz19, sz20, sz21, sz22, sz23, sz24, sz25, sz26, sz27, sz28, sz29, sz30, w_vtup, w_vlst, w_vhnd, w_fzl, w_vlc, w_vlc2, w_viseq, w_vien, w_vizp, w_irg2, w_vtxt, w_vfor, w_sown, w_vapp, w_vext, w_vsb, w_vpar, w_vparf, w_vparg, w_vsl, w_star, ad_nil, ad_dat, ad_map, ad_app, Option.map_some, vadd_ii, vadd_ss, vadd_tt, vadd_ll, vmul_ii, vmul_ti, vsl_t, vsl_l, vsl_s, seq_t, seq_lv, seq_dl, lst_lv, nc_lv, nc_dat, nc_scr, len_lv, ix_lv, vlist_t, vlist_l, vlistT_t, vtup_l, vtup_t, vrepr_d, vrepr_l, vsort_l, ty_lv, wipeR, dtup_t, List.append_nil, vcat_ll]
    refine ⟨cmul_s (by omega) (by omega), by decide, by rw [abc_len]; exact s26, ?_⟩
    obtain ⟨c, ec, hc, hc3⟩ := abc_at2 (x1 + st * (0 + (j : Int)))
    have ct := cut_two pad a
    refine ⟨c, ec, big _ (by omega), big _ ?_, big _ (by omega), big _ ?_, ?_⟩
    · have : (⟨#[c]⟩ : Str).length = 1 := rfl
      omega
    · rw [strLen_append]
      have : (⟨#[c]⟩ : Str).length = 1 := rfl
      omega
    have wt : Lt (cutS pad none (some (a : Int)) ++ ⟨#[c]⟩ ++ cutS pad (some (a : Int)) none) := lt_app (lt_app (lt_cut pt _ _) (lt_one hc)) (lt_cut pt _ _)
    have wl : (cutS pad none (some (a : Int)) ++ ⟨#[c]⟩ ++ cutS pad (some (a : Int)) none).length = pad.length + 1 := by
      rw [strLen_append, strLen_append]
      have : (⟨#[c]⟩ : Str).length = 1 := rfl
      omega
    have wc : (cutS pad none (some (a : Int)) ++ ⟨#[c]⟩ ++ cutS pad (some (a : Int)) none).cps.toList[(cutS pad none (some (a : Int))).cps.toList.length]? = some c := by
      rw [app_cps, app_cps]
      show ((cutS pad none (some (a : Int))).cps.toList ++ [c] ++ (cutS pad (some (a : Int)) none).cps.toList)[(cutS pad none (some (a : Int))).cps.toList.length]? = some c
      rw [List.append_assoc, List.getElem?_append_right (Nat.le_refl _), Nat.sub_self]
      rfl
    generalize cutS pad none (some (a : Int)) ++ ⟨#[c]⟩ ++ cutS pad (some (a : Int)) none = word at wt wl wc
    refine ⟨ws.map .str, rfl, ?_⟩
    simp only [in5, vmul_sb, w_fn, w_ret, w_seq, w_sif, w_of, w_trn, w_op, w_snil, w_pass, w_retn, w_asg, w_gnm, w_gsb, w_gtp, w_gcn, w_gn0, w_par, w_aug, w_drop, w_c, w_k, w_lst, w_tup, w_and, w_or, w_not, w_neg, w_ifx, w_tand, w_tor, w_tnot, w_cb, w_ck, w_mt, w_cons, w_nil, w_var, w_chain, w_sl, w_osome, w_onone, Pu.w_rev, w_dct0, w_for, w_iseq, w_irg1, w_lc, w_lc2, List.map_cons, List.map_nil, List.cons_append, List.nil_append, List.getElem?_cons_zero, List.getElem?_cons_succ, List.length_cons, List.length_nil, Option.some.injEq, exists_eq_left', w_some, List.replicate, List.set_cons_zero, List.set_cons_succ, frz_nil, frz_dat, frz_new, frz_new0, ne_ss, list_t, mk_nil, mk1, mk2, mk3, U.dat.injEq, PyData.int.injEq, PyData.bool.injEq, PyData.str.injEq, U.cell.injEq, add_ii, sub_ii, lt_ii, le_ii, gt_ii, ge_ii, eq_ii, ne_ii, eq_tt0, ne_tt0, eq_ds, sl_t, len_t, isi_int, isi_bool, isi_str, isi_tup, abs_i, min_ii, max_ii, int_i, int_b, mod_ii, fdiv_ii, mul_ii, pow_ii, add_ss, add_tt, mul_ti, repr_d, frzU_dat, and_true, true_and, and_assoc, List.cons.injEq, exists_and_left, exists_and_right, exists_eq_left, exists_eq_right, ix_t, ix_s, sl_s, len_s, is_non, Nat.reduceAdd, Nat.reduceSub, sz0, sz1, sz2, sz3, sz4, sz5, sz6, sz7, sz8, sz9, sz10, sz11, sz12, sz13, sz14, sz15, sz16, sz17, sz18, sz19, sz20, sz21, sz22, sz23, sz24, sz25, sz26, sz27, sz28, sz29, sz30, w_vtup, w_vlst, w_vhnd, w_fzl, w_vlc, w_vlc2, w_viseq, w_vien, w_vizp, w_irg2, w_vtxt, w_vfor, w_sown, w_vapp, w_vext, w_vsb, w_vpar, w_vparf, w_vparg, w_vsl, w_star, ad_nil, ad_dat, ad_map, ad_app, Option.map_some, vadd_ii, vadd_ss, vadd_tt, vadd_ll, vmul_ii, vmul_ti, vsl_t, vsl_l, vsl_s, seq_t, seq_lv, seq_dl, lst_lv, nc_lv, nc_dat, nc_scr, len_lv, ix_lv, vlist_t, vlist_l, vlistT_t, vtup_l, vtup_t, vrepr_d, vrepr_l, vsort_l, ty_lv, wipeR, dtup_t, List.append_nil, vcat_ll]
    have nm := name_ok wt (by omega) (by omega)
    refine ⟨big _ ?_, ?_⟩
    · split
      · have : (Str.ofString "x").length = 1 := rfl
        omega
      · have : Str.empty.length = 0 := rfl
        omega
    have wc2 : (word ++ (if inV (V.str word) five = true then (Str.ofString "x") else Str.empty)).cps.toList[(cutS pad none (some (a : Int))).cps.toList.length]? = some c := by
      rw [app_cps, List.getElem?_append_left (List.getElem?_eq_some_iff.mp wc).1]
      exact wc
    generalize word ++ (if inV (V.str word) five = true then (Str.ofString "x") else Str.empty) = nm1 at nm wc2
    refine ⟨by rw [List.length_map]; exact Nat.lt_of_le_of_lt (show _ ≤ 100 by omega) (by decide), ?_⟩
    refine ⟨ws ++ [nm1], _, _, _, by rw [List.map_append]; rfl, ?_, ?_, ?_, hh6⟩
    · simp [hl6]
    · intro w hw
      rcases List.mem_append.mp hw with hw | hw
      · exact hw6 w hw
      · rw [List.mem_singleton.mp hw]
        exact nm
    · intro i z hz
      by_cases hi : i < ws.length
      · rw [List.getElem?_append_left hi] at hz
        exact hd6 i z hz
      · have hl := (List.getElem?_eq_some_iff.mp hz).1
        rw [List.length_append, List.length_singleton] at hl
        have ei : i = ws.length := by omega
        rw [ei, List.getElem?_append_right (Nat.le_refl _), Nat.sub_self] at hz
        have ez : nm1 = z := Option.some.inj hz
        refine ⟨c, by rw [← ez]; exact wc2, ?_⟩
        rw [hc3, ei, hl6]
        simp
  · intro ρ M6 hI
    obtain ⟨ws, y6, y10, y11, rfl, hl6, hw6, hd6, hh6⟩ := hI
    rw [range_len] at hl6
    try simp only [w_fn, w_ret, w_seq, w_sif, w_of, w_trn, w_op, w_snil, w_pass, w_retn, w_asg, w_gnm, w_gsb, w_gtp, w_gcn, w_gn0, w_par, w_aug, w_drop, w_c, w_k, w_lst, w_tup, w_and, w_or, w_not, w_neg, w_ifx, w_tand, w_tor, w_tnot, w_cb, w_ck, w_mt, w_cons, w_nil, w_var, w_chain, w_sl, w_osome, w_onone, Pu.w_rev, w_dct0, w_for, w_iseq, w_irg1, w_lc, w_lc2, List.map_cons, List.map_nil, List.cons_append, List.nil_append, List.getElem?_cons_zero, List.getElem?_cons_succ, List.length_cons, List.length_nil, Option.some.injEq, exists_eq_left', w_some, List.replicate, List.set_cons_zero, List.set_cons_succ, frz_nil, frz_dat, frz_new, frz_new0, ne_ss, list_t, mk_nil, mk1, mk2, mk3, U.dat.injEq, PyData.int.injEq, PyData.bool.injEq, PyData.str.injEq, U.cell.injEq, add_ii, sub_ii, lt_ii, le_ii, gt_ii, ge_ii, eq_ii, ne_ii, eq_tt0, ne_tt0, eq_ds, sl_t, len_t, isi_int, isi_bool, isi_str, isi_tup, abs_i, min_ii, max_ii, int_i, int_b, mod_ii, fdiv_ii, mul_ii, pow_ii, add_ss, add_tt, mul_ti, repr_d, frzU_dat, and_true, true_and, and_assoc, List.cons.injEq, exists_and_left, exists_and_right, exists_eq_left, exists_eq_right, ix_t, ix_s, sl_s, len_s, is_non, Nat.reduceAdd, Nat.reduceSub, sz0, sz1, sz2, sz3, sz4, sz5, sz6, sz7, sz8, sz9, sz10, sz11, sz12, sz13, sz14, sz15, sz16, sz17, sz18, sz19, sz20, sz21, sz22, sz23, sz24, sz25, sz26, sz27, sz28, sz29, sz30, w_vtup, w_vlst, w_vhnd, w_fzl, w_vlc, w_vlc2, w_viseq, w_vien, w_vizp, w_irg2, w_vtxt, w_vfor, w_sown, w_vapp, w_vext, w_vsb, w_vpar, w_vparf, w_vparg, w_vsl, w_star, ad_nil, ad_dat, ad_map, ad_app, Option.map_some, vadd_ii, vadd_ss, vadd_tt, vadd_ll, vmul_ii, vmul_ti, vsl_t, vsl_l, vsl_s, seq_t, seq_lv, seq_dl, lst_lv, nc_lv, nc_dat, nc_scr, len_lv, ix_lv, vlist_t, vlist_l, vlistT_t, vtup_l, vtup_t, vrepr_d, vrepr_l, vsort_l, ty_lv, wipeR, dtup_t, List.append_nil, vcat_ll]
    refine q ws M6 (by omega) hw6 (List.pairwise_iff_getElem.mpr fun i j hi hj hij e => ?_) (hh6.mono (by omega))
    obtain ⟨c1, h1, h2⟩ := hd6 i _ (List.getElem?_eq_getElem hi)
    obtain ⟨c2, h3, h4⟩ := hd6 j _ (List.getElem?_eq_getElem hj)
    rw [e, h3] at h1
    have ec : c2 = c1 := Option.some.inj h1
    rcases hst with z | z | z | z | z | z <;> subst z <;> omega
end Z

namespace Z
open PySem PySem.Spec PyProof.Rows L2 Lw Pu
/-! ### deeds -/
abbrev actsD (as : List (Str × Nat)) : List PyData := as.map fun a => .tuple [.str a.1, .int (a.2 : Int)]
local macro_rules | `(tactic| push_cast [$xs,*]) => `(tactic| (try simp only [$xs,*, w_fn, w_ret, w_seq, w_sif, w_of, w_trn, w_op, w_snil, w_pass, w_retn, w_asg, w_gnm, w_gsb, w_gtp, w_gcn, w_gn0, w_par, w_aug, w_drop, w_c, w_k, w_lst, w_tup, w_and, w_or, w_not, w_neg, w_ifx, w_tand, w_tor, w_tnot, w_cb, w_ck, w_mt, w_cons, w_nil, w_var, w_chain, w_sl, w_osome, w_onone, Pu.w_rev, w_dct0, w_for, w_iseq, w_irg1, w_lc, w_lc2, List.map_cons, List.map_nil, List.cons_append, List.nil_append, List.getElem?_cons_zero, List.getElem?_cons_succ, List.length_cons, List.length_nil, Option.some.injEq, exists_eq_left', w_some, List.replicate, List.set_cons_zero, List.set_cons_succ, frz_nil, frz_dat, frz_new, frz_new0, ne_ss, list_t, mk_nil, mk1, mk2, mk3, U.dat.injEq, PyData.int.injEq, PyData.bool.injEq, PyData.str.injEq, U.cell.injEq, add_ii, sub_ii, lt_ii, le_ii, gt_ii, ge_ii, eq_ii, ne_ii, eq_tt0, ne_tt0, eq_ds, sl_t, len_t, isi_int, isi_bool, isi_str, isi_tup, abs_i, min_ii, max_ii, int_i, int_b, mod_ii, fdiv_ii, mul_ii, pow_ii, add_ss, add_tt, mul_ti, repr_d, frzU_dat, and_true, true_and, and_assoc, List.cons.injEq, exists_and_left, exists_and_right, exists_eq_left, exists_eq_right, ix_t, ix_s, sl_s, len_s, is_non, Nat.reduceAdd, Nat.reduceSub, sz0, sz1, sz2, sz3, sz4, sz5, sz6, sz7, sz8, sz9, sz10, sz11, sz12, sz13, sz14, sz15, sz16, sz17, sz18, sz19, sz20, sz21, sz22, sz23, sz24, sz25, sz26, sz27, sz28, sz29, sz30, w_vtup, w_vlst, w_vhnd, w_fzl, w_vlc, w_vlc2, w_viseq, w_vien, w_vizp, w_irg2, w_vtxt, w_vfor, w_sown, w_vapp, w_vext, w_vsb, w_vpar, w_vparf, w_vparg, w_vsl, w_star, ad_nil, ad_dat, ad_map, ad_app, Option.map_some, vadd_ii, vadd_ss, vadd_tt, vadd_ll, vmul_ii, vmul_ti, vsl_t, vsl_l, vsl_s, seq_t, seq_lv, seq_dl, lst_lv, nc_lv, nc_dat, nc_scr, len_lv, ix_lv, vlist_t, vlist_l, vlistT_t, vtup_l, vtup_t, vrepr_d, vrepr_l, vsort_l, ty_lv, wipeR, dtup_t, List.append_nil, vcat_ll, U.lv.injEq, exists_eq, exists_eq', w_vsortr, w_vsortset, dictp_l, w_dictz, w_efld, w_gfld, w_flda, w_eme, w_emk, w_eca, w_nolv, w_never, isLv_dat, isLv_cell, isLv_adr, Pu.tupK_d, ixg_t, ixg_d]))
/-! ### guards, numbers, rows, as they are drawn -/
def oD : Option Nat → PyData
  | none => .none
  | some p => .int (p : Int)
abbrev gateD (gs : List (List (Option Nat))) : PyData := .tuple (gs.map fun g => .tuple (g.map oD))
def GateOk (na : Nat) (gs : List (List (Option Nat))) : Prop := ∀ g ∈ gs, g.length = na ∧ ∀ p, some p ∈ g → p < gs.length
theorem number_spec {N M : Mem} {h n : Nat} {Q : U → Mem → Prop} (hh : HF N h n M) (hn : n + 3 ≤ 1000000000) (q : ∀ (x : Int) M', x.natAbs ≤ 10 ^ 59 → HF N h (n + 3) M' → Q (.dat (.int x)) M') : W (v__law_number [.cell h] M) Q := by
  have p59 : CPowW 10 59 := ⟨by decide, by decide +kernel⟩
  simp only [v__law_number]
  push_cast [wipeR]
  refine take_nat (k := 9) hh (by omega) (by decide) (by decide) fun x M1 hx hh1 => ?_
  push_cast [wipeR]
  have sm : ∀ z : Nat, z < 100 → (z : Int).natAbs ≤ 10 ^ 59 := fun z hz => Nat.le_trans (show _ ≤ 100 by omega) (by decide +kernel)
  by_cases hx7 : (x : Int) < 7
  · rw [decide_eq_true hx7]
    push_cast [wipeR]
    exact take_nat (k := 6) hh1 (by omega) (by decide) (by decide) fun y M2 hy hh2 => q _ _ (sm y (by omega)) (hh2.mono (by omega))
  · rw [decide_eq_false hx7]
    push_cast [wipeR]
    refine ⟨p59, take_wide hh1 (by omega) (by decide +kernel) (by decide +kernel) fun t M2 t0 t1 hh2 => ?_⟩
    have t2 : t.natAbs ≤ 10 ^ 59 := by
      have : (10 : Int) ^ Int.toNat 59 ≤ ((10 ^ 59 : Nat) : Int) := by decide +kernel
      omega
    push_cast [wipeR]
    refine take_nat (k := 9) hh2 (by omega) (by decide) (by decide) fun y M3 hy hh3 => ?_
    push_cast [wipeR]
    rcases (show (x : Int) - 7 = 0 ∨ (x : Int) - 7 = 1 by omega) with e | e
    · rw [e]
      exact ⟨_, rfl, q _ _ t2 hh3⟩
    · rw [e]
      refine ⟨_, rfl, q _ _ ?_ hh3⟩
      exact Nat.le_trans (show _ ≤ 100 by omega) (by decide +kernel)
local macro_rules | `(tactic| push_cast [$xs,*]) => `(tactic| (try simp only [$xs,*, w_fn, w_ret, w_seq, w_sif, w_of, w_trn, w_op, w_snil, w_pass, w_retn, w_asg, w_gnm, w_gsb, w_gtp, w_gcn, w_gn0, w_par, w_aug, w_drop, w_c, w_k, w_lst, w_tup, w_and, w_or, w_not, w_neg, w_ifx, w_tand, w_tor, w_tnot, w_cb, w_ck, w_mt, w_cons, w_nil, w_var, w_chain, w_sl, w_osome, w_onone, Pu.w_rev, w_dct0, w_for, w_iseq, w_irg1, w_lc, w_lc2, List.map_cons, List.map_nil, List.cons_append, List.nil_append, List.getElem?_cons_zero, List.getElem?_cons_succ, List.length_cons, List.length_nil, Option.some.injEq, exists_eq_left', w_some, List.replicate, List.set_cons_zero, List.set_cons_succ, frz_nil, frz_dat, frz_new, frz_new0, ne_ss, list_t, mk_nil, mk1, mk2, mk3, U.dat.injEq, PyData.int.injEq, PyData.bool.injEq, PyData.str.injEq, U.cell.injEq, add_ii, sub_ii, lt_ii, le_ii, gt_ii, ge_ii, eq_ii, ne_ii, eq_tt0, ne_tt0, eq_ds, sl_t, len_t, isi_int, isi_bool, isi_str, isi_tup, abs_i, min_ii, max_ii, int_i, int_b, mod_ii, fdiv_ii, mul_ii, pow_ii, add_ss, add_tt, mul_ti, repr_d, frzU_dat, and_true, true_and, and_assoc, List.cons.injEq, exists_and_left, exists_and_right, exists_eq_left, exists_eq_right, ix_t, ix_s, sl_s, len_s, is_non, Nat.reduceAdd, Nat.reduceSub, sz0, sz1, sz2, sz3, sz4, sz5, sz6, sz7, sz8, sz9, sz10, sz11, sz12, sz13, sz14, sz15, sz16, sz17, sz18, sz19, sz20, sz21, sz22, sz23, sz24, sz25, sz26, sz27, sz28, sz29, sz30, w_vtup, w_vlst, w_vhnd, w_fzl, w_vlc, w_vlc2, w_viseq, w_vien, w_vizp, w_irg2, w_vtxt, w_vfor, w_sown, w_vapp, w_vext, w_vsb, w_vpar, w_vparf, w_vparg, w_vsl, w_star, ad_nil, ad_dat, ad_map, ad_app, Option.map_some, vadd_ii, vadd_ss, vadd_tt, vadd_ll, vmul_ii, vmul_ti, vsl_t, vsl_l, vsl_s, seq_t, seq_lv, seq_dl, lst_lv, nc_lv, nc_dat, nc_scr, len_lv, ix_lv, vlist_t, vlist_l, vlistT_t, vtup_l, vtup_t, vrepr_d, vrepr_l, vsort_l, ty_lv, wipeR, dtup_t, List.append_nil, vcat_ll, U.lv.injEq, exists_eq, exists_eq', w_vsortr, w_vsortset, dictp_l, w_dictz, w_efld, w_gfld, w_flda, w_eme, w_emk, w_eca, w_nolv, w_never, isLv_dat, isLv_cell, isLv_adr, Pu.tupK_d, ixg_t, ixg_d]))
/-! ### rows, as they are drawn -/
theorem at0 {x : PyData} {rest : List PyData} : atI (x :: rest) 0 = some x := atI_nat (j := 0) rfl
theorem at01 {x y : PyData} {r : List PyData} : atI (x :: y :: r) 1 = some y := atI_nat (j := 1) rfl
theorem at02 {x y z : PyData} {r : List PyData} : atI (x :: y :: z :: r) 2 = some z := atI_nat (j := 2) rfl
/-- a deed: which act, and its numbers -/
abbrev Deed := Nat × List Int
def deedD (as : List (Str × Nat)) (d : Deed) : PyData := .tuple (((as[d.1]?.map fun a => PyData.str a.1).getD .none) :: d.2.map .int)
inductive RowOk (gs : List (List (Option Nat))) (as : List (Str × Nat)) : Nat → List Deed → Nat → Prop
  | nil {s : Nat} : RowOk gs as s [] s
  | snoc {s s1 s2 : Nat} {r : List Deed} {g : List (Option Nat)} {d : Deed} {a : Str × Nat} : RowOk gs as s r s1 → gs[s1]? = some g → g[d.1]? = some (some s2) → as[d.1]? = some a → d.2.length = a.2 → (∀ x ∈ d.2, x.natAbs ≤ 10 ^ 59) → RowOk gs as s (r ++ [d]) s2
theorem RowOk.lt {gs : List (List (Option Nat))} {as : List (Str × Nat)} {na s s2 : Nat} {r : List Deed} (hg : GateOk na gs) (h : RowOk gs as s r s2) (hs : s < gs.length) : s2 < gs.length := by
  induction h with
  | nil => exact hs
  | snoc h1 e1 e2 e3 e4 e5 ih => exact (hg _ (List.mem_of_getElem? e1)).2 _ (List.mem_of_getElem? e2)
theorem ints_of {R : Int → Prop} : ∀ {ds : List PyData}, (∀ d ∈ ds, ∃ x, d = .int x ∧ R x) → ∃ ns : List Int, ds = ns.map .int ∧ ∀ x ∈ ns, R x
  | [], _ => ⟨[], rfl, fun _ h => by cases h⟩
  | d :: ds, h => by
    obtain ⟨x, rfl, hx⟩ := h d (List.mem_cons_self ..)
    obtain ⟨ns, rfl, hs⟩ := ints_of (R := R) fun d hd => h d (List.mem_cons_of_mem _ hd)
    exact ⟨x :: ns, rfl, fun y hy => (List.mem_cons.mp hy).elim (fun e => e ▸ hx) (hs y)⟩
def spotP (g : List (Option Nat)) : U → Bool
  | .dat (.int i) => (g[i.toNat]?.getD none).isSome
  | _ => false
def spotF : U → PyData
  | .dat d => d
  | _ => .none
theorem isnot_non {d : PyData} {M : Mem} : isF true (.dat d) (.dat .none) M = some (.dat (.bool (!isNonU (.dat d))), M) := rfl
def spots (g : List (Option Nat)) (n : Nat) : List Nat := (List.range n).filter fun i => (g[i]?.getD none).isSome
theorem spots_eq (g : List (Option Nat)) (n : Nat) : ((rangeU 0 n).filter (spotP g)).map spotF = ((spots g n).map fun (k : Nat) => (k : Int)).map PyData.int := by
  unfold spots
  rw [show rangeU 0 n = (List.range n).map fun (k : Nat) => U.dat (.int (0 + (k : Int))) from rfl, List.filter_map, List.map_map, List.map_map]
  have e : (spotP g ∘ fun (k : Nat) => U.dat (.int (0 + (k : Int)))) = fun i => (g[i]?.getD none).isSome := by
    funext k
    show (g[(0 + (k : Int)).toNat]?.getD none).isSome = _
    rw [show (0 + (k : Int)).toNat = k by omega]
  rw [e]
  congr 1
  funext k
  show PyData.int (0 + (k : Int)) = .int (k : Int)
  rw [Int.zero_add]
theorem shaped_ints : ∀ ns : List Int, PyData.canLayAll0 (ns.map .int) = true
  | [] => rfl
  | n :: ns => by
    rw [List.map_cons, PyData.canLayAll0, shaped_ints ns]
    rfl
theorem depth_ints' : ∀ ns : List Int, PyData.depthAll (ns.map .int) ≤ 1
  | [] => by simp [PyData.depthAll]
  | k :: ks => by
    have := depth_ints' ks
    simp only [List.map_cons, PyData.depthAll, PyData.depth]
    omega
theorem ne_ints {ns : List Int} {M : Mem} : neU (.lv (ns.map .int)) (.lv []) M = some (.dat (.bool (!decide (ns.length = 0))), M) := by
  have h1 : neSS (.lv (ns.map .int)) (.lv []) M = none := rfl
  have h2 : eqT0 true (.lv (ns.map .int)) (.lv []) M = none := rfl
  have sh : SeqAt.shaped (.list (ns.map .int)) = true := by
    have := depth_ints' ns
    refine Bool.and_eq_true_iff.mpr ⟨?_, decide_eq_true ?_⟩
    · rw [PyData.canLay0]
      exact shaped_ints ns
    · rw [PyData.depth]
      omega
  have s0 : SeqAt.shaped (.list []) = true := by decide
  unfold neU orF
  simp only [h1, h2]
  unfold neD
  have e1 : datOf M (.lv (ns.map .int)) = some (.list (ns.map .int)) := rfl
  have e2 : datOf M (.lv []) = some (.list []) := rfl
  simp only [e1, e2, sh, s0, and_self, if_true]
  cases ns <;> rfl
def RwI (N : Mem) (h n s : Nat) (gs : List (List (Option Nat))) (as : List (Str × Nat)) (prog : PyData) (cnt : Int) (k : Nat) (ρ : Pu.Env) (M' : Mem) : Prop := ∃ (r : List Deed) (s2 : Nat) (y6 y7 y8 y9 y10 : Option U), ρ = [some (.cell h), some (.dat prog), some (.dat (gateD gs)), some (.dat (.int (s2 : Int))), some (.dat (.int cnt)), some (.lv (r.map (deedD as))), y6, y7, y8, y9, y10, none] ∧ r.length ≤ k ∧ RowOk gs as s r s2 ∧ HF N h (n + k * 20) M'
theorem row_spec {N M : Mem} {h n s cnt : Nat} {ws : PyData} {as : List (Str × Nat)} {ps : PyData} {gs : List (List (Option Nat))} {Q : U → Mem → Prop} (hh : HF N h n M) (hn : n + 1000 ≤ 1000000000) (ha : as.length ≤ 6) (hm : ∀ a ∈ as, a.2 ≤ 2) (hg : GateOk as.length gs) (hs : s < gs.length) (hc : cnt ≤ 40)
    (q : ∀ (r : List Deed) (s2 : Nat) M', r.length ≤ cnt → RowOk gs as s r s2 → HF N h (n + 800) M' → Q (.dat (.tuple [.tuple (r.map (deedD as)), .int (s2 : Int)])) M') : W (v__law_row [.cell h, .dat (.tuple [ws, .tuple (actsD as), ps]), .dat (gateD gs), .dat (.int (s : Int)), .dat (.int (cnt : Int))] M) Q := by
  have big : ∀ z : Nat, z ≤ 1000 → z ≤ sizeLine := fun z hz => Nat.le_trans hz (by decide)
  have bigl : ∀ z : Nat, z ≤ 1000 → z < sizeLine := fun z hz => Nat.lt_of_le_of_lt hz (by decide)
  simp only [v__law_row]
  push_cast [wipeR]
  refine ⟨by decide, by omega, by omega, ?_⟩
  refine for_inv (RwI N h n s gs as (.tuple [ws, .tuple (actsD as), ps]) cnt) _ 0 _ _ ⟨[], s, _, _, _, _, _, rfl, Nat.le_refl _, .nil, hh⟩ ?_ ?_
  · intro j u ρ M1 hj hI
    obtain ⟨hj1, rfl⟩ := range_get hj
    rw [Nat.zero_add] at hI ⊢
    obtain ⟨r, s2, y6, y7, y8, y9, y10, rfl, lr, hr, hh1⟩ := hI
    have hj40 : j < 40 := by omega
    have hs2 := hr.lt hg hs
    obtain ⟨g, hgi⟩ : ∃ g, gs[s2]? = some g := ⟨_, List.getElem?_eq_getElem hs2⟩
    have hgl : g.length = as.length := (hg g (List.mem_of_getElem? hgi)).1
    push_cast [wipeR]
    refine ⟨_, at01, ?_⟩
    push_cast [List.length_map]
    refine ⟨by omega, by omega, ?_⟩
    rw [show ((as.length : Int)).toNat = as.length by omega, vlc_filter (spotP g) spotF (rangeU 0 as.length) fun u hu => by
      obtain ⟨i, hi, e⟩ := List.getElem_of_mem hu
      obtain ⟨hi1, rfl⟩ := range_get (List.getElem?_eq_some_iff.mpr ⟨hi, e⟩)
      push_cast [wipeR]
      have hi1' : i < as.length := by omega
      refine ⟨_, atI_nat (by rw [List.getElem?_map, hgi]; rfl), ?_⟩
      push_cast [wipeR]
      rw [show (0 + (i : Int)) = ((i : Nat) : Int) by omega]
      refine ⟨_, atI_nat (by rw [List.getElem?_map, List.getElem?_eq_getElem (by omega)]; rfl), ?_⟩
      rw [isnot_non, w_some]
      refine ⟨_, rfl, ?_, rfl, fun _ => ⟨rfl, rfl⟩⟩
      show _ = (g[((i : Nat) : Int).toNat]?.getD none).isSome
      rw [show ((i : Nat) : Int).toNat = i by omega, List.getElem?_eq_getElem (by omega)]
      cases g[i] <;> rfl, spots_eq]
    have lsp : (spots g as.length).length ≤ as.length := by
      unfold spots
      exact Nat.le_trans (List.length_filter_le ..) (by rw [List.length_range]; exact Nat.le_refl _)
    push_cast [List.length_map, ne_ints]
    refine ⟨big _ (by omega), ?_⟩
    by_cases hz : (spots g as.length).length = 0
    · rw [decide_eq_true hz]
      push_cast [Bool.not_true]
      exact ⟨r, s2, _, _, _, _, _, rfl, by omega, hr, hh1.mono (by omega)⟩
    · rw [decide_eq_false hz]
      push_cast [Bool.not_false]
      refine of_l hh1 (by omega) (by rw [List.length_map, List.length_map]; omega) (by rw [List.length_map, List.length_map]; omega) fun d M2 hd hh2 => ?_
      obtain ⟨k, hk, rfl⟩ := List.mem_map.mp hd
      obtain ⟨sp, hsp, rfl⟩ := List.mem_map.mp hk
      obtain ⟨hsp1, hsp2⟩ := List.mem_filter.mp hsp
      have hspl := List.mem_range.mp hsp1
      obtain ⟨a, hai⟩ : ∃ a, as[sp]? = some a := ⟨_, List.getElem?_eq_getElem hspl⟩
      obtain ⟨p, hp⟩ : ∃ p, g[sp]? = some (some p) := by
        rw [List.getElem?_eq_getElem (by omega)] at hsp2 ⊢
        cases e : g[sp] with
        | none => rw [e] at hsp2; cases hsp2
        | some p => exact ⟨p, rfl⟩
      have hma : a.2 ≤ 2 := hm a (List.mem_of_getElem? hai)
      have ga : atI (actsD as) (sp : Int) = some (.tuple [.str a.1, .int (a.2 : Int)]) := atI_nat (by rw [List.getElem?_map, hai]; rfl)
      refine ⟨_, at01, ?_⟩
      push_cast [ga]
      refine ⟨by omega, by omega, ?_⟩
      refine vlc_draw (fun i M' => HF N h (n + j * 20 + 1 + 3 * i) M') (fun _ _ d => ∃ x, d = .int x ∧ x.natAbs ≤ 10 ^ 59) _ 0 M2 _ (by simpa using hh2) (fun i u M' hi hx => by
          obtain ⟨hi1, rfl⟩ := range_get hi
          have hi2 : i < 2 := by omega
          rw [Nat.zero_add] at hx ⊢
          push_cast [wipeR]
          refine number_spec hx (by omega) fun x M4 hx4 hh4 => ?_
          exact ⟨_, rfl, ⟨x, rfl, hx4⟩, hh4.mono (by omega)⟩) fun ds M3 l3 r3 hh3 => ?_
      rw [range_len] at l3 hh3
      obtain ⟨ns, rfl, hns⟩ := ints_of (R := fun x => x.natAbs ≤ 10 ^ 59) (ds := ds) fun d hd => by
        obtain ⟨i, hi, e⟩ := List.getElem_of_mem hd
        have hi2 : i < (rangeU 0 (a.2 : Int).toNat).length := by rw [range_len]; omega
        exact r3 i _ d (List.getElem?_eq_getElem hi2) (by rw [List.getElem?_eq_getElem hi, e])
      rw [List.length_map] at l3 ⊢
      refine ⟨big _ (by omega), big _ (by omega), bigl _ (by rw [List.length_map]; omega), _, atI_nat (by rw [List.getElem?_map, hgi]; rfl), ?_⟩
      push_cast [wipeR]
      refine ⟨_, atI_nat (by rw [List.getElem?_map, hp]; rfl), ?_⟩
      have ed : deedD as (sp, ns) = .tuple (.str a.1 :: ns.map .int) := by
        unfold deedD
        rw [hai]
        rfl
      have er : r.map (deedD as) ++ [PyData.tuple (.str a.1 :: ns.map .int)] = (r ++ [(sp, ns)]).map (deedD as) := by
        rw [List.map_append, List.map_cons, List.map_nil, ed]
      rw [er]
      exact ⟨r ++ [(sp, ns)], p, _, _, _, _, _, rfl, by rw [List.length_append]; simp; omega, .snoc hr hgi hp hai (by simp only; omega) hns, hh3.mono (by omega)⟩
  · intro ρ M1 hI
    rw [Nat.zero_add, range_len] at hI
    obtain ⟨r, s2, y6, y7, y8, y9, y10, rfl, lr, hr, hh1⟩ := hI
    push_cast [wipeR]
    exact q r s2 M1 (by omega) hr (hh1.mono (by omega))
end Z

namespace Z
open PySem PySem.Spec PyProof.Rows L2 Lw Pu
local macro_rules | `(tactic| push_cast [$xs,*]) => `(tactic| (try simp only [$xs,*, w_fn, w_ret, w_seq, w_sif, w_of, w_trn, w_op, w_snil, w_pass, w_retn, w_asg, w_gnm, w_gsb, w_gtp, w_gcn, w_gn0, w_par, w_aug, w_drop, w_c, w_k, w_lst, w_tup, w_and, w_or, w_not, w_neg, w_ifx, w_tand, w_tor, w_tnot, w_cb, w_ck, w_mt, w_cons, w_nil, w_var, w_chain, w_sl, w_osome, w_onone, Pu.w_rev, w_dct0, w_for, w_iseq, w_irg1, w_lc, w_lc2, List.map_cons, List.map_nil, List.cons_append, List.nil_append, List.getElem?_cons_zero, List.getElem?_cons_succ, List.length_cons, List.length_nil, Option.some.injEq, exists_eq_left', w_some, List.replicate, List.set_cons_zero, List.set_cons_succ, frz_nil, frz_dat, frz_new, frz_new0, ne_ss, list_t, mk_nil, mk1, mk2, mk3, U.dat.injEq, PyData.int.injEq, PyData.bool.injEq, PyData.str.injEq, U.cell.injEq, add_ii, sub_ii, lt_ii, le_ii, gt_ii, ge_ii, eq_ii, ne_ii, eq_tt0, ne_tt0, eq_ds, sl_t, len_t, isi_int, isi_bool, isi_str, isi_tup, abs_i, min_ii, max_ii, int_i, int_b, mod_ii, fdiv_ii, mul_ii, pow_ii, add_ss, add_tt, mul_ti, repr_d, frzU_dat, and_true, true_and, and_assoc, List.cons.injEq, exists_and_left, exists_and_right, exists_eq_left, exists_eq_right, ix_t, ix_s, sl_s, len_s, is_non, Nat.reduceAdd, Nat.reduceSub, sz0, sz1, sz2, sz3, sz4, sz5, sz6, sz7, sz8, sz9, sz10, sz11, sz12, sz13, sz14, sz15, sz16, sz17, sz18, sz19, sz20, sz21, sz22, sz23, sz24, sz25, sz26, sz27, sz28, sz29, sz30, w_vtup, w_vlst, w_vhnd, w_fzl, w_vlc, w_vlc2, w_viseq, w_vien, w_vizp, w_irg2, w_vtxt, w_vfor, w_sown, w_vapp, w_vext, w_vsb, w_vpar, w_vparf, w_vparg, w_vsl, w_star, ad_nil, ad_dat, ad_map, ad_app, Option.map_some, vadd_ii, vadd_ss, vadd_tt, vadd_ll, vmul_ii, vmul_ti, vsl_t, vsl_l, vsl_s, seq_t, seq_lv, seq_dl, lst_lv, nc_lv, nc_dat, nc_scr, len_lv, ix_lv, vlist_t, vlist_l, vlistT_t, vtup_l, vtup_t, vrepr_d, vrepr_l, vsort_l, ty_lv, wipeR, dtup_t, List.append_nil, vcat_ll, U.lv.injEq, exists_eq, exists_eq', w_vsortr, w_vsortset, dictp_l, w_dictz, w_efld, w_gfld, w_flda, w_eme, w_emk, w_eca, w_nolv, w_never, isLv_dat, isLv_cell, isLv_adr, Pu.tupK_d, ixg_t, ixg_d, w_orU, w_gtpl, tr_lv, w_vparn, setNs_cons, setNs_nil]))
theorem vlc_mapX {α : Type} {g : MG} {e : ME} {ρ : Pu.Env} {M : Mem} (i : α → U) (f : α → PyData) : ∀ (xs : List α), (∀ x ∈ xs, W (g (i x) ρ M) fun ρ1 M1 => W (e ρ1 M1) fun y M2 => y = .dat (f x) ∧ M2 = M) → vlcM g tYesM e ρ (xs.map i) M = some (xs.map f, M)
  | [], _ => rfl
  | x :: xs, h => by
    obtain ⟨ρ1, M1, e1, y, M2, e2, rfl, rfl⟩ := h x (List.mem_cons_self ..)
    rw [List.map_cons]
    unfold vlcM
    rw [e1]
    simp only [tYesM]
    rw [e2]
    simp only
    rw [vlc_mapX i f xs fun y hy => h y (List.mem_cons_of_mem _ hy)]
    rfl
/-! ### a word, read as a number -/
def digP (c : Nat) : Bool := decide (48 ≤ c) && decide (c ≤ 57)
theorem fig_S : (Str.ofString "0123456789") = SX.S [48, 49, 50, 51, 52, 53, 54, 55, 56, 57] := by rfl
theorem in_fig {c : Nat} {M : Mem} (b : Bool) : inU b (.dat (.str ⟨#[c]⟩)) (.dat (.str (Str.ofString "0123456789"))) M = some (.dat (.bool (if b = true then !digP c else digP c)), M) := by
  have h1 : inK b (.dat (.str ⟨#[c]⟩)) (.dat (.str (Str.ofString "0123456789"))) M = none := rfl
  have h2 : inFl b (.dat (.str ⟨#[c]⟩)) (.dat (.str (Str.ofString "0123456789"))) M = none := rfl
  have h3 : inD b (.dat (.str ⟨#[c]⟩)) (.dat (.str (Str.ofString "0123456789"))) M = none := rfl
  have e : (!(Builtin.Str.occurrences (Str.ofString "0123456789") ⟨#[c]⟩ 0 (Str.ofString "0123456789").length 1).isEmpty) = digP c := by
    rw [fig_S]
    refine (SX.in_one _ c).trans ?_
    unfold digP
    by_cases h : 48 ≤ c ∧ c ≤ 57
    · have : c ∈ [48, 49, 50, 51, 52, 53, 54, 55, 56, 57] := by simp; omega
      simp only [this, h.1, h.2, decide_true, Bool.and_self]
    · have : ¬ c ∈ [48, 49, 50, 51, 52, 53, 54, 55, 56, 57] := by simp; omega
      have h' : (decide (48 ≤ c) && decide (c ≤ 57)) = false := by
        rw [Bool.and_eq_false_iff]
        simp only [decide_eq_false_iff_not]
        omega
      simp only [this, decide_false, h']
  unfold inU orF
  simp only [h1, h2, h3]
  unfold inS
  simp only [e]
def rn (w : Str) : Option Nat := if (1 ≤ w.length ∧ w.length ≤ 70) ∧ w.cps.toList.all digP = true then (if 1 < w.length ∧ w.cps.toList.head? = some 48 then none else some (NumText.digitsVal w.cps.toList)) else none
def oI : Option Nat → PyData
  | none => .none
  | some n => .int (n : Int)
theorem signs_eq (w : Str) : signsOf w = w.cps.toList.map fun c => U.dat (.str ⟨#[c]⟩) := rfl
theorem len_list (w : Str) : w.cps.toList.length = w.length := by simp [PySem.Str.length]
theorem strIs0 {c : Nat} : strIs (Str.ofString "0") (PyData.str ⟨#[c]⟩) = decide (c = 48) := by
  by_cases h : c = 48
  · subst h
    rfl
  · rw [decide_eq_false h]
    show decide (Str.ofString "0" = (⟨#[c]⟩ : Str)) = false
    refine decide_eq_false fun z => h ?_
    have z2 : (Str.ofString "0").cps.toList = [c] := by rw [z]
    have z3 : (Str.ofString "0").cps.toList = [48] := rfl
    rw [z3] at z2
    exact (List.cons.inj z2).1.symm
theorem int_dig {w : Str} {M : Mem} (h1 : 1 ≤ w.length) (h2 : w.length ≤ 70) (hd : w.cps.toList.all digP = true) : intSF [.dat (.str w)] M = some (.dat (.int (NumText.digitsVal w.cps.toList : Nat)), M) := by
  have e : PySem.intText? w = some ((NumText.digitsVal w.cps.toList : Nat) : Int) := intText_digits (fun c hc => by
    have z : (decide (48 ≤ c) && decide (c ≤ 57)) = true := List.all_eq_true.mp hd c hc
    rw [Bool.and_eq_true, decide_eq_true_eq, decide_eq_true_eq] at z
    exact z) (fun z => by
      have := len_list w
      rw [z] at this
      simp at this
      omega) (by omega)
  unfold intSF
  simp only [e]
  rw [if_pos (by omega)]
theorem read_number_spec {w : Str} {M : Mem} {Q : U → Mem → Prop} (hw : w.length ≤ 20001) (q : Q (.dat (oI (rn w))) M) : W (v_read_number [.dat (.str w)] M) Q := by
  have hz : w.length ≤ sizeLine := by rw [sizeLine_eq]; omega
  unfold v_read_number
  push_cast [wipeR]
  refine ⟨hz, ?_⟩
  by_cases h1 : 1 ≤ w.length
  · rw [show decide ((1 : Int) ≤ (w.length : Int)) = true from by simp; omega]
    simp only
    by_cases h2 : w.length ≤ 70
    · rw [show decide ((w.length : Int) ≤ 70) = true from by simp; omega]
      simp only [Bool.not_true]
      rw [signs_eq, vlc_mapX (fun c => U.dat (.str ⟨#[c]⟩)) (fun c => .bool (digP c)) w.cps.toList (fun c hc => by
        push_cast [wipeR]
        rw [in_fig]
        push_cast [wipeR]
        rfl)]
      rw [w_some]
      refine ⟨by rw [List.length_map, len_list]; exact hz, ?_⟩
      rw [show (w.cps.toList.map fun c => PyData.bool (digP c)) = (w.cps.toList.map digP).map PyData.bool by rw [List.map_map]; rfl, all_lv, w_some]
      have ea : (w.cps.toList.map digP).all id = w.cps.toList.all digP := by rw [List.all_map]; rfl
      rw [ea]
      refine ⟨_, rfl, ?_⟩
      cases hd : w.cps.toList.all digP with
      | false =>
        simp only [Bool.not_false]
        have e : rn w = none := if_neg (fun z => by rw [hd] at z; exact absurd z.2 (by decide))
        rw [e] at q
        exact q
      | true =>
        simp only [Bool.not_true]
        refine ⟨hz, ?_⟩
        have e0 : rn w = if 1 < w.length ∧ w.cps.toList.head? = some 48 then none else some (NumText.digitsVal w.cps.toList) := if_pos ⟨⟨h1, h2⟩, hd⟩
        have fin : ¬ (1 < w.length ∧ w.cps.toList.head? = some 48) → W (intSF [.dat (.str w)] M) fun u M1 => Q u M1 := fun z => by
          rw [int_dig h1 h2 hd, w_some]
          rw [e0, if_neg z] at q
          exact q
        by_cases h3 : 1 < w.length
        · rw [show decide ((1 : Int) < (w.length : Int)) = true from by simp; omega]
          simp only
          refine ⟨hz, ?_⟩
          cases hl : w.cps.toList with
          | nil =>
            have := len_list w
            rw [hl] at this
            simp at this
            omega
          | cons c cs =>
            refine ⟨c, atI_nat (j := 0) rfl, ?_⟩
            rw [strIs0]
            by_cases h4 : c = 48
            · subst h4
              simp only [decide_true]
              rw [e0, if_pos ⟨h3, by rw [hl]; rfl⟩] at q
              exact q
            · rw [decide_eq_false h4]
              exact fin fun z => h4 (by rw [hl] at z; exact Option.some.inj z.2)
        · rw [show decide ((1 : Int) < (w.length : Int)) = false from by simp; omega]
          exact fin fun z => h3 z.1
    · rw [show decide ((w.length : Int) ≤ 70) = false from by simp; omega]
      simp only [Bool.not_false]
      have e : rn w = none := if_neg (fun z => h2 z.1.2)
      rw [e] at q
      exact q
  · rw [show decide ((1 : Int) ≤ (w.length : Int)) = false from by simp; omega]
    simp only [Bool.not_false]
    have e : rn w = none := if_neg (fun z => h1 z.1.1)
    rw [e] at q
    exact q
theorem vlc_filterX {α : Type} {g : MG} {c : MT} {e : ME} {ρ : Pu.Env} {M : Mem} (i : α → U) (p : α → Bool) (f : α → PyData) : ∀ (xs : List α), (∀ x ∈ xs, W (g (i x) ρ M) fun ρ1 M1 => W (c ρ1 M1) fun b M2 => b = p x ∧ M2 = M ∧ (b = true → W (e ρ1 M2) fun y M3 => y = .dat (f x) ∧ M3 = M)) → vlcM g c e ρ (xs.map i) M = some ((xs.filter p).map f, M)
  | [], _ => rfl
  | x :: xs, h => by
    obtain ⟨ρ1, M1, e1, b, M2, e2, rfl, rfl, e3⟩ := h x (List.mem_cons_self ..)
    have ih := vlc_filterX i p f xs fun y hy => h y (List.mem_cons_of_mem _ hy)
    rw [List.map_cons]
    unfold vlcM
    rw [e1]
    simp only
    rw [e2]
    cases hp : p x with
    | true =>
      obtain ⟨y, M3, e4, rfl, rfl⟩ := e3 hp
      simp only
      rw [e4]
      simp only
      rw [ih, List.filter_cons_of_pos hp]
      rfl
    | false =>
      simp only
      rw [ih, List.filter_cons_of_neg (by rw [hp]; exact Bool.false_ne_true)]
def Asc (w : Str) : Prop := ∀ c ∈ w.cps.toList, c < 128
theorem Asc.ok {w : Str} (h : Asc w) : PyData.strOk w = true := by
  unfold PyData.strOk
  rw [← Array.all_toList]
  exact List.all_eq_true.mpr fun c hc => decide_eq_true (Nat.lt_trans (h c hc) (by decide))
theorem shaped_strs {ws : List Str} (h : ∀ w ∈ ws, Asc w) : SeqAt.shaped (.list (ws.map .str)) = true :=
  (Shp.lst (n := 1) fun d hd => by
    obtain ⟨w, hw, rfl⟩ := List.mem_map.mp hd
    exact Shp.str (h w hw).ok).ok (by decide)
theorem ne_strs {ws : List Str} {M : Mem} (h : ∀ w ∈ ws, Asc w) : neU (.lv (ws.map .str)) (.lv []) M = some (.dat (.bool (!decide (ws = []))), M) := by
  rw [ne_lvv (shaped_strs h) (by decide)]
  cases ws <;> rfl
theorem idx_fig {c : Nat} (h : digP c = true) : Txt.index0 (Str.ofString "0123456789") ⟨#[c]⟩ = some (c - 48) := by
  unfold digP at h
  rw [Bool.and_eq_true, decide_eq_true_eq, decide_eq_true_eq] at h
  have a : ∀ k : Fin 10, Txt.index0 (Str.ofString "0123456789") ⟨#[48 + k.val]⟩ = some k.val := by decide +kernel
  have b := a ⟨c - 48, by omega⟩
  simp only [show 48 + (c - 48) = c by omega] at b
  exact b
theorem dig_bound : ∀ (cs : List Nat) (a : Nat), cs.all digP = true → cs.foldl (fun acc c => acc * 10 + (c - 48)) a < (a + 1) * 10 ^ cs.length
  | [], a, _ => by simp
  | c :: cs, a, h => by
    rw [List.all_cons, Bool.and_eq_true] at h
    have hc : c ≤ 57 := by
      have := h.1
      unfold digP at this
      rw [Bool.and_eq_true, decide_eq_true_eq, decide_eq_true_eq] at this
      exact this.2
    have ih := dig_bound cs (a * 10 + (c - 48)) h.2
    rw [List.foldl_cons, List.length_cons, Nat.pow_succ]
    refine Nat.lt_of_lt_of_le ih ?_
    rw [Nat.mul_comm (10 ^ cs.length) 10, ← Nat.mul_assoc]
    exact Nat.mul_le_mul_right _ (by omega)
theorem val_bound {cs : List Nat} (h : cs.all digP = true) (hl : cs.length ≤ 70) : NumText.digitsVal cs < 10 ^ 70 := by
  have := dig_bound cs 0 h
  unfold NumText.digitsVal
  refine Nat.lt_of_lt_of_le this ?_
  rw [Nat.zero_add, Nat.one_mul]
  exact Nat.pow_le_pow_right (by decide) hl
theorem log_val {n : Nat} (h : n < 10 ^ 70) : n.log2 < 300 := by
  by_cases z : n = 0
  · subst z
    decide
  · rw [Nat.log2_lt z]
    exact Nat.lt_trans h (by decide)
theorem numL_good {cs : List Nat} (h : cs.all digP = true) (h1 : 1 ≤ cs.length) (h2 : ¬ (1 < cs.length ∧ cs.head? = some 48)) : TL.numL (NumText.digitsVal cs) = cs := by
  have ad : NumText.AllDigits cs := fun c hc => by
    have := List.all_eq_true.mp h c hc
    unfold digP at this
    rw [Bool.and_eq_true, decide_eq_true_eq, decide_eq_true_eq] at this
    exact this
  have e := NumText.toDigits_digitsVal (cs.length - 1) cs (by omega) ad (by
    by_cases z : cs.length = 1
    · exact .inl (by omega)
    · refine .inr ?_
      match cs, h1, h2, ad with
      | [], h1, _, _ => simp at h1
      | c :: r, _, h2, ad =>
        refine ⟨c, r, rfl, ?_⟩
        have := ad c List.mem_cons_self
        have nc : c ≠ 48 := fun q => h2 ⟨by simp at z ⊢; cases r <;> simp_all, by rw [q]; rfl⟩
        omega)
  unfold TL.numL
  rw [e, List.map_map]
  refine (List.map_congr_left fun c hc => ?_).trans (List.map_id _)
  have b := (ad c hc).2
  show (Char.ofNat c).toNat = c
  have a : ∀ k : Fin 128, (Char.ofNat k.val).toNat = k.val := by decide
  exact a ⟨c, by omega⟩
theorem numL_bad {cs : List Nat} (h : cs.all digP = true) (h1 : 1 < cs.length) (h2 : cs.head? = some 48) : TL.numL (NumText.digitsVal cs) ≠ cs := fun z => by
  match cs, h1, h2, h with
  | [], h1, _, _ => simp at h1
  | c :: r, h1, h2, h =>
    cases h2
    rw [List.all_cons, Bool.and_eq_true] at h
    have hr : 0 < r.length := by simpa using h1
    have b := dig_bound r 0 h.2
    rw [Nat.zero_add, Nat.one_mul] at b
    have l := TL.numL_len hr (n := NumText.digitsVal (48 :: r)) (by rw [NumText.digitsVal_zero]; exact b)
    rw [z] at l
    simp at l
    omega
theorem strIs_num {w : Str} {n : Nat} : strIs w (PyData.str (Str.ofString (toString ((n : Nat) : Int)))) = decide (TL.numL n = w.cps.toList) := by
  have e : (Str.ofString (toString ((n : Nat) : Int))).cps.toList = TL.numL n := TL.tl_num n
  show decide (w = Str.ofString (toString ((n : Nat) : Int))) = _
  by_cases z : TL.numL n = w.cps.toList
  · rw [decide_eq_true z]
    refine decide_eq_true (TL.ext_tl ?_)
    show w.cps.toList = (Str.ofString (toString ((n : Nat) : Int))).cps.toList
    rw [e, z]
  · rw [decide_eq_false z]
    exact decide_eq_false fun q => z (by rw [← e, ← q])
def FgI (w : Str) (M0 : Mem) (k : Nat) (ρ : Pu.Env) (M : Mem) : Prop := M = M0 ∧ ∃ y, ρ = [some (.dat (.str w)), y, some (.dat (.int (NumText.digitsVal (w.cps.toList.take k) : Nat)))]
theorem figures_spec {w : Str} {M : Mem} {Q : U → Mem → Prop} (ha : Asc w) (hw : w.length ≤ 20001) (q : Q (.dat (oI (rn w))) M) : W (v__law_figures [.dat (.str w)] M) Q := by
  have hz : w.length ≤ sizeLine := by rw [sizeLine_eq]; omega
  unfold v__law_figures
  push_cast [wipeR]
  refine ⟨hz, ?_⟩
  have no : ∀ {P : Prop}, ¬ (1 ≤ w.length ∧ w.length ≤ 70) → Q (.dat .none) M := fun z => by
    have e : rn w = none := if_neg (fun y => z y.1)
    rw [e] at q
    exact q
  by_cases h1 : 1 ≤ w.length
  · rw [show decide ((0 : Int) < (w.length : Int)) = true from by simp; omega]
    simp only
    by_cases h2 : w.length ≤ 70
    · rw [show decide ((w.length : Int) < 71) = true from by simp; omega]
      simp only [Bool.not_true]
      rw [signs_eq, vlc_filterX (fun c => U.dat (.str ⟨#[c]⟩)) (fun c => !digP c) (fun c => PyData.str ⟨#[c]⟩) w.cps.toList (fun c hc => by
        push_cast [wipeR]
        rw [in_fig]
        push_cast [wipeR]
        exact ⟨rfl, fun _ => trivial⟩), w_some]
      refine ⟨by rw [List.length_map]; exact Nat.le_trans (List.length_filter_le _ _) (by rw [len_list]; exact hz), ?_⟩
      rw [show ((w.cps.toList.filter fun c => !digP c).map fun c => PyData.str ⟨#[c]⟩) = ((w.cps.toList.filter fun c => !digP c).map fun c => (⟨#[c]⟩ : Str)).map PyData.str by rw [List.map_map]; rfl, ne_strs (fun z hz' => by
        obtain ⟨c, hc, rfl⟩ := List.mem_map.mp hz'
        intro d hd
        have : d = c := by simpa using hd
        subst this
        exact ha d (List.mem_filter.mp hc).1), w_some]
      refine ⟨_, rfl, ?_⟩
      have ef : decide (((w.cps.toList.filter fun c => !digP c).map fun c => (⟨#[c]⟩ : Str)) = []) = w.cps.toList.all digP := by
        rw [Bool.eq_iff_iff, decide_eq_true_iff, List.map_eq_nil_iff, List.filter_eq_nil_iff, List.all_eq_true]
        simp
      rw [ef]
      cases hd : w.cps.toList.all digP with
      | false =>
        simp only [Bool.not_false]
        have e : rn w = none := if_neg (fun z => by rw [hd] at z; exact absurd z.2 (by decide))
        rw [e] at q
        exact q
      | true =>
        simp only [Bool.not_true]
        refine for_inv (FgI w M) _ 0 _ _ ⟨rfl, _, rfl⟩ (fun j u ρ M1 hj hI => ?_) (fun ρ M1 hI => ?_)
        · obtain ⟨rfl, y, rfl⟩ := hI
          rw [List.getElem?_map] at hj
          obtain ⟨c, hc, rfl⟩ := Option.map_eq_some_iff.mp hj
          have hcd : digP c = true := List.all_eq_true.mp hd c (List.mem_of_getElem? hc)
          have vb : NumText.digitsVal (w.cps.toList.take j) < 10 ^ 70 := val_bound (List.all_eq_true.mpr fun d hd' => List.all_eq_true.mp hd d (List.mem_of_mem_take hd')) (by rw [List.length_take, len_list]; omega)
          push_cast [wipeR]
          rw [Nat.zero_add]
          refine ⟨?_, rfl, ?_⟩
          · have a1 := log_val vb
            have a2 : (10 : Int).natAbs.log2 = 3 := by decide
            unfold CMulW
            rw [a2, Int.natAbs_natCast]
            omega
          · rw [show sindexF (U.dat (PyData.str (Str.ofString "0123456789"))) [U.dat (PyData.str ⟨#[c]⟩)] M1 = some (.dat (.int ((c - 48 : Nat) : Int)), M1) from by
              unfold sindexF
              simp only [idx_fig hcd], w_some]
            push_cast [wipeR]
            refine ⟨rfl, some (.dat (.str ⟨#[c]⟩)), ?_⟩
            have tk : w.cps.toList.take (j + 1) = w.cps.toList.take j ++ [c] := by
              rw [List.take_succ, hc]
              rfl
            rw [tk, NumText.digitsVal_snoc]
            have : (10 : Int) * (NumText.digitsVal (w.cps.toList.take j) : Nat) + ((c - 48 : Nat) : Int) = ((NumText.digitsVal (w.cps.toList.take j) * 10 + (c - 48) : Nat) : Int) := by
              rw [Int.mul_comm]
              rfl
            rw [this]
        · obtain ⟨rfl, y, rfl⟩ := hI
          have vb := val_bound hd (by rw [len_list]; exact h2)
          have e0 : w.cps.toList.take (0 + (w.cps.toList.map fun c => U.dat (PyData.str ⟨#[c]⟩)).length) = w.cps.toList := by
            rw [Nat.zero_add, List.length_map, List.take_length]
          rw [e0]
          push_cast [wipeR]
          have es : strF [.dat (.int (NumText.digitsVal w.cps.toList : Nat))] M1 = some (.dat (.str (toString ((NumText.digitsVal w.cps.toList : Nat) : Int))), M1) := by
            unfold strF
            simp only [numD]
            rw [if_pos (by rw [Int.natAbs_natCast]; have := log_val vb; omega)]
            rfl
          rw [es, w_some]
          push_cast [wipeR]
          rw [strIs_num]
          have e0 : rn w = if 1 < w.length ∧ w.cps.toList.head? = some 48 then none else some (NumText.digitsVal w.cps.toList) := if_pos ⟨⟨h1, h2⟩, hd⟩
          by_cases h4 : 1 < w.length ∧ w.cps.toList.head? = some 48
          · rw [decide_eq_false (numL_bad hd (by rw [len_list]; exact h4.1) h4.2)]
            rw [e0, if_pos h4] at q
            exact q
          · rw [decide_eq_true (numL_good hd (by rw [len_list]; exact h1) (by rw [len_list]; exact h4))]
            rw [e0, if_neg h4] at q
            exact q
    · rw [show decide ((w.length : Int) < 71) = false from by simp; omega]
      exact no (P := True) fun z => h2 z.2
  · rw [show decide ((0 : Int) < (w.length : Int)) = false from by simp; omega]
    exact no (P := True) fun z => h1 z.1
end Z

namespace Z
open PySem PySem.Spec PyProof.Rows L2 Lw Pu
local macro_rules | `(tactic| push_cast [$xs,*]) => `(tactic| (try simp only [$xs,*, w_fn, w_ret, w_seq, w_sif, w_of, w_trn, w_op, w_snil, w_pass, w_retn, w_asg, w_gnm, w_gsb, w_gtp, w_gcn, w_gn0, w_par, w_aug, w_drop, w_c, w_k, w_lst, w_tup, w_and, w_or, w_not, w_neg, w_ifx, w_tand, w_tor, w_tnot, w_cb, w_ck, w_mt, w_cons, w_nil, w_var, w_chain, w_sl, w_osome, w_onone, Pu.w_rev, w_dct0, w_for, w_iseq, w_irg1, w_lc, w_lc2, List.map_cons, List.map_nil, List.cons_append, List.nil_append, List.getElem?_cons_zero, List.getElem?_cons_succ, List.length_cons, List.length_nil, Option.some.injEq, exists_eq_left', w_some, List.replicate, List.set_cons_zero, List.set_cons_succ, frz_nil, frz_dat, frz_new, frz_new0, ne_ss, list_t, mk_nil, mk1, mk2, mk3, U.dat.injEq, PyData.int.injEq, PyData.bool.injEq, PyData.str.injEq, U.cell.injEq, add_ii, sub_ii, lt_ii, le_ii, gt_ii, ge_ii, eq_ii, ne_ii, eq_tt0, ne_tt0, eq_ds, sl_t, len_t, isi_int, isi_bool, isi_str, isi_tup, abs_i, min_ii, max_ii, int_i, int_b, mod_ii, fdiv_ii, mul_ii, pow_ii, add_ss, add_tt, mul_ti, repr_d, frzU_dat, and_true, true_and, and_assoc, List.cons.injEq, exists_and_left, exists_and_right, exists_eq_left, exists_eq_right, ix_t, ix_s, sl_s, len_s, is_non, Nat.reduceAdd, Nat.reduceSub, sz0, sz1, sz2, sz3, sz4, sz5, sz6, sz7, sz8, sz9, sz10, sz11, sz12, sz13, sz14, sz15, sz16, sz17, sz18, sz19, sz20, sz21, sz22, sz23, sz24, sz25, sz26, sz27, sz28, sz29, sz30, w_vtup, w_vlst, w_vhnd, w_fzl, w_vlc, w_vlc2, w_viseq, w_vien, w_vizp, w_irg2, w_vtxt, w_vfor, w_sown, w_vapp, w_vext, w_vsb, w_vpar, w_vparf, w_vparg, w_vsl, w_star, ad_nil, ad_dat, ad_map, ad_app, Option.map_some, vadd_ii, vadd_ss, vadd_tt, vadd_ll, vmul_ii, vmul_ti, vsl_t, vsl_l, vsl_s, seq_t, seq_lv, seq_dl, lst_lv, nc_lv, nc_dat, nc_scr, len_lv, ix_lv, vlist_t, vlist_l, vlistT_t, vtup_l, vtup_t, vrepr_d, vrepr_l, vsort_l, ty_lv, wipeR, dtup_t, List.append_nil, vcat_ll, U.lv.injEq, exists_eq, exists_eq', w_vsortr, w_vsortset, dictp_l, w_dictz, w_efld, w_gfld, w_flda, w_eme, w_emk, w_eca, w_nolv, w_never, isLv_dat, isLv_cell, isLv_adr, Pu.tupK_d, ixg_t, ixg_d, w_orU, w_gtpl, tr_lv, w_vparn, setNs_cons, setNs_nil]))
/-! ### a word with its sign -/
def minus (w : Str) : Bool := decide (w.cps.toList.head? = some 45)
def rest (w : Str) : Str := SX.S (w.cps.toList.drop 1)
def rwd (w : Str) : Option Int := if minus w = true then (match rn (rest w) with
  | some n => if n = 0 then none else some (-(n : Int))
  | none => none) else (rn w).map fun (n : Nat) => (n : Int)
def oZ : Option Int → PyData
  | none => .none
  | some n => .int n
theorem starts_minus (w : Str) : Txt.startswith w (Str.ofString "-") = minus w := by
  unfold Txt.startswith minus Builtin.Str.subAt
  obtain ⟨⟨l⟩⟩ := w
  have e1 : (Str.ofString "-").cps = #[45] := rfl
  have e2 : (Str.ofString "-").length = 1 := rfl
  rw [e1, e2]
  cases l with
  | nil => rfl
  | cons c r =>
    have e3 : (0 + 1 ≤ (⟨⟨c :: r⟩⟩ : Str).length) := by simp [PySem.Str.length]
    have e4 : (⟨c :: r⟩ : Array Nat).extract 0 (0 + 1) = #[c] := by simp
    rw [decide_eq_true e3, Bool.true_and]
    show (((⟨c :: r⟩ : Array Nat).extract 0 (0 + 1)) == #[45]) = decide (some c = some 45)
    rw [e4]
    by_cases h : c = 45
    · subst h
      rfl
    · rw [decide_eq_false (fun z => h (Option.some.inj z))]
      simpa using h
theorem cut_rest (w : Str) : cutS w (some 1) none = rest w := by
  refine TL.ext_tl ?_
  obtain ⟨⟨l⟩⟩ := w
  show (cutS ⟨⟨l⟩⟩ (some 1) none).cps.toList = l.drop 1
  unfold cutS HT.sIx
  cases l with
  | nil => rfl
  | cons c r => simp [PySem.Str.length]
theorem cut_first (w : Str) : cutS w none (some 1) = SX.S (w.cps.toList.take 1) := by
  refine TL.ext_tl ?_
  obtain ⟨⟨l⟩⟩ := w
  show (cutS ⟨⟨l⟩⟩ none (some 1)).cps.toList = l.take 1
  unfold cutS HT.sIx
  cases l with
  | nil => rfl
  | cons c r => simp [PySem.Str.length]
theorem len_rest (w : Str) : (rest w).length ≤ w.length := by
  unfold rest
  rw [SX.S_len, List.length_drop, len_list]
  omega
theorem read_whole_spec {w : Str} {M : Mem} {Q : U → Mem → Prop} (hw : w.length ≤ 20001) (q : Q (.dat (oZ (rwd w))) M) : W (v_read_whole [.dat (.str w)] M) Q := by
  have hz : w.length ≤ sizeLine := by rw [sizeLine_eq]; omega
  unfold v_read_whole
  push_cast [wipeR]
  refine ⟨rfl, ?_⟩
  rw [show startsF (U.dat (PyData.str w)) [U.dat (PyData.str (Str.ofString "-"))] M = some (.dat (.bool (minus w)), M) from by
    show some (U.dat (PyData.bool (Txt.startswith w (Str.ofString "-"))), M) = _
    rw [starts_minus], w_some]
  refine ⟨minus w, rfl, ?_⟩
  cases hm : minus w with
  | false =>
    simp only [Bool.not_false]
    refine read_number_spec hw ?_
    have e : oZ (rwd w) = oI (rn w) := by
      unfold rwd
      rw [hm, if_neg (by decide)]
      cases rn w <;> rfl
    rw [e] at q
    exact q
  | true =>
    simp only [Bool.not_true]
    refine ⟨hz, ?_⟩
    rw [cut_rest]
    refine read_number_spec (Nat.le_trans (len_rest w) hw) ?_
    have e : rwd w = match rn (rest w) with
      | some n => if n = 0 then none else some (-(n : Int))
      | none => none := if_pos hm
    cases hr : rn (rest w) with
    | none =>
      rw [hr] at e
      rw [e] at q
      push_cast [oI]
      exact q
    | some n =>
      rw [hr] at e
      simp only at e
      rw [e] at q
      push_cast [oI]
      show (match false with
        | true => Q (U.dat PyData.none) M
        | false => _)
      simp only
      by_cases h0 : n = 0
      · rw [if_pos h0] at q
        rw [show decide ((n : Int) = 0) = true from by simp [h0]]
        exact q
      · rw [if_neg h0] at q
        rw [show decide ((n : Int) = 0) = false from by simp [h0]]
        exact q
end Z

namespace Z
open PySem PySem.Spec PyProof.Rows L2 Lw Pu
local macro_rules | `(tactic| push_cast [$xs,*]) => `(tactic| (try simp only [$xs,*, w_fn, w_ret, w_seq, w_sif, w_of, w_trn, w_op, w_snil, w_pass, w_retn, w_asg, w_gnm, w_gsb, w_gtp, w_gcn, w_gn0, w_par, w_aug, w_drop, w_c, w_k, w_lst, w_tup, w_and, w_or, w_not, w_neg, w_ifx, w_tand, w_tor, w_tnot, w_cb, w_ck, w_mt, w_cons, w_nil, w_var, w_chain, w_sl, w_osome, w_onone, Pu.w_rev, w_dct0, w_for, w_iseq, w_irg1, w_lc, w_lc2, List.map_cons, List.map_nil, List.cons_append, List.nil_append, List.getElem?_cons_zero, List.getElem?_cons_succ, List.length_cons, List.length_nil, Option.some.injEq, exists_eq_left', w_some, List.replicate, List.set_cons_zero, List.set_cons_succ, frz_nil, frz_dat, frz_new, frz_new0, ne_ss, list_t, mk_nil, mk1, mk2, mk3, U.dat.injEq, PyData.int.injEq, PyData.bool.injEq, PyData.str.injEq, U.cell.injEq, add_ii, sub_ii, lt_ii, le_ii, gt_ii, ge_ii, eq_ii, ne_ii, eq_tt0, ne_tt0, eq_ds, sl_t, len_t, isi_int, isi_bool, isi_str, isi_tup, abs_i, min_ii, max_ii, int_i, int_b, mod_ii, fdiv_ii, mul_ii, pow_ii, add_ss, add_tt, mul_ti, repr_d, frzU_dat, and_true, true_and, and_assoc, List.cons.injEq, exists_and_left, exists_and_right, exists_eq_left, exists_eq_right, ix_t, ix_s, sl_s, len_s, is_non, Nat.reduceAdd, Nat.reduceSub, sz0, sz1, sz2, sz3, sz4, sz5, sz6, sz7, sz8, sz9, sz10, sz11, sz12, sz13, sz14, sz15, sz16, sz17, sz18, sz19, sz20, sz21, sz22, sz23, sz24, sz25, sz26, sz27, sz28, sz29, sz30, w_vtup, w_vlst, w_vhnd, w_fzl, w_vlc, w_vlc2, w_viseq, w_vien, w_vizp, w_irg2, w_vtxt, w_vfor, w_sown, w_vapp, w_vext, w_vsb, w_vpar, w_vparf, w_vparg, w_vsl, w_star, ad_nil, ad_dat, ad_map, ad_app, Option.map_some, vadd_ii, vadd_ss, vadd_tt, vadd_ll, vmul_ii, vmul_ti, vsl_t, vsl_l, vsl_s, seq_t, seq_lv, seq_dl, lst_lv, nc_lv, nc_dat, nc_scr, len_lv, ix_lv, vlist_t, vlist_l, vlistT_t, vtup_l, vtup_t, vrepr_d, vrepr_l, vsort_l, ty_lv, wipeR, dtup_t, List.append_nil, vcat_ll, U.lv.injEq, exists_eq, exists_eq', w_vsortr, w_vsortset, dictp_l, w_dictz, w_efld, w_gfld, w_flda, w_eme, w_emk, w_eca, w_nolv, w_never, isLv_dat, isLv_cell, isLv_adr, Pu.tupK_d, ixg_t, ixg_d, w_orU, w_gtpl, tr_lv, w_vparn, setNs_cons, setNs_nil]))
/-! ### what a text is cut to -/
theorem spl_facts (S : List Nat) : ∀ (l : List Nat) (k : Nat) (acc : List Nat), ((TL.spl S k acc l).map List.length).sum ≤ acc.length + l.length ∧ TL.spl S k acc l ≠ [] ∧ (TL.spl S k acc l).length ≤ l.length + 1 ∧ ∀ p ∈ TL.spl S k acc l, ∀ c ∈ p, c ∈ acc ∨ c ∈ l
  | [], k, acc => by
    rw [TL.spl_nil]
    refine ⟨by simp, by simp, by simp, fun p hp c hc => ?_⟩
    rw [List.mem_singleton] at hp
    subst hp
    exact .inl hc
  | c :: r, k + 1, acc => by
    obtain ⟨h1, h2, h3, h4⟩ := spl_facts S r k acc
    have e : TL.spl S (k + 1) acc (c :: r) = TL.spl S k acc r := rfl
    rw [e]
    refine ⟨by rw [List.length_cons]; omega, h2, by rw [List.length_cons]; omega, fun p hp d hd => (h4 p hp d hd).imp id (List.mem_cons_of_mem _)⟩
  | c :: r, 0, acc => by
    by_cases h : TL.pre S (c :: r) = true
    · rw [TL.spl_hit h]
      obtain ⟨h1, h2, h3, h4⟩ := spl_facts S r (S.length - 1) []
      refine ⟨?_, by simp, ?_, fun p hp d hd => ?_⟩
      · rw [List.map_cons, List.sum_cons, List.length_cons]
        simp only [List.length_nil] at h1
        omega
      · rw [List.length_cons, List.length_cons]
        omega
      · rcases List.mem_cons.mp hp with rfl | hp
        · exact .inl hd
        · rcases h4 p hp d hd with z | z
          · cases z
          · exact .inr (List.mem_cons_of_mem _ z)
    · rw [TL.spl_miss (by simpa using h)]
      obtain ⟨h1, h2, h3, h4⟩ := spl_facts S r 0 (acc ++ [c])
      refine ⟨?_, h2, by rw [List.length_cons]; omega, fun p hp d hd => ?_⟩
      · rw [List.length_append] at h1
        simp only [List.length_cons, List.length_nil] at h1 ⊢
        omega
      · rcases h4 p hp d hd with z | z
        · rcases List.mem_append.mp z with z | z
          · exact .inl z
          · rw [List.mem_singleton] at z
            exact .inr (z ▸ List.mem_cons_self)
        · exact .inr (List.mem_cons_of_mem _ z)
theorem S_list (w : Str) : SX.S w.cps.toList = w := TL.ext_tl rfl
theorem S_len' (l : List Nat) : (SX.S l).length = l.length := SX.S_len l
theorem mem_len_sum {x : Nat} : ∀ {l : List Nat}, x ∈ l → x ≤ l.sum
  | y :: l, h => by
    rw [List.sum_cons]
    rcases List.mem_cons.mp h with rfl | h
    · omega
    · have := mem_len_sum h
      omega
theorem split_facts {w b : Str} (hb : b.cps.toList ≠ []) (hk : b.cps.toList.all (· < 256) = true) : ∃ (x : Str) (xs : List Str), Txt.split w b = x :: xs ∧ (∀ p ∈ x :: xs, (Asc w → Asc p) ∧ p.length ≤ w.length) ∧ ((x :: xs).map (·.length)).sum ≤ w.length ∧ xs.length ≤ w.length := by
  have e : Txt.split w b = (TL.spl b.cps.toList 0 [] w.cps.toList).map SX.S := by
    have := SX.split_S (a := w.cps.toList) hb hk
    rw [S_list, S_list] at this
    exact this
  obtain ⟨h1, h2, h3, h4⟩ := spl_facts b.cps.toList w.cps.toList 0 []
  rw [len_list, List.length_nil, Nat.zero_add] at h1
  rw [len_list] at h3
  have hs : ((TL.spl b.cps.toList 0 [] w.cps.toList).map SX.S).map (·.length) = (TL.spl b.cps.toList 0 [] w.cps.toList).map List.length := by
    rw [List.map_map]
    exact List.map_congr_left fun p _ => S_len' p
  cases hl : (TL.spl b.cps.toList 0 [] w.cps.toList) with
  | nil => exact absurd hl h2
  | cons p ps =>
    refine ⟨SX.S p, ps.map SX.S, by rw [e, hl]; rfl, fun q hq => ?_, ?_, ?_⟩
    · rw [← List.map_cons, ← hl] at hq
      obtain ⟨z, hz, rfl⟩ := List.mem_map.mp hq
      refine ⟨fun ha c hc => ?_, ?_⟩
      · rcases h4 z hz c hc with y | y
        · cases y
        · exact ha c y
      · rw [S_len']
        exact Nat.le_trans (mem_len_sum (List.mem_map_of_mem hz)) h1
    · rw [← List.map_cons, ← hl, hs]
      exact h1
    · rw [hl, List.length_cons] at h3
      rw [List.length_map]
      omega
/-! ### None among numbers, a name and a count among the deeds -/
def vZ : Option Int → V
  | none => .non
  | some i => .int i
theorem allFl_oZ : ∀ zs : List (Option Int), allFl ((zs.map oZ).map .dat) = some (zs.map vZ)
  | [] => rfl
  | z :: zs => by
    have ih := allFl_oZ zs
    cases z with
    | none =>
      show (match inK.D2V .none, allFl ((zs.map oZ).map .dat) with
        | some v, some vs => some (v :: vs)
        | _, _ => none) = _
      rw [ih]
      rfl
    | some i =>
      show (match inK.D2V (.int i), allFl ((zs.map oZ).map .dat) with
        | some v, some vs => some (v :: vs)
        | _, _ => none) = _
      rw [ih]
      rfl
theorem inV_non : ∀ zs : List (Option Int), inV .non (zs.map vZ) = decide (none ∈ zs)
  | [] => rfl
  | z :: zs => by
    have ih := inV_non zs
    cases z with
    | none =>
      show (true || inV .non (zs.map vZ)) = _
      simp
    | some i =>
      show (false || inV .non (zs.map vZ)) = _
      rw [ih, Bool.false_or]
      simp
theorem in_none {zs : List (Option Int)} {M : Mem} : inU false (.dat .none) (.lv (zs.map oZ)) M = some (.dat (.bool (decide (none ∈ zs))), M) := by
  have h1 : inK false (.dat .none) (.lv (zs.map oZ)) M = none := rfl
  have h2 : inFl false (.dat .none) (.lv (zs.map oZ)) M = some (.dat (.bool (decide (none ∈ zs))), M) := by
    unfold inFl
    have e : (seqOf M (.lv (zs.map oZ))).bind allFl = some (zs.map vZ) := allFl_oZ zs
    simp only [e, inK.D2V, inV_non, Bool.false_eq_true, if_false]
  unfold inU orF
  simp only [h1, h2]
theorem eqv_act {a b : Str} {i j : Int} : PyData.eqv (.tuple [.str a, .int i]) (.tuple [.str b, .int j]) = (decide (a = b) && decide (i = j)) := by
  show ((a == b) && ((i == j) && true)) = _
  rw [Bool.and_true]
  congr 1
  all_goals
    rw [Bool.eq_iff_iff]
    simp
theorem lay_all : ∀ {ds : List PyData}, (∀ d ∈ ds, d.canLay0 = true) → PyData.canLayAll0 ds = true
  | [], _ => rfl
  | d :: ds, h => by
    rw [PyData.canLayAll0, h d List.mem_cons_self, lay_all fun x hx => h x (List.mem_cons_of_mem _ hx)]
    rfl
theorem in_acts {as : List (Str × Nat)} {name : Str} {k : Nat} {M : Mem} (ha : ∀ a ∈ as, Asc a.1) (hn : Asc name) : inU true (.dat (.tuple [.str name, .int (k : Int)])) (.dat (.tuple (actsD as))) M = some (.dat (.bool (!decide ((name, k) ∈ as))), M) := by
  have h1 : inK true (.dat (.tuple [.str name, .int (k : Int)])) (.dat (.tuple (actsD as))) M = none := rfl
  have h2 : inFl true (.dat (.tuple [.str name, .int (k : Int)])) (.dat (.tuple (actsD as))) M = none := rfl
  have h3 : inD true (.dat (.tuple [.str name, .int (k : Int)])) (.dat (.tuple (actsD as))) M = some (.dat (.bool (!decide ((name, k) ∈ as))), M) := by
    have s1 : SeqAt.shaped (.tuple [.str name, .int (k : Int)]) = true := (Shp.tup (n := 1) fun d hd => by
      simp only [List.mem_cons, List.not_mem_nil, or_false] at hd
      rcases hd with rfl | rfl
      · exact Shp.str hn.ok
      · exact Shp.int).ok (by decide)
    have s2 : PyData.canLayAll0 (actsD as) = true := lay_all fun d hd => by
      obtain ⟨a, h, rfl⟩ := List.mem_map.mp hd
      have z : Shp 2 (.tuple [.str a.1, .int (a.2 : Int)]) := Shp.tup (n := 1) fun d hd => by
        simp only [List.mem_cons, List.not_mem_nil, or_false] at hd
        rcases hd with rfl | rfl
        · exact Shp.str (ha a h).ok
        · exact Shp.int
      exact z.1
    have e : ((actsD as).any fun z => PyData.eqv z (.tuple [.str name, .int (k : Int)])) = decide ((name, k) ∈ as) := by
      rw [Bool.eq_iff_iff, List.any_eq_true, decide_eq_true_iff]
      constructor
      · rintro ⟨d, hd, h⟩
        obtain ⟨a, h', rfl⟩ := List.mem_map.mp hd
        rw [eqv_act, Bool.and_eq_true, decide_eq_true_iff, decide_eq_true_iff] at h
        obtain ⟨q1, q2⟩ := h
        have q3 : a.2 = k := by omega
        have : a = (name, k) := Prod.ext q1 q3
        rw [← this]
        exact h'
      · intro h
        refine ⟨_, List.mem_map_of_mem h, ?_⟩
        rw [eqv_act]
        simp
    show (if _ then _ else _) = _
    rw [if_pos ⟨s1, s2⟩, e]
    rfl
  unfold inU orF
  simp only [h1, h2, h3]
/-! ### a part, read as a deed -/
def rd (as : List (Str × Nat)) (row : Str) : PyData := match Txt.split row (Str.ofString " ") with
  | [] => .none
  | name :: ws => if none ∈ ws.map rwd ∨ (name, ws.length) ∉ as then .none else .tuple (.str name :: (ws.map rwd).map oZ)
theorem split_run {w b : Str} {M : Mem} (hb : b.length ≠ 0) (hw : w.length ≤ 200000) : vsplitF (.dat (.str w)) [.dat (.str b)] M = some (.lv ((Txt.split w b).map PyData.str), M) := by
  show (if _ then _ else _) = _
  rw [if_pos ⟨hb, by rw [sizeLine_eq]; omega⟩]
theorem sp_split (w : Str) : ∃ (x : Str) (xs : List Str), Txt.split w (Str.ofString " ") = x :: xs ∧ (∀ p ∈ x :: xs, (Asc w → Asc p) ∧ p.length ≤ w.length) ∧ ((x :: xs).map (·.length)).sum ≤ w.length ∧ xs.length ≤ w.length := split_facts (by decide) (by decide)
theorem cm_split (w : Str) : ∃ (x : Str) (xs : List Str), Txt.split w (Str.ofString ", ") = x :: xs ∧ (∀ p ∈ x :: xs, (Asc w → Asc p) ∧ p.length ≤ w.length) ∧ ((x :: xs).map (·.length)).sum ≤ w.length ∧ xs.length ≤ w.length := split_facts (by decide) (by decide)
theorem read_deed_spec {as : List (Str × Nat)} {row : Str} {M : Mem} {Q : U → Mem → Prop} (ha : ∀ a ∈ as, Asc a.1) (hr : Asc row) (hw : row.length ≤ 20001) (q : Q (.dat (rd as row)) M) : W (v_read_deed [.dat (.tuple (actsD as)), .dat (.str row)] M) Q := by
  obtain ⟨name, ws, e, hf, hs, hl⟩ := sp_split row
  have e2 : rd as row = if none ∈ ws.map rwd ∨ (name, ws.length) ∉ as then .none else .tuple (.str name :: (ws.map rwd).map oZ) := by
    unfold rd
    rw [e]
  unfold v_read_deed
  push_cast [w_starL]
  refine ⟨rfl, ?_⟩
  rw [split_run (by decide) (by omega), w_some, e]
  refine ⟨.str name, ws.map .str, by
    show (some (((name :: ws).map PyData.str).map U.dat)).bind allDat = _
    exact allDat_map _, ?_⟩
  rw [List.map_map, show (U.dat ∘ PyData.str) = (fun z : Str => U.dat (.str z)) from rfl, vlc_mapX (fun z : Str => U.dat (.str z)) (fun z => oZ (rwd z)) ws (fun z hz => by
    push_cast [wipeR]
    exact read_whole_spec (Nat.le_trans (hf z (List.mem_cons_of_mem _ hz)).2 hw) ⟨rfl, rfl⟩), w_some]
  refine ⟨by rw [List.length_map, sizeLine_eq]; omega, ?_⟩
  rw [show (ws.map fun z => oZ (rwd z)) = (ws.map rwd).map oZ by rw [List.map_map]; rfl, in_none, w_some]
  refine ⟨_, rfl, ?_⟩
  by_cases h1 : none ∈ ws.map rwd
  · rw [decide_eq_true h1]
    rw [e2, if_pos (.inl h1)] at q
    exact q
  · rw [decide_eq_false h1]
    simp only
    rw [List.length_map, List.length_map, in_acts ha ((hf name List.mem_cons_self).1 hr), w_some]
    refine ⟨_, rfl, ?_⟩
    by_cases h2 : (name, ws.length) ∈ as
    · rw [decide_eq_true h2]
      simp only [Bool.not_true]
      rw [e2, if_neg (fun z => z.elim h1 fun y => y h2)] at q
      exact ⟨by rw [sizeLine_eq]; omega, q⟩
    · rw [decide_eq_false h2]
      simp only [Bool.not_false]
      rw [e2, if_pos (.inr h2)] at q
      exact q
end Z

namespace Z
open PySem PySem.Spec PyProof.Rows L2 Lw Pu
local macro_rules | `(tactic| push_cast [$xs,*]) => `(tactic| (try simp only [$xs,*, w_fn, w_ret, w_seq, w_sif, w_of, w_trn, w_op, w_snil, w_pass, w_retn, w_asg, w_gnm, w_gsb, w_gtp, w_gcn, w_gn0, w_par, w_aug, w_drop, w_c, w_k, w_lst, w_tup, w_and, w_or, w_not, w_neg, w_ifx, w_tand, w_tor, w_tnot, w_cb, w_ck, w_mt, w_cons, w_nil, w_var, w_chain, w_sl, w_osome, w_onone, Pu.w_rev, w_dct0, w_for, w_iseq, w_irg1, w_lc, w_lc2, List.map_cons, List.map_nil, List.cons_append, List.nil_append, List.getElem?_cons_zero, List.getElem?_cons_succ, List.length_cons, List.length_nil, Option.some.injEq, exists_eq_left', w_some, List.replicate, List.set_cons_zero, List.set_cons_succ, frz_nil, frz_dat, frz_new, frz_new0, ne_ss, list_t, mk_nil, mk1, mk2, mk3, U.dat.injEq, PyData.int.injEq, PyData.bool.injEq, PyData.str.injEq, U.cell.injEq, add_ii, sub_ii, lt_ii, le_ii, gt_ii, ge_ii, eq_ii, ne_ii, eq_tt0, ne_tt0, eq_ds, sl_t, len_t, isi_int, isi_bool, isi_str, isi_tup, abs_i, min_ii, max_ii, int_i, int_b, mod_ii, fdiv_ii, mul_ii, pow_ii, add_ss, add_tt, mul_ti, repr_d, frzU_dat, and_true, true_and, and_assoc, List.cons.injEq, exists_and_left, exists_and_right, exists_eq_left, exists_eq_right, ix_t, ix_s, sl_s, len_s, is_non, Nat.reduceAdd, Nat.reduceSub, sz0, sz1, sz2, sz3, sz4, sz5, sz6, sz7, sz8, sz9, sz10, sz11, sz12, sz13, sz14, sz15, sz16, sz17, sz18, sz19, sz20, sz21, sz22, sz23, sz24, sz25, sz26, sz27, sz28, sz29, sz30, w_vtup, w_vlst, w_vhnd, w_fzl, w_vlc, w_vlc2, w_viseq, w_vien, w_vizp, w_irg2, w_vtxt, w_vfor, w_sown, w_vapp, w_vext, w_vsb, w_vpar, w_vparf, w_vparg, w_vsl, w_star, ad_nil, ad_dat, ad_map, ad_app, Option.map_some, vadd_ii, vadd_ss, vadd_tt, vadd_ll, vmul_ii, vmul_ti, vsl_t, vsl_l, vsl_s, seq_t, seq_lv, seq_dl, lst_lv, nc_lv, nc_dat, nc_scr, len_lv, ix_lv, vlist_t, vlist_l, vlistT_t, vtup_l, vtup_t, vrepr_d, vrepr_l, vsort_l, ty_lv, wipeR, dtup_t, List.append_nil, vcat_ll, U.lv.injEq, exists_eq, exists_eq', w_vsortr, w_vsortset, dictp_l, w_dictz, w_efld, w_gfld, w_flda, w_eme, w_emk, w_eca, w_nolv, w_never, isLv_dat, isLv_cell, isLv_adr, Pu.tupK_d, ixg_t, ixg_d, w_orU, w_gtpl, tr_lv, w_vparn, setNs_cons, setNs_nil]))
/-! ### None among what was read -/
def isN : PyData → Bool
  | .none => true
  | _ => false
theorem eqv_none (z : PyData) : PyData.eqv z .none = isN z := by cases z <;> rfl
theorem inV_isN : ∀ {ds : List PyData} {xs : List V}, allFl (ds.map .dat) = some xs → inV .non xs = ds.any isN
  | [], _, h => by cases h; rfl
  | d :: ds, xs, h => by
    have h' : (match inK.D2V d, allFl (ds.map .dat) with
      | some v, some vs => some (v :: vs)
      | _, _ => none) = some xs := h
    split at h'
    · rename_i v vs h1 h2
      cases h'
      have ih := inV_isN h2
      show (eqV v .non || inV .non vs) = (isN d || ds.any isN)
      rw [ih]
      congr 1
      cases d <;> cases h1 <;> rfl
    · cases h'
theorem in_none_ds {ds : List PyData} {M : Mem} (h : ∀ d ∈ ds, Shp 2 d) : inU false (.dat .none) (.dat (.tuple ds)) M = some (.dat (.bool (ds.any isN)), M) := by
  have h1 : inK false (.dat .none) (.dat (.tuple ds)) M = none := rfl
  have h3 : inD false (.dat .none) (.dat (.tuple ds)) M = some (.dat (.bool (ds.any isN)), M) := by
    have s2 : PyData.canLayAll0 ds = true := lay_all fun d hd => (h d hd).1
    have e : (ds.any fun z => PyData.eqv z .none) = ds.any isN := by
      congr 1
      funext z
      exact eqv_none z
    show (if _ then _ else _) = _
    rw [if_pos ⟨by decide, s2⟩, e]
    rfl
  have h2 : inFl false (.dat .none) (.dat (.tuple ds)) M = none ∨ inFl false (.dat .none) (.dat (.tuple ds)) M = some (.dat (.bool (ds.any isN)), M) := by
    unfold inFl
    have e : seqOf M (.dat (.tuple ds)) = some (ds.map .dat) := rfl
    simp only [e, Option.bind, inK.D2V]
    cases hx : allFl (ds.map .dat) with
    | none => exact .inl rfl
    | some xs =>
      refine .inr ?_
      simp only [Bool.false_eq_true, if_false]
      rw [inV_isN hx]
  unfold inU orF
  rcases h2 with h2 | h2
  · simp only [h1, h2, h3]
  · simp only [h1, h2]
theorem rd_shp {as : List (Str × Nat)} {row : Str} (hr : Asc row) : Shp 2 (rd as row) := by
  obtain ⟨name, ws, e, hf, hs, hl⟩ := sp_split row
  unfold rd
  rw [e]
  show Shp 2 (if _ then _ else _)
  split
  · exact Shp.none
  · refine Shp.tup (n := 1) fun d hd => ?_
    rcases List.mem_cons.mp hd with rfl | hd
    · exact Shp.str ((hf name List.mem_cons_self).1 hr).ok
    · obtain ⟨z, _, rfl⟩ := List.mem_map.mp hd
      cases z with
      | none => exact Shp.none
      | some i => exact Shp.int
/-! ### a text, read as a row -/
def rds (as : List (Str × Nat)) (t : Str) : List PyData := (Txt.split t (Str.ofString ", ")).map (rd as)
def rh (as : List (Str × Nat)) (t : Str) : Option PyData := if t = Str.ofString "-" then some (.tuple []) else if (rds as t).any isN = true then none else some (.tuple (rds as t))
def rhx (A : Adr) : Option PyData → RX
  | some d => .ok (.dat d)
  | none => .xc A.C_NoText [(Str.ofString "row", .int 0)]
theorem strIs_dash {t : Str} : strIs (Str.ofString "-") (PyData.str t) = decide (t = Str.ofString "-") := by
  show decide (Str.ofString "-" = t) = _
  by_cases h : t = Str.ofString "-"
  · rw [decide_eq_true h, decide_eq_true h.symm]
  · rw [decide_eq_false h, decide_eq_false fun z => h z.symm]
theorem read_history_spec {A : Adr} {as : List (Str × Nat)} {t : Str} {M : Mem} {Q : RX → Mem → Prop} (ha : ∀ a ∈ as, Asc a.1) (ht : Asc t) (hw : t.length ≤ 20001) (q : Q (rhx A (rh as t)) M) : W (v_read_history A [.dat (.tuple (actsD as)), .dat (.str t)] M) Q := by
  unfold v_read_history
  push_cast [w_fnX, w_seqX, w_ifX, w_up, w_raise]
  show (if false = true then _ else _)
  rw [if_neg (by decide), strIs_dash]
  by_cases h0 : t = Str.ofString "-"
  · rw [decide_eq_true h0]
    have e : rh as t = some (.tuple []) := if_pos h0
    rw [e] at q
    exact q
  · rw [decide_eq_false h0]
    have e : rh as t = if (rds as t).any isN = true then none else some (.tuple (rds as t)) := if_neg h0
    refine ⟨rfl, ?_⟩
    rw [split_run (by decide) (by omega), w_some]
    refine ⟨rfl, ((Txt.split t (Str.ofString ", ")).map PyData.str).map .dat, rfl, ?_⟩
    obtain ⟨x, xs, es, hf, _, hl⟩ := cm_split t
    rw [List.map_map, show (U.dat ∘ PyData.str) = (fun z : Str => U.dat (.str z)) from rfl, vlc_mapX (fun z : Str => U.dat (.str z)) (rd as) _ (fun z hz => by
      rw [es] at hz
      push_cast [wipeR]
      exact read_deed_spec ha ((hf z hz).1 ht) (Nat.le_trans (hf z hz).2 hw) ⟨rfl, rfl⟩), w_some]
    have hsh : ∀ d ∈ rds as t, Shp 2 d := fun d hd => by
      obtain ⟨z, hz, rfl⟩ := List.mem_map.mp hd
      rw [es] at hz
      exact rd_shp ((hf z hz).1 ht)
    refine ⟨by rw [List.length_map, es, List.length_cons, sizeLine_eq]; omega, ?_⟩
    show W (inU false (U.dat PyData.none) (U.dat (PyData.tuple (rds as t))) M) _
    rw [in_none_ds hsh, w_some]
    refine ⟨_, rfl, ?_⟩
    by_cases h1 : (rds as t).any isN = true
    · rw [if_pos h1]
      rw [e, if_pos h1] at q
      exact q
    · rw [if_neg h1]
      rw [e, if_neg h1] at q
      exact q
/-- what is no text is refused -/
theorem read_history_not {A : Adr} {as : PyData} {d : PyData} {M : Mem} {Q : RX → Mem → Prop} (hd : isStrD d = false) (q : Q (rhx A none) M) : W (v_read_history A [.dat as, .dat d] M) Q := by
  unfold v_read_history
  push_cast [w_fnX, w_seqX, w_ifX, w_up, w_raise]
  rw [hd]
  exact q
def told (A : Adr) : Option PyData → U
  | some d => .dat d
  | none => .lv [.int 0]
theorem tab_self (A : Adr) : tab A (.ref A.C_NoText) (.ref A.C_NoText) = some true := by
  unfold tab
  simp
theorem tab_val (A : Adr) : tab A (.ref A.C_NoText) (.type "ValueError") = some true := by
  unfold tab
  simp
theorem isx_self (A : Adr) {fs : List (Str × PyData)} {M : Mem} : isX (tab A) [.xc A.C_NoText fs, .adr A.C_NoText] M = some (.dat (.bool true), M) := by
  show ((tab A (.ref A.C_NoText) (.ref A.C_NoText)).map fun b => (U.dat (.bool b), M)) = _
  rw [tab_self]
  rfl
theorem isx_val (A : Adr) {fs : List (Str × PyData)} {M : Mem} : isX (tab A) [.xc A.C_NoText fs, .ty "ValueError"] M = some (.dat (.bool true), M) := by
  show ((tab A (.ref A.C_NoText) (.type "ValueError")).map fun b => (U.dat (.bool b), M)) = _
  rw [tab_val]
  rfl
theorem told_text {A : Adr} {as : List (Str × Nat)} {t : Str} {M : Mem} {Q : U → Mem → Prop} (ha : ∀ a ∈ as, Asc a.1) (ht : Asc t) (hw : t.length ≤ 20001) (q : Q (told A (rh as t)) M) : W (v__law_told A [.dat (.tuple (actsD as)), .dat (.str t)] M) Q := by
  unfold v__law_told
  push_cast [w_tryK, w_setX, w_cX]
  refine read_history_spec ha ht hw ?_
  cases h : rh as t with
  | some d =>
    push_cast [rhx]
    rw [h] at q
    exact q
  | none =>
    rw [h] at q
    push_cast [rhx, w_xf]
    refine ⟨List.mem_cons_self, ?_⟩
    rw [show isF false (U.xc A.C_NoText [(Str.ofString "row", PyData.int 0)]) (U.dat PyData.none) M = some (.dat (.bool false), M) from rfl, w_some]
    refine ⟨false, rfl, ?_⟩
    rw [isx_self, w_some]
    refine ⟨true, rfl, ?_⟩
    rw [isx_val, w_some]
    exact ⟨true, rfl, _, _, rfl, List.mem_cons_self, _, rfl, q⟩
/-- what is no text -/
theorem told_not {A : Adr} {as d : PyData} {M : Mem} {Q : U → Mem → Prop} (hd : isStrD d = false) (q : Q (told A none) M) : W (v__law_told A [.dat as, .dat d] M) Q := by
  unfold v__law_told
  push_cast [w_tryK, w_setX, w_cX]
  refine read_history_not hd ?_
  push_cast [rhx, w_xf]
  refine ⟨List.mem_cons_self, ?_⟩
  rw [show isF false (U.xc A.C_NoText [(Str.ofString "row", PyData.int 0)]) (U.dat PyData.none) M = some (.dat (.bool false), M) from rfl, w_some]
  refine ⟨false, rfl, ?_⟩
  rw [isx_self, w_some]
  refine ⟨true, rfl, ?_⟩
  rw [isx_val, w_some]
  exact ⟨true, rfl, _, _, rfl, List.mem_cons_self, _, rfl, q⟩
end Z

namespace Z
open PySem PySem.Spec PyProof.Rows L2 Lw Pu
local macro_rules | `(tactic| push_cast [$xs,*]) => `(tactic| (try simp only [$xs,*, w_fn, w_ret, w_seq, w_sif, w_of, w_trn, w_op, w_snil, w_pass, w_retn, w_asg, w_gnm, w_gsb, w_gtp, w_gcn, w_gn0, w_par, w_aug, w_drop, w_c, w_k, w_lst, w_tup, w_and, w_or, w_not, w_neg, w_ifx, w_tand, w_tor, w_tnot, w_cb, w_ck, w_mt, w_cons, w_nil, w_var, w_chain, w_sl, w_osome, w_onone, Pu.w_rev, w_dct0, w_for, w_iseq, w_irg1, w_lc, w_lc2, List.map_cons, List.map_nil, List.cons_append, List.nil_append, List.getElem?_cons_zero, List.getElem?_cons_succ, List.length_cons, List.length_nil, Option.some.injEq, exists_eq_left', w_some, List.replicate, List.set_cons_zero, List.set_cons_succ, frz_nil, frz_dat, frz_new, frz_new0, ne_ss, list_t, mk_nil, mk1, mk2, mk3, U.dat.injEq, PyData.int.injEq, PyData.bool.injEq, PyData.str.injEq, U.cell.injEq, add_ii, sub_ii, lt_ii, le_ii, gt_ii, ge_ii, eq_ii, ne_ii, eq_tt0, ne_tt0, eq_ds, sl_t, len_t, isi_int, isi_bool, isi_str, isi_tup, abs_i, min_ii, max_ii, int_i, int_b, mod_ii, fdiv_ii, mul_ii, pow_ii, add_ss, add_tt, mul_ti, repr_d, frzU_dat, and_true, true_and, and_assoc, List.cons.injEq, exists_and_left, exists_and_right, exists_eq_left, exists_eq_right, ix_t, ix_s, sl_s, len_s, is_non, Nat.reduceAdd, Nat.reduceSub, sz0, sz1, sz2, sz3, sz4, sz5, sz6, sz7, sz8, sz9, sz10, sz11, sz12, sz13, sz14, sz15, sz16, sz17, sz18, sz19, sz20, sz21, sz22, sz23, sz24, sz25, sz26, sz27, sz28, sz29, sz30, w_vtup, w_vlst, w_vhnd, w_fzl, w_vlc, w_vlc2, w_viseq, w_vien, w_vizp, w_irg2, w_vtxt, w_vfor, w_sown, w_vapp, w_vext, w_vsb, w_vpar, w_vparf, w_vparg, w_vsl, w_star, ad_nil, ad_dat, ad_map, ad_app, Option.map_some, vadd_ii, vadd_ss, vadd_tt, vadd_ll, vmul_ii, vmul_ti, vsl_t, vsl_l, vsl_s, seq_t, seq_lv, seq_dl, lst_lv, nc_lv, nc_dat, nc_scr, len_lv, ix_lv, vlist_t, vlist_l, vlistT_t, vtup_l, vtup_t, vrepr_d, vrepr_l, vsort_l, ty_lv, wipeR, dtup_t, List.append_nil, vcat_ll, U.lv.injEq, exists_eq, exists_eq', w_vsortr, w_vsortset, dictp_l, w_dictz, w_efld, w_gfld, w_flda, w_eme, w_emk, w_eca, w_nolv, w_never, isLv_dat, isLv_cell, isLv_adr, Pu.tupK_d, ixg_t, ixg_d, w_orU, w_gtpl, tr_lv, w_vparn, setNs_cons, setNs_nil]))
/-! ### the law's own reading -/
noncomputable def wBody : MS := (sSeq
  (sAsg (eCB v__law_figures (aCons (eIf (tOf (eOp Pu.eqU (vSl (eVar 7) oNone (oSome (eC (PyData.int 1)))) (eC (PyData.str (Str.ofString "-"))))) (vSl (eVar 7) (oSome (eC (PyData.int 1))) oNone) (eVar 7)) aNil)) (gNm 8))
  (sSeq (sIf (tOrM (tOf (eOp (isF false) (eVar 8) (eC PyData.none))) (tOf (eOp Pu.eqU (eVar 7) (eC (PyData.str (Str.ofString "-0")))))) (sRet (vLst (aCons (eC (PyData.int 0)) aNil))) sNil)
    (vApp 6 (eIf (tOf (eOp Pu.eqU (vSl (eVar 7) oNone (oSome (eC (PyData.int 1)))) (eC (PyData.str (Str.ofString "-"))))) (eOp subU (eC (PyData.int 0)) (eVar 8)) (eVar 8)))))
theorem strIs_eq {a b : Str} : strIs a (PyData.str b) = decide (b = a) := by
  show decide (a = b) = _
  by_cases h : b = a
  · rw [decide_eq_true h, decide_eq_true h.symm]
  · rw [decide_eq_false h, decide_eq_false fun z => h z.symm]
theorem first_minus (w : Str) : strIs (Str.ofString "-") (PyData.str (cutS w none (some 1))) = minus w := by
  rw [strIs_eq, cut_first]
  unfold minus
  have e : (Str.ofString "-") = SX.S [45] := rfl
  rw [e]
  cases h : w.cps.toList with
  | nil => 
    refine decide_eq_false fun z => ?_
    have z2 : (SX.S (([] : List Nat).take 1)).cps.toList = (SX.S [45]).cps.toList := by rw [z]
    simp [SX.S] at z2
  | cons c r =>
    by_cases hc : c = 45
    · subst hc
      rfl
    · rw [show decide ((c :: r).head? = some 45) = false from decide_eq_false fun z => hc (Option.some.inj z)]
      refine decide_eq_false fun z => hc ?_
      have z2 : (SX.S ((c :: r).take 1)).cps.toList = (SX.S [45]).cps.toList := by rw [z]
      simpa [SX.S] using z2
theorem asc_rest {w : Str} (h : Asc w) : Asc (rest w) := fun c hc => h c (List.mem_of_mem_drop (show c ∈ w.cps.toList.drop 1 from hc))
theorem rn_some {w : Str} {n : Nat} (h : rn w = some n) : TL.numL n = w.cps.toList := by
  unfold rn at h
  split at h
  · rename_i h1
    split at h
    · cases h
    · rename_i h2
      cases h
      exact numL_good h1.2 (by rw [len_list]; exact h1.1.1) (by rw [len_list]; exact h2)
  · cases h
theorem dash0 {w : Str} {n : Nat} (hm : minus w = true) (h : rn (rest w) = some n) : decide (w = Str.ofString "-0") = decide (n = 0) := by
  have e := rn_some h
  have er : (rest w).cps.toList = w.cps.toList.drop 1 := rfl
  rw [er] at e
  unfold minus at hm
  rw [decide_eq_true_iff] at hm
  have e0 : (Str.ofString "-0").cps.toList = [45, 48] := rfl
  have n0 : TL.numL 0 = [48] := rfl
  by_cases hn : n = 0
  · rw [decide_eq_true hn]
    refine decide_eq_true (TL.ext_tl ?_)
    show w.cps.toList = (Str.ofString "-0").cps.toList
    rw [e0]
    cases hl : w.cps.toList with
    | nil => rw [hl] at hm; cases hm
    | cons c r =>
      rw [hl] at hm e
      cases hm
      rw [hn, n0] at e
      rw [e]
      rfl
  · rw [decide_eq_false hn]
    refine decide_eq_false fun z => hn (TL.numL_inj ?_)
    rw [e, z, e0, n0]
    rfl
theorem dash_no {w : Str} (hm : minus w = false) : decide (w = Str.ofString "-0") = false := decide_eq_false fun z => by
  rw [z] at hm
  exact absurd hm (by decide)
/-- one word -/
theorem word_spec {e0 e1 e2 e3 e4 e5 e8 : Option U} {as : List PyData} {w : Str} {M : Mem} {Q : Out → Mem → Prop} (ha : Asc w) (hw : w.length ≤ 20001) (hl : as.length + 1 ≤ sizeLine) (qok : ∀ i y8, rwd w = some i → Q (.nx [e0, e1, e2, e3, e4, e5, some (.lv (as ++ [.int i])), some (.dat (.str w)), y8]) M)
    (qbad : rwd w = none → Q (.rt (.lv [.int 0])) M) : W (wBody [e0, e1, e2, e3, e4, e5, some (.lv as), some (.dat (.str w)), e8] M) Q := by
  have hz : w.length ≤ sizeLine := by rw [sizeLine_eq]; omega
  unfold wBody
  push_cast [wipeR]
  refine ⟨hz, ?_⟩
  rw [first_minus]
  cases hm : minus w with
  | true =>
    refine ⟨hz, ?_⟩
    rw [cut_rest]
    refine figures_spec (asc_rest ha) (Nat.le_trans (len_rest w) hw) ?_
    have e : rwd w = match rn (rest w) with
      | some n => if n = 0 then none else some (-(n : Int))
      | none => none := if_pos hm
    cases hr : rn (rest w) with
    | none =>
      rw [hr] at e
      rw [show isF false (U.dat (oI none)) (U.dat PyData.none) M = some (.dat (.bool true), M) from rfl, w_some]
      exact ⟨true, rfl, qbad e⟩
    | some n =>
      rw [hr] at e
      simp only at e
      rw [show isF false (U.dat (oI (some n))) (U.dat PyData.none) M = some (.dat (.bool false), M) from rfl, w_some]
      refine ⟨false, rfl, ?_⟩
      rw [strIs_eq, dash0 hm hr]
      by_cases h0 : n = 0
      · rw [decide_eq_true h0]
        exact qbad (by rw [e, if_pos h0])
      · rw [decide_eq_false h0]
        refine ⟨hz, ?_⟩
        push_cast [oI]
        refine ⟨by omega, ?_⟩
        have := qok (-(n : Int)) (some (.dat (.int n))) (by rw [e, if_neg h0])
        rw [Int.zero_sub]
        exact this
  | false =>
    refine figures_spec ha hw ?_
    have e : rwd w = (rn w).map fun (n : Nat) => (n : Int) := if_neg (by rw [hm]; decide)
    cases hr : rn w with
    | none =>
      rw [hr] at e
      rw [show isF false (U.dat (oI none)) (U.dat PyData.none) M = some (.dat (.bool true), M) from rfl, w_some]
      exact ⟨true, rfl, qbad e⟩
    | some n =>
      rw [hr] at e
      rw [show isF false (U.dat (oI (some n))) (U.dat PyData.none) M = some (.dat (.bool false), M) from rfl, w_some]
      refine ⟨false, rfl, ?_⟩
      rw [strIs_eq, dash_no hm]
      refine ⟨hz, ?_⟩
      show ∃ d, U.dat (oI (some n)) = U.dat d ∧ as.length < sizeLine ∧ Q _ M
      exact ⟨_, rfl, by omega, qok (n : Int) (some (.dat (oI (some n)))) e⟩
/-- the words of a part -/
def WdI (e0 e1 e2 e3 e4 e5 : Option U) (M0 : Mem) (ws : List Str) (k : Nat) (ρ : Pu.Env) (M : Mem) : Prop := M = M0 ∧ none ∉ (ws.take k).map rwd ∧ ∃ e7 e8, ρ = [e0, e1, e2, e3, e4, e5, some (.lv (((ws.take k).map rwd).map oZ)), e7, e8]
theorem words_spec {e0 e1 e2 e3 e4 e5 e7 e8 : Option U} {ws : List Str} {M : Mem} {Q : Out → Mem → Prop} (hf : ∀ w ∈ ws, Asc w ∧ w.length ≤ 20001) (hl : ws.length ≤ 30000) (qok : none ∉ ws.map rwd → ∀ y7 y8, Q (.nx [e0, e1, e2, e3, e4, e5, some (.lv ((ws.map rwd).map oZ)), y7, y8]) M)
    (qbad : none ∈ ws.map rwd → Q (.rt (.lv [.int 0])) M) : W (Pu.forM (fun _ => True) (gNm 7) wBody (ws.map fun z => U.dat (.str z)) [e0, e1, e2, e3, e4, e5, some (.lv []), e7, e8] M) Q := by
  refine for_inv (WdI e0 e1 e2 e3 e4 e5 M ws) _ 0 _ _ ⟨rfl, by simp, e7, e8, rfl⟩ (fun j u ρ M1 hj hI => ?_) (fun ρ M1 hI => ?_)
  · obtain ⟨rfl, hn, y7, y8, rfl⟩ := hI
    rw [List.getElem?_map] at hj
    obtain ⟨w, hw, rfl⟩ := Option.map_eq_some_iff.mp hj
    have hm := List.mem_of_getElem? hw
    have hlt := (List.getElem?_eq_some_iff.mp hw).1
    rw [Nat.zero_add] at hn ⊢
    have tk : ws.take (j + 1) = ws.take j ++ [w] := by
      rw [List.take_succ, hw]
      rfl
    rw [w_gnm]
    show W (wBody [e0, e1, e2, e3, e4, e5, some (.lv (((ws.take j).map rwd).map oZ)), some (.dat (.str w)), y8] M1) _
    refine word_spec (hf w hm).1 (hf w hm).2 (by rw [List.length_map, List.length_map, List.length_take, sizeLine_eq]; omega) (fun i z8 hi => ?_) (fun hi => ?_)
    · refine ⟨trivial, rfl, ?_, some (.dat (.str w)), z8, ?_⟩
      · rw [tk, List.map_append, List.mem_append]
        rintro (z | z)
        · exact hn z
        · simp [hi] at z
      · rw [tk]
        simp [hi, oZ]
    · exact qbad (List.mem_map.mpr ⟨w, hm, hi⟩)
  · obtain ⟨rfl, hn, y7, y8, rfl⟩ := hI
    rw [Nat.zero_add, List.length_map, List.take_length] at hn ⊢
    exact qok hn y7 y8
/-! ### the names and their counts -/
def kv (as : List (Str × Nat)) : List (Key × PyData) := as.map fun a => (Sum.inr a.1, PyData.int (a.2 : Int))
theorem pairs_acts : ∀ as : List (Str × Nat), pairsD (actsD as) = some (kv as)
  | [] => rfl
  | a :: as => by
    have ih := pairs_acts as
    show (match pairD (.tuple [.str a.1, .int (a.2 : Int)]), pairsD (actsD as) with
      | some p, some ps => some (p :: ps)
      | _, _ => none) = _
    rw [ih]
    rfl
theorem dict_acts {as : List (Str × Nat)} (hn : (as.map (·.1)).Nodup) : dictP (actsD as) = some (dctD (kv as)) := by
  unfold dictP
  rw [pairs_acts]
  simp only
  rw [if_pos]
  have e : (kv as).map (·.1) = (as.map (·.1)).map Sum.inr := by
    unfold kv
    rw [List.map_map, List.map_map]
    rfl
  rw [e]
  exact List.Pairwise.map _ (fun a b h z => h (Sum.inr.inj z)) hn
theorem getD_acts (x : Str) : ∀ as : List (Str × Nat), getD ((kv as).map fun p => (keyD p.1, p.2)) (Sum.inr x) = (as.lookup x).map fun (n : Nat) => PyData.int (n : Int)
  | [] => rfl
  | a :: as => by
    have ih := getD_acts x as
    obtain ⟨y, n⟩ := a
    show (if keyOf (keyD (Sum.inr y)) = some (Sum.inr x) then some (PyData.int (n : Int)) else getD ((kv as).map fun p => (keyD p.1, p.2)) (Sum.inr x)) = _
    rw [ih, keyOf_keyD, List.lookup_cons]
    by_cases h : y = x
    · subst h
      simp
    · rw [if_neg (fun z => h (Sum.inr.inj (Option.some.inj z)))]
      have : (x == y) = false := by simpa using fun z => h z.symm
      rw [this]
theorem in_dct {as : List (Str × Nat)} {x : Str} {M : Mem} : inG true (.dat (.str x)) (.dat (dctD (kv as))) M = some (.dat (.bool (!(as.lookup x).isSome)), M) := by
  have h1 : inU true (.dat (.str x)) (.dat (dctD (kv as))) M = none := rfl
  have h2 : inDU true (.dat (.str x)) (.dat (dctD (kv as))) M = some (.dat (.bool (!(as.lookup x).isSome)), M) := by
    show some (U.dat (.bool (if true = true then !(getD ((kv as).map fun p => (keyD p.1, p.2)) (Sum.inr x)).isSome else _)), M) = _
    rw [if_pos rfl, getD_acts, Option.isSome_map]
  unfold inG orF
  simp only [h1, h2]
theorem ix_dct {as : List (Str × Nat)} {x : Str} {n : Nat} {M : Mem} (h : as.lookup x = some n) : ixG (.dat (dctD (kv as))) (.dat (.str x)) M = some (.dat (.int (n : Int)), M) := by
  have h1 : ixU (.dat (dctD (kv as))) (.dat (.str x)) M = none := rfl
  have h2 : ixDU (.dat (dctD (kv as))) (.dat (.str x)) M = some (.dat (.int (n : Int)), M) := by
    show ((getD ((kv as).map fun p => (keyD p.1, p.2)) (Sum.inr x)).map fun y => (U.dat y, M)) = _
    rw [getD_acts, h]
    rfl
  unfold ixG orF
  simp only [h1, h2]
theorem look_mem {as : List (Str × Nat)} {x : Str} {n : Nat} (hn : (as.map (·.1)).Nodup) : (x, n) ∈ as ↔ as.lookup x = some n := by
  induction as with
  | nil => simp
  | cons a as ih =>
    obtain ⟨y, m⟩ := a
    rw [List.map_cons, List.nodup_cons] at hn
    rw [List.mem_cons, List.lookup_cons]
    by_cases h : x = y
    · subst h
      rw [show (x == x) = true by simp]
      simp only [Option.some.injEq]
      constructor
      · rintro (z | z)
        · exact (Prod.mk.inj z).2.symm
        · exact absurd (List.mem_map.mpr ⟨_, z, rfl⟩) hn.1
      · intro z
        rw [z]
        exact .inl rfl
    · rw [show (x == y) = false by simpa using h]
      rw [← ih hn.2]
      constructor
      · rintro (z | z)
        · exact absurd (Prod.mk.inj z).1 h
        · exact z
      · exact fun z => .inr z
theorem cut1' {x : PyData} {rest : List PyData} : Lw.cutD (x :: rest) (some 1) none = rest := by
  unfold Lw.cutD HT.sIx
  simp
/-! ### a part -/
noncomputable def pBody : MS := (sSeq
  (vParF 5 6 (eMt "str" vsplitF (eVar 4) (aCons (eC (PyData.str (Str.ofString " "))) aNil)) (vLst aNil))
  (sSeq (sIf (tOrM (tOf (eOp (inG true) (eOp ixU (eVar 5) (eC (PyData.int 0))) (eVar 3))) (tOf (eOp neU (eCB lenF (aCons (eVar 5) aNil)) (eOp vaddU (eC (PyData.int 1)) (eOp ixG (eVar 3) (eOp ixU (eVar 5) (eC (PyData.int 0)))))))) (sRet (vLst (aCons (eC (PyData.int 0)) aNil))) sNil)
    (sSeq (vFor (viSeq (vSl (eVar 5) (oSome (eC (PyData.int 1))) oNone)) (gNm 7) wBody)
      (vApp 2 (eOp vaddU (vTup (aCons (eOp ixU (eVar 5) (eC (PyData.int 0))) aNil)) (eCB vtupleF (aCons (eVar 6) aNil)))))))
theorem part_spec {e0 e1 y5 y6 y7 y8 : Option U} {as : List (Str × Nat)} {found : List PyData} {w : Str} {M : Mem} {Q : Out → Mem → Prop} (hnd : (as.map (·.1)).Nodup) (ha : Asc w) (hw : w.length ≤ 20001) (hl : found.length + 1 ≤ 30000)
    (qok : isN (rd as w) = false → ∀ z5 z6 z7 z8, Q (.nx [e0, e1, some (.lv (found ++ [rd as w])), some (.dat (dctD (kv as))), some (.dat (.str w)), z5, z6, z7, z8]) M)
    (qbad : isN (rd as w) = true → Q (.rt (.lv [.int 0])) M) : W (pBody [e0, e1, some (.lv found), some (.dat (dctD (kv as))), some (.dat (.str w)), y5, y6, y7, y8] M) Q := by
  obtain ⟨name, ws, e, hf, hs, hln⟩ := sp_split w
  have e2 : rd as w = if none ∈ ws.map rwd ∨ (name, ws.length) ∉ as then .none else .tuple (.str name :: (ws.map rwd).map oZ) := by
    unfold rd
    rw [e]
  unfold pBody
  push_cast [wipeR]
  refine ⟨by decide, rfl, ?_⟩
  rw [split_run (by decide) (by omega), w_some, e]
  push_cast [wipeR]
  refine ⟨.str name, at0, ?_⟩
  rw [in_dct, w_some]
  refine ⟨_, rfl, ?_⟩
  cases hk : as.lookup name with
  | none =>
    have h2 : (name, ws.length) ∉ as := fun z => by rw [look_mem hnd, hk] at z; cases z
    exact qbad (by rw [e2, if_pos (.inr h2)]; rfl)
  | some n =>
    show ∃ d, _ ∧ _
    refine ⟨.str name, at0, ?_⟩
    rw [ix_dct hk, w_some]
    push_cast [wipeR]
    rw [List.length_map]
    by_cases hc : ws.length = n
    · rw [show decide ((((ws.length + 1 : Nat)) : Int) = 1 + (n : Int)) = true from by simp; omega]
      simp only [Bool.not_true]
      have h2 : (name, ws.length) ∈ as := by rw [look_mem hnd, hk, hc]
      rw [cut1', List.map_map]
      refine words_spec (fun z hz => ⟨(hf z (List.mem_cons_of_mem _ hz)).1 ha, Nat.le_trans (hf z (List.mem_cons_of_mem _ hz)).2 hw⟩) (by omega) (fun hn z7 z8 => ?_) (fun hn => ?_)
      · push_cast [wipeR]
        have er : rd as w = .tuple (.str name :: (ws.map rwd).map oZ) := by rw [e2, if_neg (fun z => z.elim hn fun y => y h2)]
        refine ⟨.str name, at0, by rw [List.length_map, List.length_map, sizeLine_eq]; omega, by rw [sizeLine_eq]; omega, ?_⟩
        have z := qok (by rw [er]; rfl) (some (.lv (.str name :: ws.map .str))) (some (.lv ((ws.map rwd).map oZ))) z7 z8
        rw [er] at z
        exact z
      · exact qbad (by rw [e2, if_pos (.inl hn)]; rfl)
    · rw [show decide ((((ws.length + 1 : Nat)) : Int) = 1 + (n : Int)) = false from by simp; omega]
      simp only [Bool.not_false]
      have h2 : (name, ws.length) ∉ as := fun z => by
        rw [look_mem hnd, hk] at z
        exact hc (Option.some.inj z).symm
      exact qbad (by rw [e2, if_pos (.inr h2)]; rfl)
def PtI (e0 e1 : Option U) (as : List (Str × Nat)) (M0 : Mem) (ps : List Str) (k : Nat) (ρ : Pu.Env) (M : Mem) : Prop := M = M0 ∧ ((ps.take k).map (rd as)).any isN = false ∧ ∃ y4 y5 y6 y7 y8, ρ = [e0, e1, some (.lv ((ps.take k).map (rd as))), some (.dat (dctD (kv as))), y4, y5, y6, y7, y8]
theorem parts_spec {e0 e1 y4 y5 y6 y7 y8 : Option U} {as : List (Str × Nat)} {ps : List Str} {M : Mem} {Q : Out → Mem → Prop} (hnd : (as.map (·.1)).Nodup) (hf : ∀ w ∈ ps, Asc w ∧ w.length ≤ 20001) (hl : ps.length ≤ 29000)
    (qok : (ps.map (rd as)).any isN = false → ∀ z4 z5 z6 z7 z8, Q (.nx [e0, e1, some (.lv (ps.map (rd as))), some (.dat (dctD (kv as))), z4, z5, z6, z7, z8]) M)
    (qbad : (ps.map (rd as)).any isN = true → Q (.rt (.lv [.int 0])) M) : W (Pu.forM (fun _ => True) (gNm 4) pBody (ps.map fun z => U.dat (.str z)) [e0, e1, some (.lv []), some (.dat (dctD (kv as))), y4, y5, y6, y7, y8] M) Q := by
  refine for_inv (PtI e0 e1 as M ps) _ 0 _ _ ⟨rfl, rfl, y4, y5, y6, y7, y8, rfl⟩ (fun j u ρ M1 hj hI => ?_) (fun ρ M1 hI => ?_)
  · obtain ⟨rfl, hn, z4, z5, z6, z7, z8, rfl⟩ := hI
    rw [List.getElem?_map] at hj
    obtain ⟨w, hw, rfl⟩ := Option.map_eq_some_iff.mp hj
    have hm := List.mem_of_getElem? hw
    have hlt := (List.getElem?_eq_some_iff.mp hw).1
    rw [Nat.zero_add] at hn ⊢
    have tk : ps.take (j + 1) = ps.take j ++ [w] := by
      rw [List.take_succ, hw]
      rfl
    rw [w_gnm]
    show W (pBody [e0, e1, some (.lv ((ps.take j).map (rd as))), some (.dat (dctD (kv as))), some (.dat (.str w)), z5, z6, z7, z8] M1) _
    refine part_spec hnd (hf w hm).1 (hf w hm).2 (by rw [List.length_map, List.length_take]; omega) (fun hi x5 x6 x7 x8 => ?_) (fun hi => ?_)
    · refine ⟨trivial, rfl, ?_, some (.dat (.str w)), x5, x6, x7, x8, ?_⟩
      · rw [tk, List.map_append, List.any_append, hn]
        simpa using hi
      · rw [tk]
        simp
    · exact qbad (List.any_eq_true.mpr ⟨_, List.mem_map_of_mem hm, hi⟩)
  · obtain ⟨rfl, hn, z4, z5, z6, z7, z8, rfl⟩ := hI
    rw [Nat.zero_add, List.length_map, List.take_length] at hn ⊢
    exact qok hn z4 z5 z6 z7 z8
theorem read_row_spec {A : Adr} {as : List (Str × Nat)} {t : Str} {M : Mem} {Q : U → Mem → Prop} (hnd : (as.map (·.1)).Nodup) (ht : Asc t) (hw : t.length ≤ 20001) (q : Q (told A (rh as t)) M) : W (v__law_read_row [.dat (.tuple (actsD as)), .dat (.str t)] M) Q := by
  unfold v__law_read_row
  push_cast [wipeR]
  show 2 < 9 ∧ _
  refine ⟨by decide, _, dict_acts hnd, ?_⟩
  rw [strIs_dash]
  by_cases h0 : t = Str.ofString "-"
  · rw [decide_eq_true h0]
    have e : rh as t = some (.tuple []) := if_pos h0
    rw [e] at q
    show W (Pu.forM (fun _ => True) (gNm 4) pBody ([].map fun z => U.dat (.str z)) [_, _, some (.lv []), some (.dat (dctD (kv as))), none, none, none, none, none] M) _
    refine parts_spec hnd (fun w hw => by cases hw) (by simp) (fun _ z4 z5 z6 z7 z8 => ?_) (fun z => by cases z)
    push_cast [wipeR]
    exact q
  · rw [decide_eq_false h0]
    have e : rh as t = if (rds as t).any isN = true then none else some (.tuple (rds as t)) := if_neg h0
    refine ⟨rfl, ?_⟩
    rw [split_run (by decide) (by omega), w_some]
    obtain ⟨x, xs, es, hf, _, hl⟩ := cm_split t
    refine ⟨rfl, ((Txt.split t (Str.ofString ", ")).map PyData.str).map .dat, rfl, ?_⟩
    rw [List.map_map]
    show W (Pu.forM (fun _ => True) (gNm 4) pBody ((Txt.split t (Str.ofString ", ")).map fun z => U.dat (.str z)) [_, _, some (.lv []), some (.dat (dctD (kv as))), none, none, none, none, none] M) _
    refine parts_spec hnd (fun w hw' => by
      rw [es] at hw'
      exact ⟨(hf w hw').1 ht, Nat.le_trans (hf w hw').2 hw⟩) (by rw [es, List.length_cons]; omega) (fun hn z4 z5 z6 z7 z8 => ?_) (fun hn => ?_)
    · push_cast [wipeR]
      rw [e, if_neg (by rw [show (rds as t).any isN = false from hn]; decide)] at q
      exact q
    · rw [e, if_pos (show (rds as t).any isN = true from hn)] at q
      exact q
theorem read_row_not {A : Adr} {as d : PyData} {M : Mem} {Q : U → Mem → Prop} (hd : isStrD d = false) (q : Q (told A none) M) : W (v__law_read_row [.dat as, .dat d] M) Q := by
  unfold v__law_read_row
  push_cast [wipeR]
  rw [hd]
  exact q
end Z

namespace Z
open PySem PySem.Spec PyProof.Rows L2 Lw Pu
local macro_rules | `(tactic| push_cast [$xs,*]) => `(tactic| (try simp only [$xs,*, w_fn, w_ret, w_seq, w_sif, w_of, w_trn, w_op, w_snil, w_pass, w_retn, w_asg, w_gnm, w_gsb, w_gtp, w_gcn, w_gn0, w_par, w_aug, w_drop, w_c, w_k, w_lst, w_tup, w_and, w_or, w_not, w_neg, w_ifx, w_tand, w_tor, w_tnot, w_cb, w_ck, w_mt, w_cons, w_nil, w_var, w_chain, w_sl, w_osome, w_onone, Pu.w_rev, w_dct0, w_for, w_iseq, w_irg1, w_lc, w_lc2, List.map_cons, List.map_nil, List.cons_append, List.nil_append, List.getElem?_cons_zero, List.getElem?_cons_succ, List.length_cons, List.length_nil, Option.some.injEq, exists_eq_left', w_some, List.replicate, List.set_cons_zero, List.set_cons_succ, frz_nil, frz_dat, frz_new, frz_new0, ne_ss, list_t, mk_nil, mk1, mk2, mk3, U.dat.injEq, PyData.int.injEq, PyData.bool.injEq, PyData.str.injEq, U.cell.injEq, add_ii, sub_ii, lt_ii, le_ii, gt_ii, ge_ii, eq_ii, ne_ii, eq_tt0, ne_tt0, eq_ds, sl_t, len_t, isi_int, isi_bool, isi_str, isi_tup, abs_i, min_ii, max_ii, int_i, int_b, mod_ii, fdiv_ii, mul_ii, pow_ii, add_ss, add_tt, mul_ti, repr_d, frzU_dat, and_true, true_and, and_assoc, List.cons.injEq, exists_and_left, exists_and_right, exists_eq_left, exists_eq_right, ix_t, ix_s, sl_s, len_s, is_non, Nat.reduceAdd, Nat.reduceSub, sz0, sz1, sz2, sz3, sz4, sz5, sz6, sz7, sz8, sz9, sz10, sz11, sz12, sz13, sz14, sz15, sz16, sz17, sz18, sz19, sz20, sz21, sz22, sz23, sz24, sz25, sz26, sz27, sz28, sz29, sz30, w_vtup, w_vlst, w_vhnd, w_fzl, w_vlc, w_vlc2, w_viseq, w_vien, w_vizp, w_irg2, w_vtxt, w_vfor, w_sown, w_vapp, w_vext, w_vsb, w_vpar, w_vparf, w_vparg, w_vsl, w_star, ad_nil, ad_dat, ad_map, ad_app, Option.map_some, vadd_ii, vadd_ss, vadd_tt, vadd_ll, vmul_ii, vmul_ti, vsl_t, vsl_l, vsl_s, seq_t, seq_lv, seq_dl, lst_lv, nc_lv, nc_dat, nc_scr, len_lv, ix_lv, vlist_t, vlist_l, vlistT_t, vtup_l, vtup_t, vrepr_d, vrepr_l, vsort_l, ty_lv, wipeR, dtup_t, List.append_nil, vcat_ll, U.lv.injEq, exists_eq, exists_eq', w_vsortr, w_vsortset, dictp_l, w_dictz, w_efld, w_gfld, w_flda, w_eme, w_emk, w_eca, w_nolv, w_never, isLv_dat, isLv_cell, isLv_adr, Pu.tupK_d, ixg_t, ixg_d, w_orU, w_gtpl, tr_lv, w_vparn, setNs_cons, setNs_nil]))
/-! ### a row, written -/
def numT (i : Int) : Str := Str.ofString (toString i)
def tD (p : Str × List Int) : PyData := .tuple (.str p.1 :: p.2.map .int)
def sD (p : Str × List Int) : Str := Txt.join (Str.ofString " ") (p.1 :: p.2.map numT)
def tx (l : List (Str × List Int)) : Str := if l = [] then Str.ofString "-" else Txt.join (Str.ofString ", ") (l.map sD)
theorem asc_nat (n : Nat) : Asc (Str.ofString (toString ((n : Nat) : Int))) := fun c hc => by
  have h : c ∈ TL.numL n := by
    rw [← TL.tl_num n]
    exact hc
  have := TL.numL_digits n c h
  omega
theorem neg_list (n : Nat) : (numT (Int.negSucc n)).cps.toList = 45 :: TL.numL (n + 1) := by
  have e1 : (toString (Int.negSucc n)) = "-" ++ toString (((n + 1 : Nat)) : Int) := rfl
  show (Str.ofString (toString (Int.negSucc n))).cps.toList = _
  rw [e1, ← TL.tl_num (n + 1)]
  show TL.tl (Str.ofString ("-" ++ toString (((n + 1 : Nat)) : Int))) = _
  rw [TL.tl_ofString, TL.tl_ofString, String.toList_append, List.map_append]
  rfl
theorem asc_num (i : Int) : Asc (numT i) := by
  cases i with
  | ofNat n => exact asc_nat n
  | negSucc n =>
    intro c hc
    rw [neg_list] at hc
    rcases List.mem_cons.mp hc with rfl | hc
    · decide
    · have := TL.numL_digits (n + 1) c hc
      omega
theorem num_len {i : Int} (h : i.natAbs ≤ 10 ^ 59) : (numT i).length ≤ 62 := by
  have big : (10 : Nat) ^ 59 + 1 < 10 ^ 60 := by decide
  cases i with
  | ofNat n =>
    have h' : n ≤ 10 ^ 59 := h
    have e : (numT (Int.ofNat n)).cps.toList = TL.numL n := TL.tl_num n
    rw [← len_list, e]
    have := TL.numL_len (n := n) (k := 60) (by decide) (by omega)
    omega
  | negSucc n =>
    have h' : n + 1 ≤ 10 ^ 59 := h
    rw [← len_list, neg_list, List.length_cons]
    have := TL.numL_len (n := n + 1) (k := 60) (by decide) (by omega)
    omega
theorem joinL_facts (S : List Nat) : ∀ ps : List (List Nat), (TL.joinL S ps).length ≤ (ps.map List.length).sum + ps.length * S.length ∧ ∀ c ∈ TL.joinL S ps, c ∈ S ∨ ∃ p ∈ ps, c ∈ p
  | [] => ⟨by simp [TL.joinL], fun c hc => by cases hc⟩
  | [p] => ⟨by simp [TL.joinL], fun c hc => .inr ⟨p, List.mem_cons_self, hc⟩⟩
  | p :: q :: r => by
    obtain ⟨h1, h2⟩ := joinL_facts S (q :: r)
    refine ⟨?_, fun c hc => ?_⟩
    · show (p ++ (S ++ TL.joinL S (q :: r))).length ≤ _
      rw [List.length_append, List.length_append, List.map_cons, List.sum_cons, List.length_cons, Nat.succ_mul]
      omega
    · have hc' : c ∈ p ++ (S ++ TL.joinL S (q :: r)) := hc
      rcases List.mem_append.mp hc' with z | z
      · exact .inr ⟨p, List.mem_cons_self, z⟩
      · rcases List.mem_append.mp z with z | z
        · exact .inl z
        · rcases h2 c z with z | ⟨p', hp, z⟩
          · exact .inl z
          · exact .inr ⟨p', List.mem_cons_of_mem _ hp, z⟩
theorem join_facts {b : Str} (hb : Asc b) {ss : List Str} : (Txt.join b ss).length ≤ (ss.map (·.length)).sum + ss.length * b.length ∧ ((∀ s ∈ ss, Asc s) → Asc (Txt.join b ss)) := by
  have e : Txt.join b ss = SX.S (TL.joinL b.cps.toList (ss.map fun s => s.cps.toList)) := by
    have z := SX.join_S b.cps.toList (ss.map fun s => s.cps.toList)
    rw [S_list, List.map_map] at z
    rw [← z]
    congr 1
    rw [show (SX.S ∘ fun (s : Str) => s.cps.toList) = id from funext fun s => S_list s, List.map_id]
  obtain ⟨h1, h2⟩ := joinL_facts b.cps.toList (ss.map fun s => s.cps.toList)
  rw [e]
  refine ⟨?_, fun ha c hc => ?_⟩
  · rw [S_len']
    rw [List.map_map, List.length_map, len_list] at h1
    rw [show (List.length ∘ fun (s : Str) => s.cps.toList) = (fun s : Str => s.length) from funext fun s => len_list s] at h1
    exact h1
  · rcases h2 c hc with z | ⟨p, hp, z⟩
    · exact hb c z
    · obtain ⟨s, hs, rfl⟩ := List.mem_map.mp hp
      exact ha s hs c z
/-- rows of deeds whose names and numbers are as drawn -/
def RowL (l : List (Str × List Int)) : Prop := ∀ p ∈ l, (Asc p.1 ∧ p.1.length ≤ 8) ∧ p.2.length ≤ 2 ∧ ∀ x ∈ p.2, x.natAbs ≤ 10 ^ 59
theorem sum_le {α : Type} {f : α → Nat} {n : Nat} : ∀ {l : List α}, (∀ x ∈ l, f x ≤ n) → (l.map f).sum ≤ l.length * n
  | [], _ => by simp
  | x :: l, h => by
    have ih := sum_le (l := l) fun y hy => h y (List.mem_cons_of_mem _ hy)
    have h0 := h x List.mem_cons_self
    rw [List.map_cons, List.sum_cons, List.length_cons, Nat.succ_mul]
    omega
theorem sD_facts {p : Str × List Int} (h : (Asc p.1 ∧ p.1.length ≤ 8) ∧ p.2.length ≤ 2 ∧ ∀ x ∈ p.2, x.natAbs ≤ 10 ^ 59) : ((p.1 :: p.2.map numT).map (·.length)).sum + (p.1 :: p.2.map numT).length * 1 ≤ 200 ∧ (sD p).length ≤ 200 ∧ Asc (sD p) := by
  obtain ⟨⟨h1, h2⟩, h3, h4⟩ := h
  have a : ((p.2.map numT).map (·.length)).sum ≤ 2 * 62 := by
    rw [List.map_map]
    exact Nat.le_trans (sum_le (n := 62) fun x hx => num_len (h4 x hx)) (Nat.mul_le_mul_right _ h3)
  have b : ((p.1 :: p.2.map numT).map (·.length)).sum + (p.1 :: p.2.map numT).length * 1 ≤ 200 := by
    rw [List.map_cons, List.sum_cons, List.length_cons, List.length_map]
    omega
  have j := join_facts (b := Str.ofString " ") (by intro c hc; revert c; decide) (ss := p.1 :: p.2.map numT)
  refine ⟨b, Nat.le_trans j.1 b, j.2 fun s hs => ?_⟩
  rcases List.mem_cons.mp hs with rfl | hs
  · exact h1
  · obtain ⟨i, _, rfl⟩ := List.mem_map.mp hs
    exact asc_num i
theorem tx_facts {l : List (Str × List Int)} (h : RowL l) (hl : l.length ≤ 40) : ((l.map sD).map (·.length)).sum + (l.map sD).length * 2 ≤ 8080 ∧ (tx l).length ≤ 8080 ∧ Asc (tx l) := by
  have a : ((l.map sD).map (·.length)).sum ≤ 40 * 200 := by
    rw [List.map_map]
    exact Nat.le_trans (sum_le (n := 200) fun p hp => (sD_facts (h p hp)).2.1) (Nat.mul_le_mul_right _ hl)
  have b : ((l.map sD).map (·.length)).sum + (l.map sD).length * 2 ≤ 8080 := by
    rw [List.length_map]
    omega
  have j := join_facts (b := Str.ofString ", ") (by intro c hc; revert c; decide) (ss := l.map sD)
  refine ⟨b, ?_, ?_⟩
  · unfold tx
    split
    · decide
    · exact Nat.le_trans j.1 b
  · unfold tx
    split
    · intro c hc
      revert c
      decide
    · exact j.2 fun s hs => by
        obtain ⟨p, hp, rfl⟩ := List.mem_map.mp hs
        exact (sD_facts (h p hp)).2.2
theorem join_run {b : Str} {ss : List Str} {M : Mem} (h : (ss.map (·.length)).sum + ss.length * b.length ≤ 16777216) : joinF (.dat (.str b)) [.lv (ss.map .str)] M = some (.dat (.str (Txt.join b ss)), M) := by
  unfold joinF
  simp only [seq_lv, Option.bind, Pu.strs_map]
  rw [if_pos h]
theorem log59 {i : Int} (h : i.natAbs ≤ 10 ^ 59) : i.natAbs.log2 < 1920 := by
  by_cases z : i.natAbs = 0
  · rw [z]
    decide
  · rw [Nat.log2_lt z]
    exact Nat.lt_of_le_of_lt h (by decide)
def partF : PyData → PyData
  | .int i => .str (numT i)
  | d => d
theorem sD_map (p : Str × List Int) : (PyData.str p.1 :: p.2.map PyData.int).map partF = (p.1 :: p.2.map numT).map PyData.str := by
  rw [List.map_cons, List.map_cons, List.map_map, List.map_map]
  rfl
theorem strF_int {i : Int} {M : Mem} (h : i.natAbs ≤ 10 ^ 59) : strF [.dat (.int i)] M = some (.dat (.str (numT i)), M) := by
  show (if i.natAbs.log2 < 1920 then some (U.dat (.str (strD (.int i))), M) else none) = _
  rw [if_pos (log59 h)]
  rfl
theorem show_spec {l : List (Str × List Int)} {M : Mem} {Q : U → Mem → Prop} (h : RowL l) (hl : l.length ≤ 40) (q : Q (.dat (.str (tx l))) M) : W (v_show_history [.dat (.tuple (l.map tD))] M) Q := by
  unfold v_show_history
  push_cast [wipeR]
  rw [List.length_map]
  by_cases h0 : l = []
  · subst h0
    exact q
  · have hp : 0 < l.length := List.length_pos_iff.mpr h0
    rw [show decide ((l.length : Int) = 0) = false from by simp; omega]
    refine ⟨rfl, ?_⟩
    rw [List.map_map, show (U.dat ∘ tD) = (fun p => U.dat (tD p)) from rfl, vlc_mapX (fun p => U.dat (tD p)) (fun p => .str (sD p)) l (fun p hp => by
      obtain ⟨⟨a1, a2⟩, a3, a4⟩ := h p hp
      push_cast [wipeR]
      refine ⟨rfl, (PyData.str p.1 :: p.2.map PyData.int).map .dat, rfl, ?_⟩
      rw [vlc_mapD partF _ (fun d hd => by
        rcases List.mem_cons.mp hd with rfl | hd
        · push_cast [strSF_str]
          rfl
        · obtain ⟨i, hi, rfl⟩ := List.mem_map.mp hd
          push_cast [wipeR]
          rw [strSF_int (log59 (a4 i hi)), w_some]
          exact ⟨rfl, rfl⟩), w_some, sD_map]
      obtain ⟨b1, b2, b3⟩ := sD_facts (h p hp)
      refine ⟨by rw [List.length_map, List.length_cons, List.length_map, sizeLine_eq]; omega, ?_⟩
      rw [join_run (Nat.le_trans b1 (by decide)), w_some]
      exact ⟨rfl, rfl⟩), w_some]
    obtain ⟨c1, c2, c3⟩ := tx_facts h hl
    refine ⟨by rw [List.length_map, sizeLine_eq]; omega, ?_⟩
    rw [show (l.map fun p => PyData.str (sD p)) = (l.map sD).map PyData.str by rw [List.map_map]; rfl, join_run (Nat.le_trans c1 (by decide)), w_some]
    have e : tx l = Txt.join (Str.ofString ", ") (l.map sD) := if_neg h0
    rw [e] at q
    exact q
theorem text_spec {l : List (Str × List Int)} {M : Mem} {Q : U → Mem → Prop} (h : RowL l) (hl : l.length ≤ 40) (q : Q (.dat (.str (tx l))) M) : W (v__law_row_text [.dat (.tuple (l.map tD))] M) Q := by
  unfold v__law_row_text
  push_cast [wipeR]
  rw [List.map_map, show (U.dat ∘ tD) = (fun p => U.dat (tD p)) from rfl, vlc_mapX (fun p => U.dat (tD p)) (fun p => .str (sD p)) l (fun p hp => by
    obtain ⟨⟨a1, a2⟩, a3, a4⟩ := h p hp
    unfold tD
    push_cast [wipeR]
    refine ⟨rfl, .str p.1, at0, ?_⟩
    rw [cut1', vlc_mapD partF _ (fun d hd => by
      obtain ⟨i, hi, rfl⟩ := List.mem_map.mp hd
      push_cast [wipeR]
      rw [strF_int (a4 i hi), w_some]
      exact ⟨rfl, rfl⟩), w_some]
    obtain ⟨b1, b2, b3⟩ := sD_facts (h p hp)
    refine ⟨by rw [List.length_map, List.length_map, sizeLine_eq]; omega, by rw [List.length_map, List.length_map, sizeLine_eq]; omega, ?_⟩
    rw [show (PyData.str p.1 :: (p.2.map PyData.int).map partF) = (p.1 :: p.2.map numT).map PyData.str from sD_map p, join_run (Nat.le_trans b1 (by decide)), w_some]
    exact ⟨rfl, rfl⟩), w_some]
  obtain ⟨c1, c2, c3⟩ := tx_facts h hl
  refine ⟨by rw [List.length_map, sizeLine_eq]; omega, ?_⟩
  rw [show (l.map fun p => PyData.str (sD p)) = (l.map sD).map PyData.str by rw [List.map_map]; rfl, ne_strs (fun s hs => by
    obtain ⟨p, hp, rfl⟩ := List.mem_map.mp hs
    exact (sD_facts (h p hp)).2.2), w_some]
  refine ⟨_, rfl, ?_⟩
  by_cases h0 : l = []
  · subst h0
    exact q
  · rw [decide_eq_false (fun z => h0 (List.map_eq_nil_iff.mp z))]
    refine ⟨rfl, ?_⟩
    rw [join_run (Nat.le_trans c1 (by decide)), w_some]
    have e : tx l = Txt.join (Str.ofString ", ") (l.map sD) := if_neg h0
    rw [e] at q
    exact q
end Z

namespace Z
open PySem PySem.Spec PyProof.Rows L2 Lw Pu
local macro_rules | `(tactic| push_cast [$xs,*]) => `(tactic| (try simp only [$xs,*, w_fn, w_ret, w_seq, w_sif, w_of, w_trn, w_op, w_snil, w_pass, w_retn, w_asg, w_gnm, w_gsb, w_gtp, w_gcn, w_gn0, w_par, w_aug, w_drop, w_c, w_k, w_lst, w_tup, w_and, w_or, w_not, w_neg, w_ifx, w_tand, w_tor, w_tnot, w_cb, w_ck, w_mt, w_cons, w_nil, w_var, w_chain, w_sl, w_osome, w_onone, Pu.w_rev, w_dct0, w_for, w_iseq, w_irg1, w_lc, w_lc2, List.map_cons, List.map_nil, List.cons_append, List.nil_append, List.getElem?_cons_zero, List.getElem?_cons_succ, List.length_cons, List.length_nil, Option.some.injEq, exists_eq_left', w_some, List.replicate, List.set_cons_zero, List.set_cons_succ, frz_nil, frz_dat, frz_new, frz_new0, ne_ss, list_t, mk_nil, mk1, mk2, mk3, U.dat.injEq, PyData.int.injEq, PyData.bool.injEq, PyData.str.injEq, U.cell.injEq, add_ii, sub_ii, lt_ii, le_ii, gt_ii, ge_ii, eq_ii, ne_ii, eq_tt0, ne_tt0, eq_ds, sl_t, len_t, isi_int, isi_bool, isi_str, isi_tup, abs_i, min_ii, max_ii, int_i, int_b, mod_ii, fdiv_ii, mul_ii, pow_ii, add_ss, add_tt, mul_ti, repr_d, frzU_dat, and_true, true_and, and_assoc, List.cons.injEq, exists_and_left, exists_and_right, exists_eq_left, exists_eq_right, ix_t, ix_s, sl_s, len_s, is_non, Nat.reduceAdd, Nat.reduceSub, sz0, sz1, sz2, sz3, sz4, sz5, sz6, sz7, sz8, sz9, sz10, sz11, sz12, sz13, sz14, sz15, sz16, sz17, sz18, sz19, sz20, sz21, sz22, sz23, sz24, sz25, sz26, sz27, sz28, sz29, sz30, w_vtup, w_vlst, w_vhnd, w_fzl, w_vlc, w_vlc2, w_viseq, w_vien, w_vizp, w_irg2, w_vtxt, w_vfor, w_sown, w_vapp, w_vext, w_vsb, w_vpar, w_vparf, w_vparg, w_vsl, w_star, ad_nil, ad_dat, ad_map, ad_app, Option.map_some, vadd_ii, vadd_ss, vadd_tt, vadd_ll, vmul_ii, vmul_ti, vsl_t, vsl_l, vsl_s, seq_t, seq_lv, seq_dl, lst_lv, nc_lv, nc_dat, nc_scr, len_lv, ix_lv, vlist_t, vlist_l, vlistT_t, vtup_l, vtup_t, vrepr_d, vrepr_l, vsort_l, ty_lv, wipeR, dtup_t, List.append_nil, vcat_ll, U.lv.injEq, exists_eq, exists_eq', w_vsortr, w_vsortset, dictp_l, w_dictz, w_efld, w_gfld, w_flda, w_eme, w_emk, w_eca, w_nolv, w_never, isLv_dat, isLv_cell, isLv_adr, Pu.tupK_d, ixg_t, ixg_d, w_orU, w_gtpl, tr_lv, w_vparn, setNs_cons, setNs_nil]))
/-! ### a text, spoilt -/
noncomputable def sp1 : MS := (vPar 2 3 (eC (.str (Str.ofString "abcxyz0123456789 -(),;.@none"))) (eMt "str" vsplitF (eVar 1) (aCons (eC (.str (Str.ofString " "))) aNil)))
noncomputable def sp2 : MS := (vParN [4, 5, 6] (aCons (eCB v__law_take (aCons (eVar 0) (aCons (eOp vaddU (eCB lenF (aCons (eVar 1) aNil)) (eC (.int 1))) aNil))) (aCons (eCB v__law_of (aCons (eVar 0) (aCons (eVar 2) aNil))) (aCons (eCB v__law_take (aCons (eVar 0) (aCons (eCB lenF (aCons (eVar 3) aNil)) aNil))) aNil))))
noncomputable def sp3 : MS := (sAsg (vLst (aCons (eC (.str (Str.ofString "0"))) (aCons (eC (.str (Str.ofString "1"))) (aCons (eC (.str (Str.ofString "2"))) (aCons (eC (.str (Str.ofString "3"))) (aCons (eC (.str (Str.ofString "00"))) (aCons (eC (.str (Str.ofString "01"))) (aCons (eC (.str (Str.ofString "-1"))) (aCons (eC (.str (Str.ofString "6"))) (aCons (eOp vmulZ (eC (.str (Str.ofString "9"))) (eC (.int 70))) (aCons (eOp vaddU (eC (.str (Str.ofString "1"))) (eOp vmulZ (eC (.str (Str.ofString "0"))) (eC (.int 70)))) (aCons (eC (.str (Str.ofString "none"))) (aCons (eC (.str (Str.ofString "cell"))) (aCons (eC (.str (Str.ofString "came"))) (aCons (eC (.str (Str.ofString "came0"))) (aCons (eC (.str (Str.ofString ""))) aNil)))))))))))))))) (gNm 7))
noncomputable def sp4 : MS := (sAsg (eOp vaddU (eVar 7) (vLst (aCons (eC (.str (Str.ofString "kth"))) (aCons (eC (.str (Str.ofString "kth()"))) (aCons (eC (.str (Str.ofString "kth(1;none)"))) (aCons (eC (.str (Str.ofString "kth(0;none)"))) (aCons (eC (.str (Str.ofString "greatest()"))) (aCons (eC (.str (Str.ofString "least(none,none,none,none,none,none)"))) aNil)))))))) (gNm 7))
noncomputable def sp5 : MS := (sAsg (eOp vaddU (eVar 7) (vLst (aCons (eOp vaddU (eOp vaddU (eOp vmulZ (eC (.str (Str.ofString "least("))) (eC (.int 7))) (eC (.str (Str.ofString "none")))) (eOp vmulZ (eC (.str (Str.ofString ")"))) (eC (.int 7)))) (aCons (eOp vaddU (eOp vaddU (eOp vmulZ (eC (.str (Str.ofString "least("))) (eC (.int 8))) (eC (.str (Str.ofString "none")))) (eOp vmulZ (eC (.str (Str.ofString ")"))) (eC (.int 8)))) (aCons (eC (.str (Str.ofString "kth(2;none)"))) (aCons (eC (.str (Str.ofString "abcdefghi"))) (aCons (eC (.str (Str.ofString "on"))) aNil))))))) (gNm 7))
noncomputable def sp6 : MS := (sAsg (eOp vaddU (eVar 7) (vLst (aCons (eOp vaddU (eOp vaddU (eOp vmulZ (eC (.str (Str.ofString "greatest("))) (eC (.int 600))) (eC (.str (Str.ofString "none")))) (eOp vmulZ (eC (.str (Str.ofString ")"))) (eC (.int 600)))) (aCons (eOp vmulZ (eC (.str (Str.ofString "("))) (eC (.int 3000))) (aCons (eC (.str (Str.ofString "cells"))) (aCons (eC (.str (Str.ofString "deed"))) (aCons (eC (.str (Str.ofString "mode"))) (aCons (eC (.str (Str.ofString "set"))) (aCons (eC (.str (Str.ofString "tell"))) (aCons (eC (.str (Str.ofString "let"))) aNil)))))))))) (gNm 7))
noncomputable def sp7 : MS := (sAsg (eOp vaddU (eVar 7) (vLst (aCons (eC (.str (Str.ofString "place"))) (aCons (eC (.str (Str.ofString "came2"))) (aCons (eC (.str (Str.ofString "- 1"))) (aCons (eC (.str (Str.ofString "5@0.0"))) aNil)))))) (gNm 7))
noncomputable def spT : MS := (sSeq (sAsg (eCB v__law_take (aCons (eVar 0) (aCons (eC (.int 8)) aNil))) (gNm 8))
  (sSeq (sIf (tOf (eOp ltU (eVar 8) (eC (.int 3))))
  (sRet (eOp ixU (vLst (aCons (eOp vaddU (eOp vaddU (vSl (eVar 1) oNone (oSome (eVar 4))) (eVar 5)) (vSl (eVar 1) (oSome (eVar 4)) oNone)) (aCons (eOp vaddU (vSl (eVar 1) oNone (oSome (eVar 4))) (vSl (eVar 1) (oSome (eOp vaddU (eVar 4) (eC (.int 1)))) oNone)) (aCons (eOp vaddU (eOp vaddU (vSl (eVar 1) oNone (oSome (eVar 4))) (eVar 5)) (vSl (eVar 1) (oSome (eOp vaddU (eVar 4) (eC (.int 1)))) oNone)) aNil)))) (eVar 8)))
  sNil)
  (sSeq (sIf (tOf (eOp ltU (eVar 8) (eC (.int 6))))
  (sRet (eMt "str" joinF (eC (.str (Str.ofString " "))) (aCons (eOp vaddU (eOp vaddU (vSl (eVar 3) oNone (oSome (eVar 6))) (vLst (aCons (eCB v__law_of (aCons (eVar 0) (aCons (eVar 7) aNil))) aNil))) (vSl (eVar 3) (oSome (eOp vaddU (eVar 6) (eC (.int 1)))) oNone)) aNil)))
  sNil)
  (sSeq (sAsg (eOp vmulU (vSl (eVar 3) (oSome (eVar 6)) (oSome (eOp vaddU (eVar 6) (eC (.int 1))))) (eOp vmulU (eC (.int 2)) (eCB intF (aCons (eOp eqU (eVar 8) (eC (.int 6))) aNil)))) (gNm 9))
  (sRet (eMt "str" joinF (eC (.str (Str.ofString " "))) (aCons (eOp vaddU (eOp vaddU (vSl (eVar 3) oNone (oSome (eVar 6))) (eVar 9)) (vSl (eVar 3) (oSome (eOp vaddU (eVar 6) (eC (.int 1)))) oNone)) aNil)))))))
theorem spoilt_eq : v__law_spoilt_row = mkFn 2 10 (sSeq sp1 (sSeq sp2 (sSeq sp3 (sSeq sp4 (sSeq sp5 (sSeq sp6 (sSeq sp7 spT))))))) := rfl
/-! ### the odd words -/
def Gn (n : Nat) (s : Str) : Prop := Asc s ∧ s.length ≤ n
def Gs (ss : List Str) : Prop := ∀ s ∈ ss, Gn 7000 s
theorem Gs.nil : Gs [] := fun s h => by cases h
theorem Gn.up {n m : Nat} {s : Str} (h : Gn n s) (l : n ≤ m) : Gn m s := ⟨h.1, Nat.le_trans h.2 l⟩
theorem Gs.cons {n : Nat} {s : Str} {ss : List Str} (h : Gn n s) (g : Gs ss) (l : n ≤ 7000 := by decide) : Gs (s :: ss) := fun z hz => by
  rcases List.mem_cons.mp hz with rfl | hz
  · exact h.up l
  · exact g z hz
theorem Gs.app {ss ts : List Str} (h : Gs ss) (g : Gs ts) : Gs (ss ++ ts) := fun z hz => (List.mem_append.mp hz).elim (h z) (g z)
theorem g_lit {s : Str} {n : Nat} (h : (s.cps.toList.all fun c => decide (c < 128)) = true ∧ s.length ≤ n) : Gn n s := ⟨fun c hc => of_decide_eq_true (List.all_eq_true.mp h.1 c hc), h.2⟩
theorem rep_acc (a : Array Nat) : ∀ (k : Nat) (acc : Array Nat), ((List.replicate k a).foldl (· ++ ·) acc).toList = acc.toList ++ (List.replicate k a.toList).flatten
  | 0, acc => by simp
  | k + 1, acc => by
    rw [List.replicate_succ, List.foldl_cons, rep_acc a k, List.replicate_succ, List.flatten_cons, Array.toList_append, List.append_assoc]
theorem rep_list (z : Str) (k : Nat) : (repS z k).cps.toList = (List.replicate k z.cps.toList).flatten := by
  unfold repS
  rw [rep_acc]
  simp
theorem rep_len (z : Str) (k : Nat) : (repS z k).length = k * z.length := by
  rw [← len_list, rep_list, List.length_flatten, List.map_replicate, List.sum_replicate_nat, len_list]
theorem g_rep {z : Str} {k n : Nat} (h : (z.cps.toList.all fun c => decide (c < 128)) = true) (l : k * z.length ≤ n) : Gn n (repS z k) := by
  refine ⟨fun c hc => ?_, by rw [rep_len]; exact l⟩
  rw [rep_list] at hc
  obtain ⟨p, hp, hc⟩ := List.mem_flatten.mp hc
  rw [(List.mem_replicate.mp hp).2] at hc
  exact of_decide_eq_true (List.all_eq_true.mp h c hc)
theorem Str.length_append (a b : Str) : (a ++ b).length = a.length + b.length := Array.size_append
theorem g_app {n m k : Nat} {a b : Str} (h : Gn n a) (g : Gn m b) (l : n + m ≤ k) : Gn k (a ++ b) := by
  refine ⟨fun c hc => ?_, ?_⟩
  · have e : (a ++ b).cps.toList = a.cps.toList ++ b.cps.toList := Array.toList_append
    rw [e] at hc
    exact (List.mem_append.mp hc).elim (h.1 c) (g.1 c)
  · rw [Str.length_append]
    exact Nat.le_trans (Nat.add_le_add h.2 g.2) l
theorem mul_txt {z : Str} {k : Nat} {M : Mem} (h1 : 2 ≤ k) (h2 : k ≤ 10000) (h3 : 1 ≤ z.length) (h4 : z.length ≤ 1000) : vmulZ (.dat (.str z)) (.dat (.int (k : Int))) M = some (.dat (.str (repS z k)), M) := by
  have a1 : fI CMulW (fun i j => .int (i * j)) (.dat (.str z)) (.dat (.int (k : Int))) M = none := rfl
  have a2 : mulS (.dat (.str z)) (.dat (.int (k : Int))) M = none := by
    unfold mulS
    simp only
    rw [if_neg (by omega), if_neg (by omega)]
  have a3 : repT (.dat (.str z)) (.dat (.int (k : Int))) M = none := rfl
  have a4 : mulSN (.dat (.str z)) (.dat (.int (k : Int))) M = some (.dat (.str (repS z k)), M) := by
    unfold mulSN
    simp only
    rw [if_pos (by omega), Int.toNat_natCast]
  unfold vmulZ orF
  simp only [a1, a2, a3, a4]
theorem add_txt {a b : Str} {M : Mem} {Q : U → Mem → Prop} (h : a.length + b.length ≤ sizeLine) (q : Q (.dat (.str (a ++ b))) M) : W (vaddU (.dat (.str a)) (.dat (.str b)) M) Q := vadd_ss.mpr ⟨h, q⟩
theorem sp3_run {c0 c1 c2 c3 c4 c5 c6 c7 c8 c9 : Option U} {M : Mem} {Q : Out → Mem → Prop} (q : ∀ ss : List Str, Gs ss → ss.length = 15 → Q (.nx [c0, c1, c2, c3, c4, c5, c6, some (.lv (ss.map .str)), c8, c9]) M) : W (sp3 [c0, c1, c2, c3, c4, c5, c6, c7, c8, c9] M) Q := by
  unfold sp3
  push_cast [wipeR]
  rw [show vmulZ (U.dat (PyData.str (Str.ofString "9"))) (U.dat (PyData.int 70)) M = some (U.dat (PyData.str (repS (Str.ofString "9") 70)), M) from mul_txt (k := 70) (by decide) (by decide) (by decide) (by decide), w_some]
  rw [show vmulZ (U.dat (PyData.str (Str.ofString "0"))) (U.dat (PyData.int 70)) M = some (U.dat (PyData.str (repS (Str.ofString "0") 70)), M) from mul_txt (k := 70) (by decide) (by decide) (by decide) (by decide), w_some]
  refine add_txt (by rw [rep_len, sizeLine_eq]; decide) ?_
  exact ⟨_, rfl, by rw [sizeLine_eq]; decide, q [(Str.ofString "0"), (Str.ofString "1"), (Str.ofString "2"), (Str.ofString "3"), (Str.ofString "00"), (Str.ofString "01"), (Str.ofString "-1"), (Str.ofString "6"), (repS (Str.ofString "9") 70), ((Str.ofString "1") ++ repS (Str.ofString "0") 70), (Str.ofString "none"), (Str.ofString "cell"), (Str.ofString "came"), (Str.ofString "came0"), (Str.ofString "")] (Gs.cons (n := 7000) (g_lit (by decide)) (Gs.cons (n := 7000) (g_lit (by decide)) (Gs.cons (n := 7000) (g_lit (by decide)) (Gs.cons (n := 7000) (g_lit (by decide)) (Gs.cons (n := 7000) (g_lit (by decide)) (Gs.cons (n := 7000) (g_lit (by decide)) (Gs.cons (n := 7000) (g_lit (by decide)) (Gs.cons (n := 7000) (g_lit (by decide)) (Gs.cons (n := 7000) (g_rep (by decide) (by decide)) (Gs.cons (n := 7000) (g_app (n := 1) (m := 70) (g_lit (by decide)) (g_rep (by decide) (by decide)) (by decide)) (Gs.cons (n := 7000) (g_lit (by decide)) (Gs.cons (n := 7000) (g_lit (by decide)) (Gs.cons (n := 7000) (g_lit (by decide)) (Gs.cons (n := 7000) (g_lit (by decide)) (Gs.cons (n := 7000) (g_lit (by decide)) Gs.nil))))))))))))))) rfl⟩
theorem sp4_run {c0 c1 c2 c3 c4 c5 c6 c8 c9 : Option U} {M : Mem} {Q : Out → Mem → Prop} {ts : List Str} (hg : Gs ts) (hl : ts.length ≤ 100) (q : ∀ ss : List Str, Gs ss → ss.length = ts.length + 6 → Q (.nx [c0, c1, c2, c3, c4, c5, c6, some (.lv (ss.map .str)), c8, c9]) M) : W (sp4 [c0, c1, c2, c3, c4, c5, c6, some (.lv (ts.map .str)), c8, c9] M) Q := by
  have z := q (ts ++ [(Str.ofString "kth"), (Str.ofString "kth()"), (Str.ofString "kth(1;none)"), (Str.ofString "kth(0;none)"), (Str.ofString "greatest()"), (Str.ofString "least(none,none,none,none,none,none)")]) (hg.app (Gs.cons (n := 7000) (g_lit (by decide)) (Gs.cons (n := 7000) (g_lit (by decide)) (Gs.cons (n := 7000) (g_lit (by decide)) (Gs.cons (n := 7000) (g_lit (by decide)) (Gs.cons (n := 7000) (g_lit (by decide)) (Gs.cons (n := 7000) (g_lit (by decide)) Gs.nil))))))) (by rw [List.length_append]; rfl)
  rw [List.map_append] at z
  unfold sp4
  push_cast [wipeR]
  exact ⟨by rw [List.length_map, sizeLine_eq]; exact Nat.le_trans (Nat.add_le_add_right hl _) (by decide), z⟩
theorem sp5_run {c0 c1 c2 c3 c4 c5 c6 c8 c9 : Option U} {M : Mem} {Q : Out → Mem → Prop} {ts : List Str} (hg : Gs ts) (hl : ts.length ≤ 100) (q : ∀ ss : List Str, Gs ss → ss.length = ts.length + 5 → Q (.nx [c0, c1, c2, c3, c4, c5, c6, some (.lv (ss.map .str)), c8, c9]) M) : W (sp5 [c0, c1, c2, c3, c4, c5, c6, some (.lv (ts.map .str)), c8, c9] M) Q := by
  have z := q (ts ++ [(repS (Str.ofString "least(") 7 ++ (Str.ofString "none") ++ repS (Str.ofString ")") 7), (repS (Str.ofString "least(") 8 ++ (Str.ofString "none") ++ repS (Str.ofString ")") 8), (Str.ofString "kth(2;none)"), (Str.ofString "abcdefghi"), (Str.ofString "on")]) (hg.app (Gs.cons (n := 7000) (g_app (n := 46) (m := 7) (g_app (n := 42) (m := 4) (g_rep (by decide) (by decide)) (g_lit (by decide)) (by decide)) (g_rep (by decide) (by decide)) (by decide)) (Gs.cons (n := 7000) (g_app (n := 52) (m := 8) (g_app (n := 48) (m := 4) (g_rep (by decide) (by decide)) (g_lit (by decide)) (by decide)) (g_rep (by decide) (by decide)) (by decide)) (Gs.cons (n := 7000) (g_lit (by decide)) (Gs.cons (n := 7000) (g_lit (by decide)) (Gs.cons (n := 7000) (g_lit (by decide)) Gs.nil)))))) (by rw [List.length_append]; rfl)
  rw [List.map_append] at z
  unfold sp5
  push_cast [wipeR]
  rw [show vmulZ (U.dat (PyData.str (Str.ofString "least("))) (U.dat (PyData.int 7)) M = some (U.dat (PyData.str (repS (Str.ofString "least(") 7)), M) from mul_txt (k := 7) (by decide) (by decide) (by decide) (by decide), w_some]
  refine add_txt (by rw [rep_len, sizeLine_eq]; decide) ?_
  rw [show vmulZ (U.dat (PyData.str (Str.ofString ")"))) (U.dat (PyData.int 7)) M = some (U.dat (PyData.str (repS (Str.ofString ")") 7)), M) from mul_txt (k := 7) (by decide) (by decide) (by decide) (by decide), w_some]
  refine add_txt (by rw [Str.length_append, rep_len, rep_len, sizeLine_eq]; decide) ?_
  rw [show vmulZ (U.dat (PyData.str (Str.ofString "least("))) (U.dat (PyData.int 8)) M = some (U.dat (PyData.str (repS (Str.ofString "least(") 8)), M) from mul_txt (k := 8) (by decide) (by decide) (by decide) (by decide), w_some]
  refine add_txt (by rw [rep_len, sizeLine_eq]; decide) ?_
  rw [show vmulZ (U.dat (PyData.str (Str.ofString ")"))) (U.dat (PyData.int 8)) M = some (U.dat (PyData.str (repS (Str.ofString ")") 8)), M) from mul_txt (k := 8) (by decide) (by decide) (by decide) (by decide), w_some]
  refine add_txt (by rw [Str.length_append, rep_len, rep_len, sizeLine_eq]; decide) ?_
  exact ⟨_, rfl, by rw [sizeLine_eq]; decide, by rw [List.length_map, sizeLine_eq]; exact Nat.le_trans (Nat.add_le_add_right hl _) (by decide), z⟩
theorem sp6_run {c0 c1 c2 c3 c4 c5 c6 c8 c9 : Option U} {M : Mem} {Q : Out → Mem → Prop} {ts : List Str} (hg : Gs ts) (hl : ts.length ≤ 100) (q : ∀ ss : List Str, Gs ss → ss.length = ts.length + 8 → Q (.nx [c0, c1, c2, c3, c4, c5, c6, some (.lv (ss.map .str)), c8, c9]) M) : W (sp6 [c0, c1, c2, c3, c4, c5, c6, some (.lv (ts.map .str)), c8, c9] M) Q := by
  have z := q (ts ++ [(repS (Str.ofString "greatest(") 600 ++ (Str.ofString "none") ++ repS (Str.ofString ")") 600), (repS (Str.ofString "(") 3000), (Str.ofString "cells"), (Str.ofString "deed"), (Str.ofString "mode"), (Str.ofString "set"), (Str.ofString "tell"), (Str.ofString "let")]) (hg.app (Gs.cons (n := 7000) (g_app (n := 5404) (m := 600) (g_app (n := 5400) (m := 4) (g_rep (by decide) (by decide)) (g_lit (by decide)) (by decide)) (g_rep (by decide) (by decide)) (by decide)) (Gs.cons (n := 7000) (g_rep (by decide) (by decide)) (Gs.cons (n := 7000) (g_lit (by decide)) (Gs.cons (n := 7000) (g_lit (by decide)) (Gs.cons (n := 7000) (g_lit (by decide)) (Gs.cons (n := 7000) (g_lit (by decide)) (Gs.cons (n := 7000) (g_lit (by decide)) (Gs.cons (n := 7000) (g_lit (by decide)) Gs.nil))))))))) (by rw [List.length_append]; rfl)
  rw [List.map_append] at z
  unfold sp6
  push_cast [wipeR]
  rw [show vmulZ (U.dat (PyData.str (Str.ofString "greatest("))) (U.dat (PyData.int 600)) M = some (U.dat (PyData.str (repS (Str.ofString "greatest(") 600)), M) from mul_txt (k := 600) (by decide) (by decide) (by decide) (by decide), w_some]
  refine add_txt (by rw [rep_len, sizeLine_eq]; decide) ?_
  rw [show vmulZ (U.dat (PyData.str (Str.ofString ")"))) (U.dat (PyData.int 600)) M = some (U.dat (PyData.str (repS (Str.ofString ")") 600)), M) from mul_txt (k := 600) (by decide) (by decide) (by decide) (by decide), w_some]
  refine add_txt (by rw [Str.length_append, rep_len, rep_len, sizeLine_eq]; decide) ?_
  rw [show vmulZ (U.dat (PyData.str (Str.ofString "("))) (U.dat (PyData.int 3000)) M = some (U.dat (PyData.str (repS (Str.ofString "(") 3000)), M) from mul_txt (k := 3000) (by decide) (by decide) (by decide) (by decide), w_some]
  exact ⟨_, rfl, by rw [sizeLine_eq]; decide, by rw [List.length_map, sizeLine_eq]; exact Nat.le_trans (Nat.add_le_add_right hl _) (by decide), z⟩
theorem sp7_run {c0 c1 c2 c3 c4 c5 c6 c8 c9 : Option U} {M : Mem} {Q : Out → Mem → Prop} {ts : List Str} (hg : Gs ts) (hl : ts.length ≤ 100) (q : ∀ ss : List Str, Gs ss → ss.length = ts.length + 4 → Q (.nx [c0, c1, c2, c3, c4, c5, c6, some (.lv (ss.map .str)), c8, c9]) M) : W (sp7 [c0, c1, c2, c3, c4, c5, c6, some (.lv (ts.map .str)), c8, c9] M) Q := by
  have z := q (ts ++ [(Str.ofString "place"), (Str.ofString "came2"), (Str.ofString "- 1"), (Str.ofString "5@0.0")]) (hg.app (Gs.cons (n := 7000) (g_lit (by decide)) (Gs.cons (n := 7000) (g_lit (by decide)) (Gs.cons (n := 7000) (g_lit (by decide)) (Gs.cons (n := 7000) (g_lit (by decide)) Gs.nil))))) (by rw [List.length_append]; rfl)
  rw [List.map_append] at z
  unfold sp7
  push_cast [wipeR]
  exact ⟨by rw [List.length_map, sizeLine_eq]; exact Nat.le_trans (Nat.add_le_add_right hl _) (by decide), z⟩
theorem sp1_run {c0 c2 c3 c4 c5 c6 c7 c8 c9 : Option U} {t : Str} {M : Mem} {Q : Out → Mem → Prop} (hw : t.length ≤ 200000) (q : Q (.nx [c0, some (.dat (.str t)), some (.dat (.str (Str.ofString "abcxyz0123456789 -(),;.@none"))), some (.lv ((Txt.split t (Str.ofString " ")).map .str)), c4, c5, c6, c7, c8, c9]) M) : W (sp1 [c0, some (.dat (.str t)), c2, c3, c4, c5, c6, c7, c8, c9] M) Q := by
  unfold sp1
  push_cast [wipeR]
  refine ⟨rfl, ?_⟩
  rw [split_run (by decide) hw, w_some]
  exact q
theorem sp2_run {N M : Mem} {h n : Nat} {t : Str} {c4 c5 c6 c7 c8 c9 : Option U} {ws : List Str} {Q : Out → Mem → Prop} (hh : HF N h n M) (hn : n + 3 ≤ 1000000000) (hw : t.length ≤ 200000) (h0 : 0 < ws.length) (hl : ws.length ≤ 300000)
    (q : ∀ (i j c : Nat) M', i ≤ t.length → j < ws.length → c < 128 → HF N h (n + 3) M' → Q (.nx [some (.cell h), some (.dat (.str t)), some (.dat (.str (Str.ofString "abcxyz0123456789 -(),;.@none"))), some (.lv (ws.map .str)), some (.dat (.int (i : Int))), some (.dat (.str ⟨#[c]⟩)), some (.dat (.int (j : Int))), c7, c8, c9]) M') :
    W (sp2 [some (.cell h), some (.dat (.str t)), some (.dat (.str (Str.ofString "abcxyz0123456789 -(),;.@none"))), some (.lv (ws.map .str)), c4, c5, c6, c7, c8, c9] M) Q := by
  unfold sp2
  push_cast [wipeR]
  refine ⟨by rw [sizeLine_eq]; omega, ?_⟩
  rw [show ((t.length : Int) + 1) = ((t.length + 1 : Nat) : Int) from rfl]
  refine take_nat hh (by omega) (by omega) (by omega) fun i M1 hi h1 => ?_
  refine of_s h1 (by omega) (by decide) (by decide) fun c M2 hc h2 => ?_
  rw [List.length_map]
  refine take_nat h2 (by omega) h0 (by omega) fun j M3 hj h3 => ?_
  exact q i j c M3 (by omega) hj ((show ∀ c ∈ (Str.ofString "abcxyz0123456789 -(),;.@none").cps.toList, c < 128 by decide) c hc) h3
end Z

namespace Z
open PySem PySem.Spec PyProof.Rows L2 Lw Pu
local macro_rules | `(tactic| push_cast [$xs,*]) => `(tactic| (try simp only [$xs,*, w_fn, w_ret, w_seq, w_sif, w_of, w_trn, w_op, w_snil, w_pass, w_retn, w_asg, w_gnm, w_gsb, w_gtp, w_gcn, w_gn0, w_par, w_aug, w_drop, w_c, w_k, w_lst, w_tup, w_and, w_or, w_not, w_neg, w_ifx, w_tand, w_tor, w_tnot, w_cb, w_ck, w_mt, w_cons, w_nil, w_var, w_chain, w_sl, w_osome, w_onone, Pu.w_rev, w_dct0, w_for, w_iseq, w_irg1, w_lc, w_lc2, List.map_cons, List.map_nil, List.cons_append, List.nil_append, List.getElem?_cons_zero, List.getElem?_cons_succ, List.length_cons, List.length_nil, Option.some.injEq, exists_eq_left', w_some, List.replicate, List.set_cons_zero, List.set_cons_succ, frz_nil, frz_dat, frz_new, frz_new0, ne_ss, list_t, mk_nil, mk1, mk2, mk3, U.dat.injEq, PyData.int.injEq, PyData.bool.injEq, PyData.str.injEq, U.cell.injEq, add_ii, sub_ii, lt_ii, le_ii, gt_ii, ge_ii, eq_ii, ne_ii, eq_tt0, ne_tt0, eq_ds, sl_t, len_t, isi_int, isi_bool, isi_str, isi_tup, abs_i, min_ii, max_ii, int_i, int_b, mod_ii, fdiv_ii, mul_ii, pow_ii, add_ss, add_tt, mul_ti, repr_d, frzU_dat, and_true, true_and, and_assoc, List.cons.injEq, exists_and_left, exists_and_right, exists_eq_left, exists_eq_right, ix_t, ix_s, sl_s, len_s, is_non, Nat.reduceAdd, Nat.reduceSub, sz0, sz1, sz2, sz3, sz4, sz5, sz6, sz7, sz8, sz9, sz10, sz11, sz12, sz13, sz14, sz15, sz16, sz17, sz18, sz19, sz20, sz21, sz22, sz23, sz24, sz25, sz26, sz27, sz28, sz29, sz30, w_vtup, w_vlst, w_vhnd, w_fzl, w_vlc, w_vlc2, w_viseq, w_vien, w_vizp, w_irg2, w_vtxt, w_vfor, w_sown, w_vapp, w_vext, w_vsb, w_vpar, w_vparf, w_vparg, w_vsl, w_star, ad_nil, ad_dat, ad_map, ad_app, Option.map_some, vadd_ii, vadd_ss, vadd_tt, vadd_ll, vmul_ii, vmul_ti, vsl_t, vsl_l, vsl_s, seq_t, seq_lv, seq_dl, lst_lv, nc_lv, nc_dat, nc_scr, len_lv, ix_lv, vlist_t, vlist_l, vlistT_t, vtup_l, vtup_t, vrepr_d, vrepr_l, vsort_l, ty_lv, wipeR, dtup_t, List.append_nil, vcat_ll, U.lv.injEq, exists_eq, exists_eq', w_vsortr, w_vsortset, dictp_l, w_dictz, w_efld, w_gfld, w_flda, w_eme, w_emk, w_eca, w_nolv, w_never, isLv_dat, isLv_cell, isLv_adr, Pu.tupK_d, ixg_t, ixg_d, w_orU, w_gtpl, tr_lv, w_vparn, setNs_cons, setNs_nil]))
theorem cut_sub (t : Str) (lo hi : Option Int) : (cutS t lo hi).cps.toList.Sublist t.cps.toList := by
  unfold cutS
  exact (List.take_sublist _ _).trans (List.drop_sublist _ _)
theorem cut_g {t : Str} {n : Nat} (h : Gn n t) (lo hi : Option Int) : Gn n (cutS t lo hi) :=
  ⟨fun c hc => h.1 c ((cut_sub t lo hi).mem hc), by rw [← len_list]; exact Nat.le_trans (cut_sub t lo hi).length_le (by rw [len_list]; exact h.2)⟩
theorem cutD_sub (ws : List Str) (lo hi : Option Int) : ∃ vs : List Str, Lw.cutD (ws.map PyData.str) lo hi = vs.map .str ∧ vs.Sublist ws := by
  unfold Lw.cutD
  refine ⟨(ws.drop (HT.sIx (ws.map PyData.str).length 0 lo)).take (HT.sIx (ws.map PyData.str).length (ws.map PyData.str).length hi - HT.sIx (ws.map PyData.str).length 0 lo), ?_, (List.take_sublist _ _).trans (List.drop_sublist _ _)⟩
  rw [List.map_take, List.map_drop]
theorem sum_sub {f : Str → Nat} : ∀ {vs ws : List Str}, vs.Sublist ws → (vs.map f).sum ≤ (ws.map f).sum := fun h => by
  induction h with
  | slnil => exact Nat.le_refl _
  | cons a h ih =>
    rw [List.map_cons, List.sum_cons]
    omega
  | cons_cons a h ih =>
    rw [List.map_cons, List.map_cons, List.sum_cons, List.sum_cons]
    omega
theorem g_one {c : Nat} (h : c < 128) : Gn 1 (⟨#[c]⟩ : Str) := ⟨fun d hd => by
  have : d = c := by simpa using hd
  rw [this]
  exact h, Nat.le_refl _⟩
/-- words joined again -/
theorem join_words {ws : List Str} {n : Nat} (hn : n ≤ 1000000) (h1 : (ws.map (·.length)).sum ≤ n) (h2 : ws.length ≤ n + 1) (h3 : ∀ w ∈ ws, Asc w) {M : Mem} {Q : U → Mem → Prop} (q : ∀ z, Gn (2 * n + 1) z → Q (.dat (.str z)) M) : W (joinF (.dat (.str (Str.ofString " "))) [.lv (ws.map .str)] M) Q := by
  have e1 : (Str.ofString " ").length = 1 := rfl
  rw [join_run (by rw [e1]; omega), w_some]
  have j := join_facts (b := Str.ofString " ") (by intro c hc; revert c; decide) (ss := ws)
  refine q _ ⟨j.2 h3, ?_⟩
  rw [e1] at j
  omega
theorem rep_sum (k : Nat) (vm : List Str) : ((List.replicate k vm).flatten.map fun w => w.length).sum = k * (vm.map fun w => w.length).sum := by
  induction k with
  | zero => simp
  | succ k ih =>
    rw [List.replicate_succ, List.flatten_cons, List.map_append, List.sum_append, ih, Nat.succ_mul]
    omega
theorem lt3 {x : Nat} (h : x < 3) : x = 0 ∨ x = 1 ∨ x = 2 := by omega
theorem spT_run {N M : Mem} {h n : Nat} {t : Str} {c2 c8 c9 : Option U} {ws ss : List Str} {i j c : Nat} {Q : Out → Mem → Prop} (hh : HF N h n M) (hn : n + 3 ≤ 1000000000) (ht : Gn 200000 t) (hc : c < 128) (w1 : (ws.map (·.length)).sum ≤ t.length) (w2 : ws.length ≤ t.length + 1) (w3 : ∀ w ∈ ws, Asc w) (s1 : Gs ss) (s2 : 0 < ss.length) (s3 : ss.length ≤ 100)
    (q : ∀ z M', Gn (8 * t.length + 16000) z → HF N h (n + 3) M' → Q (.rt (.dat (.str z))) M') :
    W (spT [some (.cell h), some (.dat (.str t)), c2, some (.lv (ws.map .str)), some (.dat (.int (i : Int))), some (.dat (.str ⟨#[c]⟩)), some (.dat (.int (j : Int))), some (.lv (ss.map .str)), c8, c9] M) Q := by
  have gt : Gn t.length t := ⟨ht.1, Nat.le_refl _⟩
  have g1 := g_one hc
  have hl : t.length ≤ 200000 := ht.2
  have sz : ∀ k : Nat, k ≤ 1000000 → k ≤ sizeLine := fun k hk => by rw [sizeLine_eq]; omega
  have lc : ∀ lo hi, (cutS t lo hi).length ≤ t.length := fun lo hi => (cut_g gt lo hi).2
  have l1 : ({ cps := #[c] } : Str).length = 1 := rfl
  unfold spT
  push_cast [wipeR]
  refine take_nat hh (by omega) (k := 8) (by decide) (by decide) fun x M1 hx h1 => ?_
  push_cast [wipeR]
  by_cases x3 : x < 3
  · rw [show decide ((x : Int) < 3) = true from by simp; omega]
    have a1 := lc none (some (i : Int))
    have a2 := lc (some (i : Int)) none
    have a3 := lc (some ((i : Int) + 1)) none
    simp only [Str.length_append, l1]
    refine ⟨sz _ (by omega), sz _ (by omega), sz _ (by omega), sz _ (by omega), sz _ (by omega), sz _ (by omega), sz _ (by omega), sz _ (by omega), sz _ (by omega), sz _ (by omega), sz _ (by omega), ?_⟩
    have b1 := g_app (k := 8 * t.length + 16000) (g_app (k := t.length + 1) (cut_g gt none (some (i : Int))) g1 (Nat.le_refl _)) (cut_g gt (some (i : Int)) none) (by omega)
    have b2 := g_app (k := 8 * t.length + 16000) (cut_g gt none (some (i : Int))) (cut_g gt (some ((i : Int) + 1)) none) (by omega)
    have b3 := g_app (k := 8 * t.length + 16000) (g_app (k := t.length + 1) (cut_g gt none (some (i : Int))) g1 (Nat.le_refl _)) (cut_g gt (some ((i : Int) + 1)) none) (by omega)
    rcases lt3 x3 with rfl | rfl | rfl
    · push_cast [wipeR]
      exact ⟨_, at0, q _ _ b1 (h1.mono (by omega))⟩
    · push_cast [wipeR]
      exact ⟨_, at01, q _ _ b2 (h1.mono (by omega))⟩
    · push_cast [wipeR]
      exact ⟨_, at02, q _ _ b3 (h1.mono (by omega))⟩
  · rw [show decide ((x : Int) < 3) = false from by simp; omega]
    simp only
    obtain ⟨va, ea, sa⟩ := cutD_sub ws none (some (j : Int))
    obtain ⟨vb, eb, sb⟩ := cutD_sub ws (some ((j : Int) + 1)) none
    obtain ⟨vm, em, sm⟩ := cutD_sub ws (some (j : Int)) (some ((j : Int) + 1))
    have ka := Nat.le_trans (sum_sub (f := fun w => w.length) sa) w1
    have kb := Nat.le_trans (sum_sub (f := fun w => w.length) sb) w1
    have km := Nat.le_trans (sum_sub (f := fun w => w.length) sm) w1
    have la := Nat.le_trans sa.length_le w2
    have lb := Nat.le_trans sb.length_le w2
    have lm := Nat.le_trans sm.length_le w2
    by_cases x6 : x < 6
    · rw [show decide ((x : Int) < 6) = true from by simp; omega]
      refine ⟨rfl, ?_⟩
      refine of_l h1 (by omega) (by rw [List.length_map]; exact s2) (by rw [List.length_map]; omega) fun d M2 hd h2 => ?_
      obtain ⟨o, ho, rfl⟩ := List.mem_map.mp hd
      have go := s1 o ho
      rw [ea, eb]
      refine ⟨[.str o], rfl, sz _ (by simp), by rw [List.length_map]; exact sz _ (by simp; omega), by rw [List.length_append, List.length_map, List.length_map]; exact sz _ (by simp; omega), ?_⟩
      rw [show (va.map PyData.str ++ [PyData.str o] ++ vb.map PyData.str) = (va ++ [o] ++ vb).map PyData.str by simp]
      refine join_words (n := 2 * t.length + 7000) (by omega) ?_ ?_ ?_ fun z gz => q z M2 (gz.up (by omega)) (h2.mono (by omega))
      · have := go.2
        simp only [List.map_append, List.sum_append, List.map_cons, List.map_nil, List.sum_cons, List.sum_nil]
        omega
      · simp only [List.length_append, List.length_cons, List.length_nil]
        omega
      · intro w hw
        rcases List.mem_append.mp hw with hw | hw
        · rcases List.mem_append.mp hw with hw | hw
          · exact w3 w (sa.mem hw)
          · rw [List.mem_singleton.mp hw]
            exact go.1
        · exact w3 w (sb.mem hw)
    · rw [show decide ((x : Int) < 6) = false from by simp; omega]
      simp only
      push_cast [wipeR]
      rw [ea, eb, em]
      obtain ⟨k, hk, ek⟩ : ∃ k : Nat, k ≤ 2 ∧ ((2 : Int) * if decide ((x : Int) = 6) = true then 1 else 0) = (k : Int) := by
        by_cases h6 : x = 6
        · exact ⟨2, Nat.le_refl _, by subst h6; rfl⟩
        · exact ⟨0, by decide, by rw [if_neg (by simp; omega)]; rfl⟩
      rw [ek]
      refine ⟨by unfold CMulW; split <;> decide, ?_⟩
      rw [vmul_lv]
      have kl : k * vm.length ≤ 2 * vm.length := Nat.mul_le_mul_right _ hk
      have kc := Nat.mul_comm vm.length k
      refine ⟨⟨by omega, by omega, by rw [List.length_map, Int.toNat_natCast]; exact sz _ (by omega)⟩, rfl, ?_⟩
      rw [Int.toNat_natCast, show (List.replicate k (vm.map PyData.str)).flatten = ((List.replicate k vm).flatten).map PyData.str by rw [List.map_flatten, List.map_replicate]]
      have fl : (List.replicate k vm).flatten.length = k * vm.length := by rw [List.length_flatten, List.map_replicate, List.sum_replicate_nat]
      have fs : ((List.replicate k vm).flatten.map fun w => w.length).sum = k * (vm.map fun w => w.length).sum := rep_sum k vm
      have ks : k * (vm.map fun w => w.length).sum ≤ 2 * (vm.map fun w => w.length).sum := Nat.mul_le_mul_right _ hk
      rw [vadd_ll]
      refine ⟨by rw [List.length_map, List.length_map, fl]; exact sz _ (by omega), ?_⟩
      rw [← List.map_append, vadd_ll]
      refine ⟨by rw [List.length_map, List.length_map, List.length_append, fl]; exact sz _ (by omega), ?_⟩
      rw [← List.map_append]
      refine join_words (n := 4 * t.length + 4) (by omega) ?_ ?_ ?_ fun z gz => q z M1 (gz.up (by omega)) (h1.mono (by omega))
      · simp only [List.map_append, List.sum_append]
        rw [fs]
        omega
      · rw [List.length_append, List.length_append, fl]
        omega
      · intro w hw
        rcases List.mem_append.mp hw with hw | hw
        · rcases List.mem_append.mp hw with hw | hw
          · exact w3 w (sa.mem hw)
          · obtain ⟨l, hl', hw⟩ := List.mem_flatten.mp hw
            rw [(List.mem_replicate.mp hl').2] at hw
            exact w3 w (sm.mem hw)
        · exact w3 w (sb.mem hw)
theorem spoilt_spec {N M : Mem} {h n : Nat} {t : Str} {Q : U → Mem → Prop} (hh : HF N h n M) (hn : n + 6 ≤ 1000000000) (ht : Gn 200000 t) (q : ∀ z M', Gn (8 * t.length + 16000) z → HF N h (n + 6) M' → Q (.dat (.str z)) M') : W (v__law_spoilt_row [.cell h, .dat (.str t)] M) Q := by
  obtain ⟨x, xs, es, hf, hs, hl⟩ := sp_split t
  rw [spoilt_eq, w_fn]
  refine ⟨rfl, ?_⟩
  show W (sSeq sp1 _ [some (.cell h), some (.dat (.str t)), none, none, none, none, none, none, none, none] M) _
  rw [w_seq]
  refine sp1_run ht.2 ?_
  rw [es]
  show W (sSeq sp2 _ _ M) _
  rw [w_seq]
  refine sp2_run hh (by omega) ht.2 (by simp) (by rw [List.length_cons]; have := ht.2; omega) fun i j c M1 hi hj hc h1 => ?_
  show W (sSeq sp3 _ _ M1) _
  rw [w_seq]
  refine sp3_run fun s3 g3 l3 => ?_
  show W (sSeq sp4 _ _ M1) _
  rw [w_seq]
  refine sp4_run g3 (by omega) fun s4 g4 l4 => ?_
  show W (sSeq sp5 _ _ M1) _
  rw [w_seq]
  refine sp5_run g4 (by omega) fun s5 g5 l5 => ?_
  show W (sSeq sp6 _ _ M1) _
  rw [w_seq]
  refine sp6_run g5 (by omega) fun s6 g6 l6 => ?_
  show W (sSeq sp7 _ _ M1) _
  rw [w_seq]
  refine sp7_run g6 (by omega) fun s7 g7 l7 => ?_
  show W (spT _ M1) _
  refine spT_run h1 (by omega) ht hc hs (by rw [List.length_cons]; omega) (fun w hw => (hf w hw).1 ht.1) g7 (by omega) (by omega) fun z M2 gz h2 => ?_
  exact q z M2 gz h2
end Z

namespace Z
open PySem PySem.Spec PyProof.Rows L2 Lw Pu
local macro_rules | `(tactic| push_cast [$xs,*]) => `(tactic| (try simp only [$xs,*, w_fn, w_ret, w_seq, w_sif, w_of, w_trn, w_op, w_snil, w_pass, w_retn, w_asg, w_gnm, w_gsb, w_gtp, w_gcn, w_gn0, w_par, w_aug, w_drop, w_c, w_k, w_lst, w_tup, w_and, w_or, w_not, w_neg, w_ifx, w_tand, w_tor, w_tnot, w_cb, w_ck, w_mt, w_cons, w_nil, w_var, w_chain, w_sl, w_osome, w_onone, Pu.w_rev, w_dct0, w_for, w_iseq, w_irg1, w_lc, w_lc2, List.map_cons, List.map_nil, List.cons_append, List.nil_append, List.getElem?_cons_zero, List.getElem?_cons_succ, List.length_cons, List.length_nil, Option.some.injEq, exists_eq_left', w_some, List.replicate, List.set_cons_zero, List.set_cons_succ, frz_nil, frz_dat, frz_new, frz_new0, ne_ss, list_t, mk_nil, mk1, mk2, mk3, U.dat.injEq, PyData.int.injEq, PyData.bool.injEq, PyData.str.injEq, U.cell.injEq, add_ii, sub_ii, lt_ii, le_ii, gt_ii, ge_ii, eq_ii, ne_ii, eq_tt0, ne_tt0, eq_ds, sl_t, len_t, isi_int, isi_bool, isi_str, isi_tup, abs_i, min_ii, max_ii, int_i, int_b, mod_ii, fdiv_ii, mul_ii, pow_ii, add_ss, add_tt, mul_ti, repr_d, frzU_dat, and_true, true_and, and_assoc, List.cons.injEq, exists_and_left, exists_and_right, exists_eq_left, exists_eq_right, ix_t, ix_s, sl_s, len_s, is_non, Nat.reduceAdd, Nat.reduceSub, sz0, sz1, sz2, sz3, sz4, sz5, sz6, sz7, sz8, sz9, sz10, sz11, sz12, sz13, sz14, sz15, sz16, sz17, sz18, sz19, sz20, sz21, sz22, sz23, sz24, sz25, sz26, sz27, sz28, sz29, sz30, w_vtup, w_vlst, w_vhnd, w_fzl, w_vlc, w_vlc2, w_viseq, w_vien, w_vizp, w_irg2, w_vtxt, w_vfor, w_sown, w_vapp, w_vext, w_vsb, w_vpar, w_vparf, w_vparg, w_vsl, w_star, ad_nil, ad_dat, ad_map, ad_app, Option.map_some, vadd_ii, vadd_ss, vadd_tt, vadd_ll, vmul_ii, vmul_ti, vsl_t, vsl_l, vsl_s, seq_t, seq_lv, seq_dl, lst_lv, nc_lv, nc_dat, nc_scr, len_lv, ix_lv, vlist_t, vlist_l, vlistT_t, vtup_l, vtup_t, vrepr_d, vrepr_l, vsort_l, ty_lv, wipeR, dtup_t, List.append_nil, vcat_ll, U.lv.injEq, exists_eq, exists_eq', w_vsortr, w_vsortset, dictp_l, w_dictz, w_efld, w_gfld, w_flda, w_eme, w_emk, w_eca, w_nolv, w_never, isLv_dat, isLv_cell, isLv_adr, Pu.tupK_d, ixg_t, ixg_d, w_orU, w_gtpl, tr_lv, w_vparn, setNs_cons, setNs_nil]))
/-! ### what was read, shown -/
def tOut : Option PyData → U
  | some d => .dat d
  | none => .lv [.int 0]
theorem told_out (A : Adr) (o : Option PyData) : told A o = tOut o := by cases o <;> rfl
/-- a thing that is asked after -/
def ThOk (d : PyData) : Prop := isStrD d = false ∨ ∃ t, d = .str t ∧ Asc t
theorem thing_same {A : Adr} {as : List (Str × Nat)} {d : PyData} {M : Mem} (hnd : (as.map (·.1)).Nodup) (ha : ∀ a ∈ as, Asc a.1) (hd : ThOk d) (hl : ∀ t, d = .str t → t.length ≤ 20001) :
    ∃ o : Option PyData, (o = none ∨ ∃ t, d = .str t ∧ o = rh as t) ∧ (∀ Q1 : U → Mem → Prop, Q1 (tOut o) M → W (v__law_told A [.dat (.tuple (actsD as)), .dat d] M) Q1) ∧ ∀ Q1 : U → Mem → Prop, Q1 (tOut o) M → W (v__law_read_row [.dat (.tuple (actsD as)), .dat d] M) Q1 := by
  rcases hd with h | ⟨t, rfl, ht⟩
  · exact ⟨none, .inl rfl, fun Q1 q => told_not h q, fun Q1 q => read_row_not (A := A) h q⟩
  · exact ⟨rh as t, .inr ⟨t, rfl, rfl⟩, fun Q1 q => told_text ha ht (hl t rfl) (by rw [told_out]; exact q), fun Q1 q => read_row_spec (A := A) hnd ht (hl t rfl) (by rw [told_out]; exact q)⟩
end Z

namespace Z
open PySem PySem.Spec PyProof.Rows L2 Lw Pu
/-! ### what was read is short -/
/-- a datum that is shown within bounds: leaves to 80, n deep, bulk to m -/
structure Bk (n m : Nat) (d : PyData) : Prop where
  lf : d.leavesShort 80 = true
  sh : d.showable = true
  dp : d.depth ≤ n
  bk : d.bulk ≤ m
theorem Bk.ok {n m : Nat} {d : PyData} (h : Bk n m d) (hn : n ≤ 100) (hm : m ≤ 204000) : Ok d := by
  refine ⟨h.sh, Nat.le_trans h.dp hn, ?_⟩
  have h1 := PyData.shown_le_bulk 80 (by decide) d h.lf
  have h2 := h.bk
  rw [sizeLine_eq]
  omega
theorem bk_all {n : Nat} {f : PyData → Nat} : ∀ {ds : List PyData}, (∀ x ∈ ds, Bk n (f x) x) → PyData.leavesShortAll 80 ds = true ∧ PyData.showableAll ds = true ∧ PyData.depthAll ds ≤ n ∧ PyData.bulkAll ds ≤ (ds.map fun x => f x + 1).sum
  | [], _ => ⟨rfl, rfl, by simp only [PyData.depthAll]; exact Nat.zero_le _, by simp [PyData.bulkAll]⟩
  | x :: ds, h => by
    have hx := h x List.mem_cons_self
    obtain ⟨a, b, c, d⟩ := bk_all (ds := ds) fun y hy => h y (List.mem_cons_of_mem _ hy)
    refine ⟨?_, ?_, ?_, ?_⟩
    · simp only [PyData.leavesShortAll, hx.lf, a, Bool.and_self]
    · simp only [PyData.showableAll, hx.sh, b, Bool.and_self]
    · simp only [PyData.depthAll]
      have := hx.dp
      omega
    · simp only [PyData.bulkAll, List.map_cons, List.sum_cons]
      have := hx.bk
      omega
theorem Bk.tuple {n m : Nat} {f : PyData → Nat} {ds : List PyData} (h : ∀ x ∈ ds, Bk n (f x) x) (hm : (ds.map fun x => f x + 1).sum ≤ m) : Bk (n + 1) m (.tuple ds) := by
  obtain ⟨a, b, c, d⟩ := bk_all h
  exact ⟨by simpa only [PyData.leavesShort] using a, by simpa only [PyData.showable] using b, by simp only [PyData.depth]; omega, by simp only [PyData.bulk]; omega⟩
theorem rn_bound {w : Str} {n : Nat} (h : rn w = some n) : n < 10 ^ 70 := by
  unfold rn at h
  split at h
  · rename_i h1
    split at h
    · cases h
    · cases h
      exact val_bound h1.2 (by rw [len_list]; exact h1.1.2)
  · cases h
theorem rwd_bound {w : Str} {i : Int} (h : rwd w = some i) : i.natAbs < 10 ^ 70 := by
  unfold rwd at h
  split at h
  · cases hr : rn (rest w) with
    | none => rw [hr] at h; cases h
    | some n =>
      rw [hr] at h
      simp only at h
      split at h
      · cases h
      · cases h
        rw [Int.natAbs_neg]
        exact rn_bound hr
  · obtain ⟨n, hn, rfl⟩ := Option.map_eq_some_iff.mp h
    exact rn_bound hn
theorem bk_int {i : Int} (h : i.natAbs < 10 ^ 70) : Bk 0 0 (.int i) := by
  have hl := log_val h
  have e := int_text_length_le10 (k := 70) (by decide) h
  refine ⟨?_, ?_, ?_, ?_⟩
  · simp only [PyData.leavesShort, decide_eq_true_eq]
    show (Str.ofString (toString i)).length ≤ 80
    rw [PySem.ofString_length]
    omega
  · simp only [PyData.showable, decide_eq_true_eq]
    omega
  · simp only [PyData.depth]
    exact Nat.le_refl _
  · simp only [PyData.bulk]
    exact Nat.le_refl _
theorem bk_str {x : Str} (h : Asc x) : Bk 0 x.length (.str x) := by
  refine ⟨?_, ?_, ?_, ?_⟩
  · simp only [PyData.leavesShort]
    exact List.all_eq_true.mpr fun c hc => decide_eq_true (Nat.lt_trans (h c hc) (by decide))
  · simp only [PyData.showable]
    done
  · simp only [PyData.depth]
    exact Nat.le_refl _
  · simp only [PyData.bulk]
    exact Nat.le_refl _
theorem Bk.mono {n m n' m' : Nat} {d : PyData} (h : Bk n m d) (hn : n ≤ n') (hm : m ≤ m') : Bk n' m' d := ⟨h.lf, h.sh, Nat.le_trans h.dp hn, Nat.le_trans h.bk hm⟩
theorem bk_none {n m : Nat} : Bk n m .none := ⟨rfl, rfl, by simp only [PyData.depth]; exact Nat.zero_le _, by simp only [PyData.bulk]; exact Nat.zero_le _⟩
def bkF : PyData → Nat
  | .str x => x.length
  | _ => 0
theorem rd_bk {as : List (Str × Nat)} {row : Str} (hr : Asc row) (h2 : ∀ a ∈ as, a.2 ≤ 2) : Bk 1 (row.length + 3) (rd as row) := by
  obtain ⟨name, ws, e, hf, hs, hl⟩ := sp_split row
  unfold rd
  rw [e]
  show Bk 1 _ (if _ then _ else _)
  split
  · exact bk_none
  · rename_i hn
    have hn1 : none ∉ ws.map rwd := fun z => hn (.inl z)
    have hn2 : (name, ws.length) ∈ as := Classical.byContradiction fun z => hn (.inr z)
    have hw := h2 _ hn2
    have hw' : ws.length ≤ 2 := hw
    refine Bk.tuple (f := bkF) (fun d hd => ?_) ?_
    · rcases List.mem_cons.mp hd with rfl | hd
      · exact bk_str ((hf name List.mem_cons_self).1 hr)
      · obtain ⟨o, ho, rfl⟩ := List.mem_map.mp hd
        obtain ⟨w, hw, rfl⟩ := List.mem_map.mp ho
        cases hi : rwd w with
        | none => exact absurd (by rw [← hi]; exact ho) hn1
        | some i => exact bk_int (rwd_bound hi)
    · have z : ∀ l : List (Option Int), ((l.map oZ).map fun x => bkF x + 1).sum = l.length := fun l => by
        induction l with
        | nil => rfl
        | cons o l ih =>
          rw [List.map_cons, List.map_cons, List.sum_cons, ih, List.length_cons]
          cases o <;> (show 0 + 1 + _ = _; omega)
      rw [List.map_cons, List.sum_cons, z, List.length_map]
      have y := (hf name List.mem_cons_self).2
      show name.length + 1 + ws.length ≤ _
      omega
theorem rds_ok {as : List (Str × Nat)} {t : Str} (ht : Asc t) (hl : t.length ≤ 20001) (h2 : ∀ a ∈ as, a.2 ≤ 2) : Ok (.tuple (rds as t)) := by
  obtain ⟨x, xs, es, hf, hs, hn⟩ := cm_split t
  have b : ∀ p ∈ x :: xs, Bk 1 (p.length + 3) (rd as p) := fun p hp => rd_bk ((hf p hp).1 ht) h2
  have e : rds as t = (x :: xs).map (rd as) := by
    unfold rds
    rw [es]
  have sm : ∀ l : List Str, (∀ p ∈ l, Bk 1 (p.length + 3) (rd as p)) → ((l.map (rd as)).map fun d => d.bulk + 1).sum ≤ (l.map fun p => p.length).sum + 4 * l.length := fun l => by
    induction l with
    | nil => intro _; simp
    | cons p l ih =>
      intro h
      have i := ih fun q hq => h q (List.mem_cons_of_mem _ hq)
      have z := (h p List.mem_cons_self).bk
      rw [List.map_cons, List.map_cons, List.sum_cons, List.map_cons, List.sum_cons, List.length_cons]
      omega
  have q := sm _ b
  rw [e]
  refine (Bk.tuple (n := 1) (m := 204000) (f := fun d => d.bulk) (fun d hd => ?_) ?_).ok (by decide) (Nat.le_refl _)
  · obtain ⟨p, hp, rfl⟩ := List.mem_map.mp hd
    have z := b p hp
    exact ⟨z.lf, z.sh, z.dp, Nat.le_refl _⟩
  · rw [List.length_cons] at q
    omega
/-- what is answered may be shown -/
theorem tOut_ok {as : List (Str × Nat)} {t : Str} {o : Option PyData} (ht : Asc t) (hl : t.length ≤ 20001) (h2 : ∀ a ∈ as, a.2 ≤ 2) (ho : o = none ∨ o = rh as t) : ∃ z : Str, ∀ (N : Mem) (Q : U → Mem → Prop), Q (.dat (.str z)) N → W (vreprF [tOut o] N) Q := by
  have n0 : ∃ z : Str, ∀ (N : Mem) (Q : U → Mem → Prop), Q (.dat (.str z)) N → W (vreprF [tOut none] N) Q :=
    ⟨(PyData.list [.int 0]).shown, fun N Q q => vrepr_l.mpr ⟨⟨⟨by decide, by decide, by decide⟩, by decide⟩, q⟩⟩
  rcases ho with rfl | rfl
  · exact n0
  · unfold rh
    split
    · exact ⟨(PyData.tuple []).shown, fun N Q q => vrepr_d.mpr ⟨⟨by decide, by decide, by decide⟩, q⟩⟩
    · split
      · exact n0
      · exact ⟨(PyData.tuple (rds as t)).shown, fun N Q q => vrepr_d.mpr ⟨rds_ok ht hl h2, q⟩⟩
end Z

namespace Z
open PySem PySem.Spec PyProof.Rows L2 Lw Pu
local macro_rules | `(tactic| push_cast [$xs,*]) => `(tactic| (try simp only [$xs,*, w_fn, w_ret, w_seq, w_sif, w_of, w_trn, w_op, w_snil, w_pass, w_retn, w_asg, w_gnm, w_gsb, w_gtp, w_gcn, w_gn0, w_par, w_aug, w_drop, w_c, w_k, w_lst, w_tup, w_and, w_or, w_not, w_neg, w_ifx, w_tand, w_tor, w_tnot, w_cb, w_ck, w_mt, w_cons, w_nil, w_var, w_chain, w_sl, w_osome, w_onone, Pu.w_rev, w_dct0, w_for, w_iseq, w_irg1, w_lc, w_lc2, List.map_cons, List.map_nil, List.cons_append, List.nil_append, List.getElem?_cons_zero, List.getElem?_cons_succ, List.length_cons, List.length_nil, Option.some.injEq, exists_eq_left', w_some, List.replicate, List.set_cons_zero, List.set_cons_succ, frz_nil, frz_dat, frz_new, frz_new0, ne_ss, list_t, mk_nil, mk1, mk2, mk3, U.dat.injEq, PyData.int.injEq, PyData.bool.injEq, PyData.str.injEq, U.cell.injEq, add_ii, sub_ii, lt_ii, le_ii, gt_ii, ge_ii, eq_ii, ne_ii, eq_tt0, ne_tt0, eq_ds, sl_t, len_t, isi_int, isi_bool, isi_str, isi_tup, abs_i, min_ii, max_ii, int_i, int_b, mod_ii, fdiv_ii, mul_ii, pow_ii, add_ss, add_tt, mul_ti, repr_d, frzU_dat, and_true, true_and, and_assoc, List.cons.injEq, exists_and_left, exists_and_right, exists_eq_left, exists_eq_right, ix_t, ix_s, sl_s, len_s, is_non, Nat.reduceAdd, Nat.reduceSub, sz0, sz1, sz2, sz3, sz4, sz5, sz6, sz7, sz8, sz9, sz10, sz11, sz12, sz13, sz14, sz15, sz16, sz17, sz18, sz19, sz20, sz21, sz22, sz23, sz24, sz25, sz26, sz27, sz28, sz29, sz30, w_vtup, w_vlst, w_vhnd, w_fzl, w_vlc, w_vlc2, w_viseq, w_vien, w_vizp, w_irg2, w_vtxt, w_vfor, w_sown, w_vapp, w_vext, w_vsb, w_vpar, w_vparf, w_vparg, w_vsl, w_star, ad_nil, ad_dat, ad_map, ad_app, Option.map_some, vadd_ii, vadd_ss, vadd_tt, vadd_ll, vmul_ii, vmul_ti, vsl_t, vsl_l, vsl_s, seq_t, seq_lv, seq_dl, lst_lv, nc_lv, nc_dat, nc_scr, len_lv, ix_lv, vlist_t, vlist_l, vlistT_t, vtup_l, vtup_t, vrepr_d, vrepr_l, vsort_l, ty_lv, wipeR, dtup_t, List.append_nil, vcat_ll, U.lv.injEq, exists_eq, exists_eq', w_vsortr, w_vsortset, dictp_l, w_dictz, w_efld, w_gfld, w_flda, w_eme, w_emk, w_eca, w_nolv, w_never, isLv_dat, isLv_cell, isLv_adr, Pu.tupK_d, ixg_t, ixg_d, w_orU, w_gtpl, tr_lv, w_vparn, setNs_cons, setNs_nil]))
/-! ### the law, cut to pieces -/
noncomputable def lRow : MS := sAsg (eCB v__law_row (aCons (eVar 2) (aCons (vTup (aCons (vTup aNil) (aCons (eVar 4) (aCons (vTup aNil) aNil)))) (aCons (vTup (aCons (eOp vmulU (vTup (aCons (eC (.int 0)) aNil)) (eCB lenF (aCons (eVar 4) aNil))) aNil)) (aCons (eC (.int 0)) (aCons (eCB v__law_take (aCons (eVar 2) (aCons (eC (.int 31)) aNil))) aNil)))))) (gTp 2 (gCn (gNm 6) (gCn (gNm 7) gN0)))
noncomputable def lTxt : MS := vPar 8 9 (eCB v__law_row_text (aCons (eVar 6) aNil)) (eCB vreprF (aCons (eVar 6) aNil))
noncomputable def lChk : MS := sIf (tOrM (tOf (eOp neU (eCB v_show_history (aCons (eVar 6) aNil)) (eVar 8))) (tOrM (tOf (eOp neU (eCK v_show_history kb_show_history_0_history aNil (aCons (eVar 6) aNil)) (eVar 8))) (tOf (eOp neU (eCB vreprF (aCons (eVar 6) aNil)) (eVar 9)))))
  (sRet (eC (.bool false)))
  sNil
noncomputable def lThg : MS := sOwn (vLst (aCons (eVar 8) (aCons (eC (.str (Str.ofString "-"))) (aCons (eC (.str (Str.ofString ""))) (aCons (eC .none) (aCons (vTup aNil) (aCons (eVar 6) (aCons (eC (.int 0)) (aCons (eOp vaddU (eVar 8) (eC (.str (Str.ofString ", ")))) (aCons (eOp vaddU (eVar 8) (eC (.str (Str.ofString "\n")))) (aCons (eOp vaddU (eVar 8) (eC (.str (Str.ofString ", -")))) (aCons (eC (.str (Str.ofString "- "))) (aCons (eOp vaddU (eVar 8) (eC (.str (Str.ofString ",")))) aNil))))))))))))) 10
noncomputable def lSpB : MS := sSeq (sAsg (eCB v__law_spoilt_row (aCons (eVar 2) (aCons (eVar 8) aNil))) (gNm 12))
  (vApp 10 (eIf (tOf (eOp Pu.eqU (eCB v__law_take (aCons (eVar 2) (aCons (eC (.int 3)) aNil))) (eC (.int 0)))) (eCB v__law_spoilt_row (aCons (eVar 2) (aCons (eVar 12) aNil))) (eVar 12)))
noncomputable def lSp : MS := vFor (iRg1 (aCons (eC (.int 14)) aNil)) (gNm 11) lSpB
noncomputable def lFinB (A : Adr) : MS := sIf (tOf (eOp neU (eCB vreprF (aCons (eCB (v__law_told A) (aCons (eVar 4) (aCons (eVar 13) aNil))) aNil)) (eCB vreprF (aCons (eCB v__law_read_row (aCons (eVar 4) (aCons (eVar 13) aNil))) aNil))))
  (sRet (eC (.bool false)))
  sNil
noncomputable def lFin (A : Adr) : MS := vFor (viSeq (vLc (viSeq (eVar 10)) (gNm 15) (tOrM (tNotM (tOf (eCB isiF (aCons (eVar 15) (aCons (eK (.ty "str")) aNil))))) (tOf (eOp ltU (eCB lenF (aCons (eVar 15) aNil)) (eC (.int 20001))))) (eVar 15) [15])) (gNm 13) (lFinB A)
noncomputable def lTurn (A : Adr) : MS := sSeq lRow (sSeq lTxt (sSeq lChk (sSeq lThg (sSeq lSp (lFin A)))))
noncomputable def lActs : MS := sAsg (eCB vtupleF (aCons (vLc (iRg1 (aCons (eOp vaddU (eC (.int 1)) (eCB v__law_take (aCons (eVar 2) (aCons (eC (.int 4)) aNil)))) aNil)) (gNm 14) tYesM (vTup (aCons (eOp ixU (eVar 3) (eVar 14)) (aCons (eCB v__law_take (aCons (eVar 2) (aCons (eC (.int 3)) aNil))) aNil))) [14]) aNil)) (gNm 4)
noncomputable def lNth (A : Adr) : MS := sSeq (sAsg (eCB v__law_hand (aCons (eVar 0) (aCons (eVar 1) aNil))) (gNm 2))
  (sSeq (sAsg (eCB v__law_names (aCons (eVar 2) (aCons (eC (.int 4)) aNil))) (gNm 3))
  (sSeq lActs
  (vFor (iRg1 (aCons (eC (.int 2)) aNil)) (gNm 5) (lTurn A))))
theorem law_eq (A : Adr) : v_law A = mkFn 1 16 (sSeq (vFor (iRg1 (aCons (eOp vaddU (eC (.int 1)) (eCB min2F (aCons (eC (.int 3)) (aCons (eCB lenF (aCons (eVar 0) aNil)) aNil)))) aNil)) (gNm 1) (lNth A)) (sRet (eC (.bool true)))) := rfl
/-! ### acts -/
def ActsOk (as : List (Str × Nat)) : Prop := 0 < as.length ∧ as.length ≤ 4 ∧ (∀ a ∈ as, a.2 ≤ 2 ∧ Nm a.1) ∧ (as.map (·.1)).Nodup
theorem nm_asc {w : Str} (h : Nm w) : Asc w ∧ w.length ≤ 8 := ⟨fun c hc => by
  have := h.1 c hc
  omega, h.2.2.1⟩
theorem acts_of {ws : List Str} : ∀ {k : Nat} {ds : List PyData}, (∀ (j : Nat) (d : PyData), ds[j]? = some d → ∃ a : Str × Nat, d = .tuple [.str a.1, .int (a.2 : Int)] ∧ ws[k + j]? = some a.1 ∧ a.2 ≤ 2) → ∃ as : List (Str × Nat), ds = actsD as ∧ as.map (·.1) = (ws.drop k).take ds.length ∧ ∀ a ∈ as, a.2 ≤ 2
  | k, [], _ => ⟨[], rfl, by simp, fun a h => by cases h⟩
  | k, d :: ds, h => by
    obtain ⟨as, e1, e2, e3⟩ := acts_of (k := k + 1) (ds := ds) fun j d hd => by
      have := h (j + 1) d (by simpa using hd)
      rw [show k + (j + 1) = k + 1 + j by omega] at this
      exact this
    obtain ⟨a, rfl, h1, h2⟩ := h 0 d rfl
    have hk : k < ws.length := (List.getElem?_eq_some_iff.mp h1).1
    refine ⟨a :: as, by rw [e1]; rfl, ?_, fun b hb => (List.mem_cons.mp hb).elim (fun z => z ▸ h2) (e3 b)⟩
    rw [List.map_cons, e2, List.drop_eq_getElem_cons hk, List.length_cons, List.take_succ_cons]
    congr 1
    have : ws[k]? = some a.1 := h1
    rw [List.getElem?_eq_getElem hk] at this
    exact (Option.some.inj this).symm
theorem acts_run {N M : Mem} {h n : Nat} {ws : List Str} {e0 e1 e4 e5 e6 e7 e8 e9 e10 e11 e12 e13 e14 e15 : Option U} {Q : Out → Mem → Prop} (hh : HF N h n M) (hn : n + 10 ≤ 1000000000) (hw : ws.length = 4) (hw2 : ∀ w ∈ ws, Nm w) (hnd : ws.Nodup)
    (q : ∀ as M', ActsOk as → HF N h (n + 10) M' → Q (.nx [e0, e1, some (.cell h), some (.lv (ws.map .str)), some (.dat (.tuple (actsD as))), e5, e6, e7, e8, e9, e10, e11, e12, e13, e14, e15]) M') :
    W (lActs [e0, e1, some (.cell h), some (.lv (ws.map .str)), e4, e5, e6, e7, e8, e9, e10, e11, e12, e13, e14, e15] M) Q := by
  unfold lActs
  push_cast [wipeR]
  refine take_nat hh (by omega) (k := 4) (by decide) (by decide) fun x M1 hx h1 => ?_
  push_cast [wipeR]
  refine ⟨by omega, by omega, ?_⟩
  rw [show ((1 : Int) + (x : Int)).toNat = 1 + x by omega]
  refine vlc_draw (fun j M' => HF N h (n + 1 + j) M') (fun j _ d => ∃ a : Str × Nat, d = .tuple [.str a.1, .int (a.2 : Int)] ∧ ws[j]? = some a.1 ∧ a.2 ≤ 2) _ 0 M1 _ h1 (fun j u M' hj hx' => by
      obtain ⟨hj1, rfl⟩ := range_get hj
      rw [Nat.zero_add] at hx' ⊢
      push_cast [Int.zero_add]
      have hj2 : j < ws.length := by omega
      refine ⟨_, atI_nat (by rw [List.getElem?_map, List.getElem?_eq_getElem hj2]; rfl), ?_⟩
      refine take_nat hx' (by omega) (k := 3) (by decide) (by decide) fun y M2 hy h2 => ?_
      push_cast [wipeR]
      exact ⟨⟨(ws[j], y), rfl, List.getElem?_eq_getElem hj2, by show y ≤ 2; omega⟩, h2.mono (by omega)⟩) fun ds M2 l2 r2 hh2 => ?_
  rw [range_len] at l2 hh2
  obtain ⟨as, rfl, ea, e3⟩ := acts_of (ws := ws) (k := 0) (ds := ds) fun j d hd => by
    have hj2 : j < (rangeU 0 (1 + x)).length := by
      rw [range_len, ← l2]
      exact (List.getElem?_eq_some_iff.mp hd).1
    exact r2 j _ d (List.getElem?_eq_getElem hj2) hd
  rw [List.length_map] at l2
  push_cast [List.length_map]
  refine ⟨by rw [sizeLine_eq]; omega, ?_⟩
  refine q as M2 ⟨by omega, by omega, fun a ha => ⟨e3 a ha, ?_⟩, ?_⟩ (hh2.mono (by omega))
  · refine hw2 _ ?_
    have : a.1 ∈ as.map (·.1) := List.mem_map_of_mem ha
    rw [ea] at this
    exact List.mem_of_mem_drop (List.mem_of_mem_take this)
  · rw [ea]
    exact ((List.take_sublist _ _).trans (List.drop_sublist _ _)).nodup hnd
/-! ### rows -/
theorem row_deeds {gs : List (List (Option Nat))} {as : List (Str × Nat)} {s s2 : Nat} {r : List Deed} (h : RowOk gs as s r s2) : ∀ d ∈ r, (∃ a, as[d.1]? = some a ∧ d.2.length = a.2) ∧ ∀ x ∈ d.2, x.natAbs ≤ 10 ^ 59 := by
  induction h with
  | nil => intro d hd; cases hd
  | snoc h1 e1 e2 e3 e4 e5 ih =>
    intro d hd
    rcases List.mem_append.mp hd with h | h
    · exact ih d h
    · rw [List.mem_singleton.mp h]
      exact ⟨⟨_, e3, e4⟩, e5⟩
def rowL (as : List (Str × Nat)) (r : List Deed) : List (Str × List Int) := r.map fun d => ((as[d.1]?.map (·.1)).getD Str.empty, d.2)
theorem rowL_facts {gs : List (List (Option Nat))} {as : List (Str × Nat)} {s s2 : Nat} {r : List Deed} (ha : ActsOk as) (h : RowOk gs as s r s2) : RowL (rowL as r) ∧ r.map (deedD as) = (rowL as r).map tD := by
  have hd := row_deeds h
  refine ⟨fun p hp => ?_, ?_⟩
  · obtain ⟨d, hd1, rfl⟩ := List.mem_map.mp hp
    obtain ⟨⟨a, e1, e2⟩, e3⟩ := hd d hd1
    have hm := ha.2.2.1 a (List.mem_of_getElem? e1)
    refine ⟨?_, ?_, e3⟩
    · show Asc ((as[d.1]?.map (·.1)).getD Str.empty) ∧ _
      rw [e1]
      exact nm_asc hm.2
    · show d.2.length ≤ 2
      rw [e2]
      exact hm.1
  · unfold rowL
    rw [List.map_map]
    refine List.map_congr_left fun d hd1 => ?_
    obtain ⟨⟨a, e1, e2⟩, e3⟩ := hd d hd1
    show deedD as d = tD ((as[d.1]?.map (·.1)).getD Str.empty, d.2)
    unfold deedD tD
    rw [e1]
    rfl
theorem row_run {N M : Mem} {h n : Nat} {as : List (Str × Nat)} {e0 e1 e3 e5 e6 e7 e8 e9 e10 e11 e12 e13 e14 e15 : Option U} {Q : Out → Mem → Prop} (hh : HF N h n M) (hn : n + 2000 ≤ 1000000000) (ha : ActsOk as)
    (q : ∀ l st M', RowL l → l.length ≤ 30 → HF N h (n + 900) M' → Q (.nx [e0, e1, some (.cell h), e3, some (.dat (.tuple (actsD as))), e5, some (.dat (.tuple (l.map tD))), st, e8, e9, e10, e11, e12, e13, e14, e15]) M') :
    W (lRow [e0, e1, some (.cell h), e3, some (.dat (.tuple (actsD as))), e5, e6, e7, e8, e9, e10, e11, e12, e13, e14, e15] M) Q := by
  obtain ⟨a0, a4, am, an⟩ := ha
  unfold lRow
  push_cast [List.length_map, vmul_ti]
  refine ⟨List.cons_ne_nil _ _, by omega, by omega, by decide, ?_⟩
  refine take_nat hh (by omega) (k := 31) (by decide) (by decide) fun x M1 hx h1 => ?_
  push_cast [wipeR]
  have eg : PyData.tuple [PyData.tuple (List.replicate ((as.length : Int)).toNat [PyData.int 0]).flatten] = gateD [List.replicate as.length (some 0)] := by
    rw [show ((as.length : Int)).toNat = as.length by omega]
    have : ∀ n : Nat, (List.replicate n [PyData.int 0]).flatten = (List.replicate n (some 0)).map oD := fun n => by
      induction n with
      | zero => rfl
      | succ n ih => rw [List.replicate_succ, List.flatten_cons, ih]; rfl
    rw [this]
    rfl
  rw [eg]
  have hg : GateOk as.length [List.replicate as.length (some 0)] := fun g hg => by
    rw [List.mem_singleton.mp hg]
    refine ⟨List.length_replicate, fun p hp => ?_⟩
    have := List.eq_of_mem_replicate hp
    cases this
    exact Nat.zero_lt_one
  refine row_spec (s := 0) h1 (by omega) (by omega) (fun a ha => (am a ha).1) hg (Nat.zero_lt_one) (by omega) fun r s2 M2 lr hr hh2 => ?_
  push_cast [Pu.tupK_d]
  obtain ⟨f1, f2⟩ := rowL_facts ⟨a0, a4, am, an⟩ hr
  rw [f2]
  exact q (rowL as r) _ M2 f1 (by unfold rowL; rw [List.length_map]; omega) (hh2.mono (by omega))
end Z

namespace Z
open PySem PySem.Spec PyProof.Rows L2 Lw Pu
local macro_rules | `(tactic| push_cast [$xs,*]) => `(tactic| (try simp only [$xs,*, w_fn, w_ret, w_seq, w_sif, w_of, w_trn, w_op, w_snil, w_pass, w_retn, w_asg, w_gnm, w_gsb, w_gtp, w_gcn, w_gn0, w_par, w_aug, w_drop, w_c, w_k, w_lst, w_tup, w_and, w_or, w_not, w_neg, w_ifx, w_tand, w_tor, w_tnot, w_cb, w_ck, w_mt, w_cons, w_nil, w_var, w_chain, w_sl, w_osome, w_onone, Pu.w_rev, w_dct0, w_for, w_iseq, w_irg1, w_lc, w_lc2, List.map_cons, List.map_nil, List.cons_append, List.nil_append, List.getElem?_cons_zero, List.getElem?_cons_succ, List.length_cons, List.length_nil, Option.some.injEq, exists_eq_left', w_some, List.replicate, List.set_cons_zero, List.set_cons_succ, frz_nil, frz_dat, frz_new, frz_new0, ne_ss, list_t, mk_nil, mk1, mk2, mk3, U.dat.injEq, PyData.int.injEq, PyData.bool.injEq, PyData.str.injEq, U.cell.injEq, add_ii, sub_ii, lt_ii, le_ii, gt_ii, ge_ii, eq_ii, ne_ii, eq_tt0, ne_tt0, eq_ds, sl_t, len_t, isi_int, isi_bool, isi_str, isi_tup, abs_i, min_ii, max_ii, int_i, int_b, mod_ii, fdiv_ii, mul_ii, pow_ii, add_ss, add_tt, mul_ti, repr_d, frzU_dat, and_true, true_and, and_assoc, List.cons.injEq, exists_and_left, exists_and_right, exists_eq_left, exists_eq_right, ix_t, ix_s, sl_s, len_s, is_non, Nat.reduceAdd, Nat.reduceSub, sz0, sz1, sz2, sz3, sz4, sz5, sz6, sz7, sz8, sz9, sz10, sz11, sz12, sz13, sz14, sz15, sz16, sz17, sz18, sz19, sz20, sz21, sz22, sz23, sz24, sz25, sz26, sz27, sz28, sz29, sz30, w_vtup, w_vlst, w_vhnd, w_fzl, w_vlc, w_vlc2, w_viseq, w_vien, w_vizp, w_irg2, w_vtxt, w_vfor, w_sown, w_vapp, w_vext, w_vsb, w_vpar, w_vparf, w_vparg, w_vsl, w_star, ad_nil, ad_dat, ad_map, ad_app, Option.map_some, vadd_ii, vadd_ss, vadd_tt, vadd_ll, vmul_ii, vmul_ti, vsl_t, vsl_l, vsl_s, seq_t, seq_lv, seq_dl, lst_lv, nc_lv, nc_dat, nc_scr, len_lv, ix_lv, vlist_t, vlist_l, vlistT_t, vtup_l, vtup_t, vrepr_d, vrepr_l, vsort_l, ty_lv, wipeR, dtup_t, List.append_nil, vcat_ll, U.lv.injEq, exists_eq, exists_eq', w_vsortr, w_vsortset, dictp_l, w_dictz, w_efld, w_gfld, w_flda, w_eme, w_emk, w_eca, w_nolv, w_never, isLv_dat, isLv_cell, isLv_adr, Pu.tupK_d, ixg_t, ixg_d, w_orU, w_gtpl, tr_lv, w_vparn, setNs_cons, setNs_nil]))
/-! ### a row of deeds is shown within bounds -/
theorem bk_int59 {i : Int} (h : i.natAbs ≤ 10 ^ 59) : Bk 0 0 (.int i) := bk_int (Nat.lt_of_le_of_lt h (by decide))
theorem bk_tD {p : Str × List Int} (h : (Asc p.1 ∧ p.1.length ≤ 8) ∧ p.2.length ≤ 2 ∧ ∀ x ∈ p.2, x.natAbs ≤ 10 ^ 59) : Bk 1 20 (tD p) := by
  obtain ⟨⟨h1, h2⟩, h3, h4⟩ := h
  refine Bk.tuple (f := bkF) (fun d hd => ?_) ?_
  · rcases List.mem_cons.mp hd with rfl | hd
    · exact bk_str h1
    · obtain ⟨i, hi, rfl⟩ := List.mem_map.mp hd
      exact bk_int59 (h4 i hi)
  · have z : ∀ l : List Int, ((l.map PyData.int).map fun x => bkF x + 1).sum = l.length := fun l => by
      induction l with
      | nil => rfl
      | cons o l ih =>
        rw [List.map_cons, List.map_cons, List.sum_cons, ih, List.length_cons]
        show 0 + 1 + _ = _
        omega
    rw [List.map_cons, List.sum_cons, z]
    show p.1.length + 1 + p.2.length ≤ 20
    omega
theorem ok_row {l : List (Str × List Int)} (h : RowL l) (hl : l.length ≤ 40) : Ok (.tuple (l.map tD)) := by
  refine (Bk.tuple (n := 1) (m := 204000) (f := fun _ => 20) (fun d hd => ?_) ?_).ok (by decide) (Nat.le_refl _)
  · obtain ⟨p, hp, rfl⟩ := List.mem_map.mp hd
    exact bk_tD (h p hp)
  · refine Nat.le_trans (sum_le (n := 21) fun d _ => Nat.le_refl _) ?_
    rw [List.length_map]
    omega
theorem txt_run {M : Mem} {l : List (Str × List Int)} {e0 e1 e2 e3 e4 e5 e7 e8 e9 e10 e11 e12 e13 e14 e15 : Option U} {Q : Out → Mem → Prop} (h : RowL l) (hl : l.length ≤ 40)
    (q : Q (.nx [e0, e1, e2, e3, e4, e5, some (.dat (.tuple (l.map tD))), e7, some (.dat (.str (tx l))), some (.dat (.str (PyData.tuple (l.map tD)).shown)), e10, e11, e12, e13, e14, e15]) M) :
    W (lTxt [e0, e1, e2, e3, e4, e5, some (.dat (.tuple (l.map tD))), e7, e8, e9, e10, e11, e12, e13, e14, e15] M) Q := by
  unfold lTxt
  push_cast [wipeR]
  refine text_spec h hl ?_
  push_cast [wipeR]
  exact ⟨ok_row h hl, q⟩
theorem chk_run {M : Mem} {l : List (Str × List Int)} {e0 e1 e2 e3 e4 e5 e7 e10 e11 e12 e13 e14 e15 : Option U} {Q : Out → Mem → Prop} (h : RowL l) (hl : l.length ≤ 40)
    (q : Q (.nx [e0, e1, e2, e3, e4, e5, some (.dat (.tuple (l.map tD))), e7, some (.dat (.str (tx l))), some (.dat (.str (PyData.tuple (l.map tD)).shown)), e10, e11, e12, e13, e14, e15]) M) :
    W (lChk [e0, e1, e2, e3, e4, e5, some (.dat (.tuple (l.map tD))), e7, some (.dat (.str (tx l))), some (.dat (.str (PyData.tuple (l.map tD)).shown)), e10, e11, e12, e13, e14, e15] M) Q := by
  unfold lChk
  push_cast [wipeR]
  refine show_spec h hl ?_
  push_cast [decide_true, Bool.not_true]
  show W (v_show_history [.dat (.tuple (l.map tD))] M) _
  refine show_spec h hl ?_
  push_cast [decide_true, Bool.not_true]
  exact ⟨ok_row h hl, q⟩
/-! ### the things -/
def ThB (d : PyData) : Prop := ThOk d ∧ ∀ t, d = .str t → t.length ≤ 1000000
theorem thb_not {d : PyData} (h : isStrD d = false) : ThB d := ⟨.inl h, fun t e => by subst e; cases h⟩
theorem thb_str {t : Str} {n : Nat} (h : Gn n t) (hn : n ≤ 1000000) : ThB (.str t) := ⟨.inr ⟨t, rfl, h.1⟩, fun s e => by
  cases e
  exact Nat.le_trans h.2 hn⟩
def things0 (t : Str) (r : PyData) : List PyData := [.str t, .str (Str.ofString "-"), .str (Str.ofString ""), .none, .tuple [], r, .int 0, .str (t ++ Str.ofString ", "), .str (t ++ Str.ofString "\n"), .str (t ++ Str.ofString ", -"), .str (Str.ofString "- "), .str (t ++ Str.ofString ",")]
theorem g_lit10 {z : Str} (h : z.cps.toList.all (fun c => decide (c < 128)) = true) (hl : z.length ≤ 10) : Gn 10 z := ⟨fun c hc => of_decide_eq_true (List.all_eq_true.mp h c hc), hl⟩
theorem things0_ok {l : List (Str × List Int)} (h : RowL l) (hl : l.length ≤ 40) : ∀ d ∈ things0 (tx l) (.tuple (l.map tD)), ThB d := by
  obtain ⟨_, t1, t2⟩ := tx_facts h hl
  have g : Gn 8080 (tx l) := ⟨t2, t1⟩
  have a : ∀ z : Str, Gn 10 z → ThB (.str (tx l ++ z)) := fun z hz => thb_str (n := 9000) (g_app g hz (by omega)) (by decide)
  have b : ∀ z : Str, Gn 10 z → ThB (.str z) := fun z hz => thb_str hz (by decide)
  intro d hd
  unfold things0 at hd
  simp only [List.mem_cons, List.not_mem_nil, or_false] at hd
  rcases hd with rfl | rfl | rfl | rfl | rfl | rfl | rfl | rfl | rfl | rfl | rfl | rfl
  · exact thb_str g (by decide)
  · exact b _ (g_lit10 (by decide) (by decide))
  · exact b _ (g_lit10 (by decide) (by decide))
  · exact thb_not rfl
  · exact thb_not rfl
  · exact thb_not rfl
  · exact thb_not rfl
  · exact a _ (g_lit10 (by decide) (by decide))
  · exact a _ (g_lit10 (by decide) (by decide))
  · exact a _ (g_lit10 (by decide) (by decide))
  · exact b _ (g_lit10 (by decide) (by decide))
  · exact a _ (g_lit10 (by decide) (by decide))
theorem thg_run {M : Mem} {t : Str} {r : PyData} {e0 e1 e2 e3 e4 e5 e7 e9 e10 e11 e12 e13 e14 e15 : Option U} {Q : Out → Mem → Prop} (h : t.length ≤ 8080)
    (q : Q (.nx [e0, e1, e2, e3, e4, e5, some (.dat r), e7, some (.dat (.str t)), e9, some (.lv (things0 t r)), e11, e12, e13, e14, e15]) M) :
    W (lThg [e0, e1, e2, e3, e4, e5, some (.dat r), e7, some (.dat (.str t)), e9, e10, e11, e12, e13, e14, e15] M) Q := by
  have l1 : ∀ k : Nat, k ≤ 8090 → k ≤ sizeLine := fun k hk => by rw [sizeLine_eq]; omega
  have s2 : (Str.ofString ", ").length = 2 := rfl
  have s3 : (Str.ofString "\n").length = 1 := rfl
  have s4 : (Str.ofString ", -").length = 3 := rfl
  have s5 : (Str.ofString ",").length = 1 := rfl
  unfold lThg
  push_cast [s2, s3, s4, s5]
  exact ⟨by decide, l1 _ (by omega), l1 _ (by omega), l1 _ (by omega), l1 _ (by omega), q⟩
/-! ### fourteen spoilt ones -/
def SpI (N : Mem) (h n : Nat) (e0 e1 e3 e4 e5 e6 e7 e9 e13 e14 e15 : Option U) (t : Str) (k : Nat) (ρ : Pu.Env) (M' : Mem) : Prop := ∃ (ds : List PyData) (y11 y12 : Option U), ρ = [e0, e1, some (.cell h), e3, e4, e5, e6, e7, some (.dat (.str t)), e9, some (.lv ds), y11, y12, e13, e14, e15] ∧ ds.length = 12 + k ∧ (∀ d ∈ ds, ThB d) ∧ HF N h (n + k * 20) M'
theorem sp_run {N M : Mem} {h n : Nat} {t : Str} {ds : List PyData} {e0 e1 e3 e4 e5 e6 e7 e9 e11 e12 e13 e14 e15 : Option U} {Q : Out → Mem → Prop} (hh : HF N h n M) (hn : n + 1000 ≤ 1000000000) (ht : Gn 8080 t) (hd : ds.length = 12) (hd2 : ∀ d ∈ ds, ThB d)
    (q : ∀ ds y11 y12 M', ds.length = 26 → (∀ d ∈ ds, ThB d) → HF N h (n + 280) M' → Q (.nx [e0, e1, some (.cell h), e3, e4, e5, e6, e7, some (.dat (.str t)), e9, some (.lv ds), y11, y12, e13, e14, e15]) M') :
    W (lSp [e0, e1, some (.cell h), e3, e4, e5, e6, e7, some (.dat (.str t)), e9, some (.lv ds), e11, e12, e13, e14, e15] M) Q := by
  unfold lSp
  push_cast [wipeR]
  refine ⟨by decide, by decide, for_inv (SpI N h n e0 e1 e3 e4 e5 e6 e7 e9 e13 e14 e15 t) _ 0 _ _ ⟨ds, _, _, rfl, hd, hd2, hh⟩ ?_ ?_⟩
  · intro j u ρ M1 hj hI
    obtain ⟨hj1, rfl⟩ := range_get hj
    rw [Nat.zero_add] at hI ⊢
    obtain ⟨ds, y11, y12, rfl, dl, dt, hh1⟩ := hI
    have hj14 : j < 14 := hj1
    unfold lSpB
    push_cast [wipeR]
    refine spoilt_spec hh1 (by omega) (ht.up (by decide)) fun z M2 gz hh2 => ?_
    have hz : Gn 200000 z := gz.up (by have := ht.2; omega)
    push_cast [wipeR]
    refine take_nat hh2 (by omega) (k := 3) (by decide) (by decide) fun x M3 hx hh3 => ?_
    push_cast [wipeR]
    have fin : ∀ (w : Str) (M4 : Mem), Gn 1000000 w → HF N h (n + j * 20 + 13) M4 → True ∧ SpI N h n e0 e1 e3 e4 e5 e6 e7 e9 e13 e14 e15 t (j + 1) [e0, e1, some (.cell h), e3, e4, e5, e6, e7, some (.dat (.str t)), e9, some (.lv (ds ++ [.str w])), some (.dat (.int (0 + (j : Int)))), some (.dat (.str z)), e13, e14, e15] M4 := fun w M4 gw h4 =>
      ⟨trivial, ds ++ [.str w], _, _, rfl, by rw [List.length_append, List.length_singleton]; omega, fun d hd => by
        rcases List.mem_append.mp hd with hd | hd
        · exact dt d hd
        · rw [List.mem_singleton.mp hd]
          exact thb_str gw (Nat.le_refl _), h4.mono (by omega)⟩
    by_cases h0 : (x : Int) = 0
    · rw [decide_eq_true h0]
      push_cast [wipeR]
      refine spoilt_spec hh3 (by omega) hz fun w M4 gw hh4 => ?_
      have hw : w.length ≤ 1000000 := by
        have a := gw.2
        have b := gz.2
        have c := ht.2
        omega
      push_cast [wipeR]
      refine ⟨by rw [dl, sizeLine_eq]; omega, ?_⟩
      exact (fin w M4 ⟨gw.1, hw⟩ (hh4.mono (by omega))).2
    · rw [decide_eq_false h0]
      push_cast [wipeR]
      refine ⟨by rw [dl, sizeLine_eq]; omega, ?_⟩
      exact (fin z M3 (hz.up (by decide)) (hh3.mono (by omega))).2
  · intro ρ M1 hI
    rw [Nat.zero_add, range_len] at hI
    obtain ⟨ds, y11, y12, rfl, dl, dt, hh1⟩ := hI
    exact q ds y11 y12 M1 dl dt (hh1.mono (by omega))
end Z

namespace Z
open PySem PySem.Spec PyProof.Rows L2 Lw Pu
local macro_rules | `(tactic| push_cast [$xs,*]) => `(tactic| (try simp only [$xs,*, w_fn, w_ret, w_seq, w_sif, w_of, w_trn, w_op, w_snil, w_pass, w_retn, w_asg, w_gnm, w_gsb, w_gtp, w_gcn, w_gn0, w_par, w_aug, w_drop, w_c, w_k, w_lst, w_tup, w_and, w_or, w_not, w_neg, w_ifx, w_tand, w_tor, w_tnot, w_cb, w_ck, w_mt, w_cons, w_nil, w_var, w_chain, w_sl, w_osome, w_onone, Pu.w_rev, w_dct0, w_for, w_iseq, w_irg1, w_lc, w_lc2, List.map_cons, List.map_nil, List.cons_append, List.nil_append, List.getElem?_cons_zero, List.getElem?_cons_succ, List.length_cons, List.length_nil, Option.some.injEq, exists_eq_left', w_some, List.replicate, List.set_cons_zero, List.set_cons_succ, frz_nil, frz_dat, frz_new, frz_new0, ne_ss, list_t, mk_nil, mk1, mk2, mk3, U.dat.injEq, PyData.int.injEq, PyData.bool.injEq, PyData.str.injEq, U.cell.injEq, add_ii, sub_ii, lt_ii, le_ii, gt_ii, ge_ii, eq_ii, ne_ii, eq_tt0, ne_tt0, eq_ds, sl_t, len_t, isi_int, isi_bool, isi_str, isi_tup, abs_i, min_ii, max_ii, int_i, int_b, mod_ii, fdiv_ii, mul_ii, pow_ii, add_ss, add_tt, mul_ti, repr_d, frzU_dat, and_true, true_and, and_assoc, List.cons.injEq, exists_and_left, exists_and_right, exists_eq_left, exists_eq_right, ix_t, ix_s, sl_s, len_s, is_non, Nat.reduceAdd, Nat.reduceSub, sz0, sz1, sz2, sz3, sz4, sz5, sz6, sz7, sz8, sz9, sz10, sz11, sz12, sz13, sz14, sz15, sz16, sz17, sz18, sz19, sz20, sz21, sz22, sz23, sz24, sz25, sz26, sz27, sz28, sz29, sz30, w_vtup, w_vlst, w_vhnd, w_fzl, w_vlc, w_vlc2, w_viseq, w_vien, w_vizp, w_irg2, w_vtxt, w_vfor, w_sown, w_vapp, w_vext, w_vsb, w_vpar, w_vparf, w_vparg, w_vsl, w_star, ad_nil, ad_dat, ad_map, ad_app, Option.map_some, vadd_ii, vadd_ss, vadd_tt, vadd_ll, vmul_ii, vmul_ti, vsl_t, vsl_l, vsl_s, seq_t, seq_lv, seq_dl, lst_lv, nc_lv, nc_dat, nc_scr, len_lv, ix_lv, vlist_t, vlist_l, vlistT_t, vtup_l, vtup_t, vrepr_d, vrepr_l, vsort_l, ty_lv, wipeR, dtup_t, List.append_nil, vcat_ll, U.lv.injEq, exists_eq, exists_eq', w_vsortr, w_vsortset, dictp_l, w_dictz, w_efld, w_gfld, w_flda, w_eme, w_emk, w_eca, w_nolv, w_never, isLv_dat, isLv_cell, isLv_adr, Pu.tupK_d, ixg_t, ixg_d, w_orU, w_gtpl, tr_lv, w_vparn, setNs_cons, setNs_nil]))
/-! ### each thing, read twice -/
def keepP (d : PyData) : Bool := !isStrD d || match d with
  | .str t => decide ((t.length : Int) < 20001)
  | _ => false
def idD (d : PyData) : PyData := d
theorem str_of {d : PyData} (h : isStrD d = true) : ∃ t, d = .str t := by
  cases d <;> first | exact ⟨_, rfl⟩ | cases h
theorem finB_run {A : Adr} {M : Mem} {as : List (Str × Nat)} {d : PyData} {e0 e1 e2 e3 e5 e6 e7 e8 e9 e10 e11 e12 e14 e15 : Option U} {Q : Out → Mem → Prop} (ha : ActsOk as) (hd : ThB d) (hk : ∀ t, d = .str t → t.length ≤ 20001)
    (q : Q (.nx [e0, e1, e2, e3, some (.dat (.tuple (actsD as))), e5, e6, e7, e8, e9, e10, e11, e12, some (.dat d), e14, e15]) M) :
    W (lFinB A [e0, e1, e2, e3, some (.dat (.tuple (actsD as))), e5, e6, e7, e8, e9, e10, e11, e12, some (.dat d), e14, e15] M) Q := by
  obtain ⟨a0, a4, am, an⟩ := ha
  obtain ⟨o, ho, h1, h2⟩ := thing_same (A := A) (M := M) an (fun a ha => (nm_asc (am a ha).2).1) hd.1 hk
  have hz : ∃ z : Str, ∀ (N : Mem) (Q : U → Mem → Prop), Q (.dat (.str z)) N → W (vreprF [tOut o] N) Q := by
    rcases hd.1 with h | ⟨t, rfl, ht⟩
    · rcases ho with rfl | ⟨t, rfl, _⟩
      · exact tOut_ok (as := as) (t := Str.ofString "-") (by intro c hc; revert c; decide) (by decide) (fun a ha => (am a ha).1) (.inl rfl)
      · cases h
    · refine tOut_ok (as := as) ht (hk t rfl) (fun a ha => (am a ha).1) ?_
      rcases ho with rfl | ⟨t', e, h⟩
      · exact .inl rfl
      · cases e
        exact .inr h
  obtain ⟨z, hz⟩ := hz
  unfold lFinB
  push_cast [wipeR]
  refine h1 _ ?_
  refine hz _ _ ?_
  push_cast [wipeR]
  refine h2 _ ?_
  refine hz _ _ ?_
  push_cast [decide_true, Bool.not_true]
  exact q
def FnI (e0 e1 e2 e3 e4 e5 e6 e7 e8 e9 e10 e11 e12 e14 e15 : Option U) (M0 : Mem) (k : Nat) (ρ : Pu.Env) (M' : Mem) : Prop := M' = M0 ∧ ∃ y13 : Option U, ρ = [e0, e1, e2, e3, e4, e5, e6, e7, e8, e9, e10, e11, e12, y13, e14, e15]
theorem keep_str (t : Str) : keepP (.str t) = decide ((t.length : Int) < 20001) := by
  simp only [keepP, isStrD, Bool.not_true, Bool.false_or]
theorem fin_run {A : Adr} {M : Mem} {as : List (Str × Nat)} {ds : List PyData} {e0 e1 e2 e3 e5 e6 e7 e8 e9 e11 e12 e13 e14 e15 : Option U} {Q : Out → Mem → Prop} (ha : ActsOk as) (hd : ∀ d ∈ ds, ThB d) (hl : ds.length ≤ 30)
    (q : ∀ y13, Q (.nx [e0, e1, e2, e3, some (.dat (.tuple (actsD as))), e5, e6, e7, e8, e9, some (.lv ds), e11, e12, y13, e14, e15]) M) :
    W (lFin A [e0, e1, e2, e3, some (.dat (.tuple (actsD as))), e5, e6, e7, e8, e9, some (.lv ds), e11, e12, e13, e14, e15] M) Q := by
  unfold lFin
  push_cast [wipeR]
  rw [vlc_filterX (fun d => U.dat d) keepP idD ds (fun d hd1 => by
    push_cast [wipeR]
    cases hs : isStrD d with
    | false =>
      push_cast [hs]
      refine ⟨?_, fun _ => rfl⟩
      unfold keepP
      rw [hs]
      rfl
    | true =>
      obtain ⟨t, rfl⟩ := str_of hs
      have hb := (hd _ hd1).2 t rfl
      push_cast [hs]
      refine ⟨by rw [sizeLine_eq]; omega, ?_⟩
      exact ⟨rfl, fun _ => rfl⟩), w_some]
  push_cast [wipeR]
  refine ⟨by rw [List.length_map]; exact Nat.le_trans (List.length_filter_le ..) (by rw [sizeLine_eq]; omega), ?_⟩
  refine for_inv (FnI e0 e1 e2 e3 (some (.dat (.tuple (actsD as)))) e5 e6 e7 e8 e9 (some (.lv ds)) e11 e12 e14 e15 M) _ 0 _ _ ⟨rfl, _, rfl⟩ ?_ ?_
  · intro j u ρ M1 hj hI
    obtain ⟨rfl, y13, rfl⟩ := hI
    have hu : ∃ d ∈ ds, keepP d = true ∧ u = .dat d := by
      rw [List.getElem?_map] at hj
      obtain ⟨d, hd1, rfl⟩ := Option.map_eq_some_iff.mp hj
      have := List.mem_of_getElem? hd1
      obtain ⟨d', h1, rfl⟩ := List.mem_map.mp this
      obtain ⟨h2, h3⟩ := List.mem_filter.mp h1
      exact ⟨d', h2, h3, rfl⟩
    obtain ⟨d, hd1, hk, rfl⟩ := hu
    push_cast [wipeR]
    refine finB_run ha (hd d hd1) (fun t e => ?_) ⟨rfl, _, rfl⟩
    subst e
    rw [keep_str] at hk
    have := of_decide_eq_true hk
    omega
  · intro ρ M1 hI
    obtain ⟨rfl, y13, rfl⟩ := hI
    exact q y13
/-! ### the law -/
def TuI (h n : Nat) (N : Mem) (e0 e1 e3 e4 : Option U) (k : Nat) (ρ : Pu.Env) (M' : Mem) : Prop := ∃ (y5 y6 y7 y8 y9 y10 y11 y12 y13 y14 y15 : Option U), ρ = [e0, e1, some (.cell h), e3, e4, y5, y6, y7, y8, y9, y10, y11, y12, y13, y14, y15] ∧ HF N h (n + k * 2000) M'
theorem turn_run {A : Adr} {N M : Mem} {h n : Nat} {as : List (Str × Nat)} {e0 e1 e3 e5 e6 e7 e8 e9 e10 e11 e12 e13 e14 e15 : Option U} {Q : Out → Mem → Prop} (hh : HF N h n M) (hn : n + 3000 ≤ 1000000000) (ha : ActsOk as)
    (q : ∀ ρ M', TuI h (n + 2000) N e0 e1 e3 (some (.dat (.tuple (actsD as)))) 0 ρ M' → Q (.nx ρ) M') :
    W (lTurn A [e0, e1, some (.cell h), e3, some (.dat (.tuple (actsD as))), e5, e6, e7, e8, e9, e10, e11, e12, e13, e14, e15] M) Q := by
  unfold lTurn
  rw [w_seq]
  refine row_run hh (by omega) ha fun l st M1 hl l30 hh1 => ?_
  show W (sSeq lTxt _ _ _) _
  rw [w_seq]
  refine txt_run hl (by omega) ?_
  show W (sSeq lChk _ _ _) _
  rw [w_seq]
  refine chk_run hl (by omega) ?_
  show W (sSeq lThg _ _ _) _
  rw [w_seq]
  obtain ⟨_, t1, t2⟩ := tx_facts hl (by omega)
  refine thg_run t1 ?_
  show W (sSeq lSp _ _ _) _
  rw [w_seq]
  refine sp_run hh1 (by omega) ⟨t2, t1⟩ rfl (things0_ok hl (by omega)) fun ds y11 y12 M2 dl dt hh2 => ?_
  show W (lFin A _ _) _
  refine fin_run ha dt (by omega) fun y13 => ?_
  exact q _ _ ⟨_, _, _, _, _, _, _, _, _, _, _, rfl, hh2.mono (by omega)⟩
def LoI (ns : List Int) (k : Nat) (ρ : Pu.Env) (M' : Mem) : Prop := ∃ (y1 y2 y3 y4 y5 y6 y7 y8 y9 y10 y11 y12 y13 y14 y15 : Option U), ρ = [some (.scr ns), y1, y2, y3, y4, y5, y6, y7, y8, y9, y10, y11, y12, y13, y14, y15]
theorem nth_run {A : Adr} {M : Mem} {ns : List Int} {j k : Nat} {e2 e3 e4 e5 e6 e7 e8 e9 e10 e11 e12 e13 e14 e15 : Option U} {Q : Out → Mem → Prop} (hj : j ≤ 100) (q : ∀ ρ M', LoI ns k ρ M' → Q (.nx ρ) M') :
    W (lNth A [some (.scr ns), some (.dat (.int (j : Int))), e2, e3, e4, e5, e6, e7, e8, e9, e10, e11, e12, e13, e14, e15] M) Q := by
  unfold lNth
  push_cast [wipeR]
  refine hand_spec hj fun N hh0 => ?_
  generalize M.length = h at hh0
  push_cast [wipeR]
  refine names_spec (k := 4) hh0 (by omega) (by decide) fun ws M1 hw hw2 hnd hh1 => ?_
  push_cast [wipeR]
  refine acts_run hh1 (by omega) hw hw2 hnd fun as M2 ha hh2 => ?_
  push_cast [wipeR]
  refine ⟨by decide, by decide, for_inv (TuI h 22 N (some (.scr ns)) (some (.dat (.int (j : Int)))) (some (.lv (ws.map .str))) (some (.dat (.tuple (actsD as))))) _ 0 _ _ ⟨_, _, _, _, _, _, _, _, _, _, _, rfl, hh2.mono (by omega)⟩ ?_ ?_⟩
  · intro i u ρ M3 hi hI
    obtain ⟨hi1, rfl⟩ := range_get hi
    have hi2 : i < 2 := hi1
    rw [Nat.zero_add] at hI ⊢
    obtain ⟨y5, y6, y7, y8, y9, y10, y11, y12, y13, y14, y15, rfl, hh3⟩ := hI
    push_cast [wipeR]
    refine turn_run hh3 (by omega) ha fun ρ M4 hI4 => ?_
    obtain ⟨y5, y6, y7, y8, y9, y10, y11, y12, y13, y14, y15, rfl, hh4⟩ := hI4
    exact ⟨_, _, _, _, _, _, _, _, _, _, _, rfl, hh4.mono (by omega)⟩
  · intro ρ M3 hI
    obtain ⟨y5, y6, y7, y8, y9, y10, y11, y12, y13, y14, y15, rfl, hh3⟩ := hI
    exact q _ _ ⟨_, _, _, _, _, _, _, _, _, _, _, _, _, _, _, rfl⟩
theorem law_true (A : Adr) (ns : List Int) (hl : ns.length ≤ 63) : W (v_law A [.scr ns] []) fun u _ => u = .dat (.bool true) := by
  have hs : seqOf ([] : Mem) (.scr ns) = some (ns.map fun i => .dat (.int i)) := rfl
  rw [law_eq]
  push_cast [wipeR]
  rw [len_q hs, w_some]
  push_cast [List.length_map]
  have hmin : ∃ t : Nat, (1 + (if (ns.length : Int) < 3 then (ns.length : Int) else 3)) = t ∧ t ≤ 4 := ⟨(1 + (if (ns.length : Int) < 3 then (ns.length : Int) else 3)).toNat, by split <;> omega, by split <;> omega⟩
  obtain ⟨t, ht, ht4⟩ := hmin
  rw [ht]
  refine ⟨by omega, by omega, ?_⟩
  refine for_inv (LoI ns) _ 0 _ _ ⟨_, _, _, _, _, _, _, _, _, _, _, _, _, _, _, rfl⟩ ?_ ?_
  · intro j u ρ M hj hI
    obtain ⟨hj1, rfl⟩ := range_get hj
    have hj4 : j < 4 := by omega
    obtain ⟨y1, y2, y3, y4, y5, y6, y7, y8, y9, y10, y11, y12, y13, y14, y15, rfl⟩ := hI
    push_cast [Int.zero_add]
    exact nth_run (k := 0 + j + 1) (by omega) fun ρ M' h => h
  · intro ρ M hI
    obtain ⟨y1, y2, y3, y4, y5, y6, y7, y8, y9, y10, y11, y12, y13, y14, y15, rfl⟩ := hI
    push_cast [wipeR]
theorem law_whole (A : Adr) (ns : List Int) (hl : ns.length ≤ 63) : W (m_law A [.scr ns] []) fun u _ => u = .dat (.bool true) := by
  obtain ⟨u, M, e, rfl⟩ := law_true A ns hl
  obtain ⟨M', e'⟩ := Pu.vf_law (Z.vf_law A) e rfl
  exact ⟨_, M', e', rfl⟩
end Z

namespace Z
open PySem PySem.Spec PyProof.Rows L2 Lw Pu
/-- whoever answers True, whatever the heap -/
def spTrue (K : PySem.W.Frag) : Sp := fun vs H Q _ => ∃ (a : Addr) (ns : List Int), vs = [.ref a] ∧ SqL K H a (ns.map V.int) ∧ ns.length ≤ 63 ∧ ∀ H', Q (.bl true) H'
theorem fnG_true {P : Program} {w : World} {K : PySem.W.Frag} {mg : Str → Option Value} {base : Heap} {k : Nat} {f : Addr} {fd : FuncData} {ps : List Str} {m : FA} (F : FnG P w K mg base k f fd ps (spOf K m))
    (h : ∀ ns : List Int, ns.length ≤ 63 → W (m [.scr ns] []) fun u _ => u = .dat (.bool true)) : FnG P w K mg base k f fd ps (spTrue K) := by
  have imp : ∀ vs H Q E, spTrue K vs H Q E → spOf K m vs H Q E := by
    rintro vs H Q E ⟨a, ns, rfl, hS, hl, q⟩
    obtain ⟨u, M, e, hu⟩ := h ns hl
    refine sp_law_imp ⟨a, ns, rfl, hS, hl, by rw [e]; exact fun z => (by cases z), fun u' M' e' => ?_⟩
    rw [e] at e'
    cases e'
    exact ⟨hu, q⟩
  exact ⟨fun vs H Q E q => F.lenG vs H Q E (imp _ _ _ _ q), fun A outer s H args us vs Q E hg hr he hb hv hs => F.runG A outer s H args us vs Q E hg hr he hb hv (imp _ _ _ _ hs)⟩
theorem law_ok (A : Adr) : ∀ ns : List Int, ns.length ≤ 63 → W (m_law A [.scr ns] []) fun u _ => u = .dat (.bool true) := fun ns hl => law_whole A ns hl
theorem kb_show_history_0_history_vals {vs zs : List V} {us ws : List Value} (r1 : Vals vs us) (r2 : Vals zs ws) : Vals (kb_show_history_0_history vs zs) (kb_show_history_0_history us ws) := by
  by_cases h : vs.length = 0 ∧ zs.length = 1
  · match vs, us, zs, ws, r1, r2, h with
    | _, _, _, _, .nil, (.cons hb0 .nil), _ => exact (.cons hb0 .nil)
  · have e1 := r1.length
    have e2 := r2.length
    have z1 : kb_show_history_0_history vs zs = [] := by
      unfold kb_show_history_0_history
      split
      · exact absurd ⟨rfl, rfl⟩ h
      · rfl
    have z2 : kb_show_history_0_history us ws = [] := by
      unfold kb_show_history_0_history
      split
      · exact absurd ⟨by simpa using e1, by simpa using e2⟩ h
      · rfl
    rw [z1, z2]
    exact .nil
theorem kb_show_history_0_history_none {us ws : List Value} (h : ¬ (us.length = 0 ∧ ws.length = 1)) : kb_show_history_0_history us ws = [] := by
  unfold kb_show_history_0_history
  split
  · exact absurd ⟨rfl, rfl⟩ h
  · rfl
theorem kit_self {K : PySem.W.Frag} {v : Value} : PySem.W.kitOne K v v = some true := by
  unfold PySem.W.kitOne
  rw [if_pos (by simp)]
theorem exm_of {K : PySem.W.Frag} {S C : Addr} (h1 : PySem.W.subIn K (.ref S) (.type "BaseException") = some true) (h2 : PySem.W.hasDictIn K S = true) (h3 : PySem.W.typeIn K (.ref S) = some (.type "type")) (h4 : PySem.W.subIn K (.ref C) (.ref S) = some true) : PySem.W.exmOne K (.ref C) (.ref S) = some true := PySem.W.exm_ref h1 h2 h3 h4
set_option maxHeartbeats 0 in
theorem all_mk {l : PySem.W.OpenLaw} {w : World} {K : PySem.W.Frag} {h : Heap} {mg : Str → Option Value} {Ce0 Ce1 fie0 fa f0 f1 f2 f3 f4 f5 f6 f7 f8 f9 f10 f11 f12 f13 f14 f15 f16 : Addr} {od0 an0 od1 an1 od2 an2 od3 an3 od4 an4 od5 an5 od6 an6 od7 an7 od8 an8 od9 an9 od10 an10 od11 an11 od12 an12 od13 an13 od14 an14 od15 an15 od16 an16 : Option Addr} {sl0 sl1 sl2 sl3 sl4 sl5 sl6 sl7 sl8 sl9 sl10 sl11 sl12 sl13 sl14 sl15 sl16 : Array (Option Value)} {oc0 kV0 dc0 pm0 cd0 ct0 oc1 kV1 dc1 pm1 cd1 ct1 oc2 kV2 dc2 pm2 cd2 ct2 oc3 kV3 dc3 pm3 cd3 ct3 oc4 kV4 dc4 pm4 cd4 ct4 oc5 kV5 dc5 pm5 cd5 ct5 oc6 kV6 dc6 pm6 cd6 ct6 oc7 kV7 dc7 pm7 cd7 ct7 oc8 kV8 dc8 pm8 cd8 ct8 oc9 kV9 dc9 pm9 cd9 ct9 oc10 kV10 dc10 pm10 cd10 ct10 oc11 kV11 dc11 pm11 cd11 ct11 oc12 kV12 dc12 pm12 cd12 ct12 oc13 kV13 dc13 pm13 cd13 ct13 oc14 kV14 dc14 pm14 cd14 ct14 oc15 kV15 dc15 pm15 cd15 ct15 oc16 kV16 dc16 pm16 cd16 ct16 : Value}
    (X : K.In h) (G : h.Ns mainGlobals mg) (hfa : mg "law" = some (.ref fa))
    (a0 : PySem.W.nsIn K mainGlobals "read_number" = some (some (.ref f0)))
    (l0 : K.lookup f0 = some ⟨oc0, od0, .func (PySem.W.fnOf "read_number" "read_number" (defArgs s_read_number) (defBody s_read_number) (defScope s_read_number) .none kV0 dc0 pm0 an0 cd0 ct0), sl0⟩)
    (c0 : PySem.W.codeIn K cd0 "read_number" = true) (k0 : PySem.W.keepIn K (.ref f0) = true)
    (a1 : PySem.W.nsIn K mainGlobals "read_whole" = some (some (.ref f1)))
    (l1 : K.lookup f1 = some ⟨oc1, od1, .func (PySem.W.fnOf "read_whole" "read_whole" (defArgs s_read_whole) (defBody s_read_whole) (defScope s_read_whole) .none kV1 dc1 pm1 an1 cd1 ct1), sl1⟩)
    (c1 : PySem.W.codeIn K cd1 "read_whole" = true) (k1 : PySem.W.keepIn K (.ref f1) = true)
    (a2 : PySem.W.nsIn K mainGlobals "read_deed" = some (some (.ref f2)))
    (l2 : K.lookup f2 = some ⟨oc2, od2, .func (PySem.W.fnOf "read_deed" "read_deed" (defArgs s_read_deed) (defBody s_read_deed) (defScope s_read_deed) .none kV2 dc2 pm2 an2 cd2 ct2), sl2⟩)
    (c2 : PySem.W.codeIn K cd2 "read_deed" = true) (k2 : PySem.W.keepIn K (.ref f2) = true)
    (a3 : PySem.W.nsIn K mainGlobals "read_history" = some (some (.ref f3)))
    (l3 : K.lookup f3 = some ⟨oc3, od3, .func (PySem.W.fnOf "read_history" "read_history" (defArgs s_read_history) (defBody s_read_history) (defScope s_read_history) .none kV3 dc3 pm3 an3 cd3 ct3), sl3⟩)
    (c3 : PySem.W.codeIn K cd3 "read_history" = true) (k3 : PySem.W.keepIn K (.ref f3) = true)
    (a4 : PySem.W.nsIn K mainGlobals "show_history" = some (some (.ref f4)))
    (l4 : K.lookup f4 = some ⟨oc4, od4, .func (PySem.W.fnOf "show_history" "show_history" (defArgs s_show_history) (defBody s_show_history) (defScope s_show_history) .none kV4 dc4 pm4 an4 cd4 ct4), sl4⟩)
    (c4 : PySem.W.codeIn K cd4 "show_history" = true) (k4 : PySem.W.keepIn K (.ref f4) = true)
    (a5 : PySem.W.nsIn K mainGlobals "_law_hand" = some (some (.ref f5)))
    (l5 : K.lookup f5 = some ⟨oc5, od5, .func (PySem.W.fnOf "_law_hand" "_law_hand" (defArgs s__law_hand) (defBody s__law_hand) (defScope s__law_hand) .none kV5 dc5 pm5 an5 cd5 ct5), sl5⟩)
    (c5 : PySem.W.codeIn K cd5 "_law_hand" = true) (k5 : PySem.W.keepIn K (.ref f5) = true)
    (a6 : PySem.W.nsIn K mainGlobals "_law_take" = some (some (.ref f6)))
    (l6 : K.lookup f6 = some ⟨oc6, od6, .func (PySem.W.fnOf "_law_take" "_law_take" (defArgs s__law_take) (defBody s__law_take) (defScope s__law_take) .none kV6 dc6 pm6 an6 cd6 ct6), sl6⟩)
    (c6 : PySem.W.codeIn K cd6 "_law_take" = true) (k6 : PySem.W.keepIn K (.ref f6) = true)
    (a7 : PySem.W.nsIn K mainGlobals "_law_of" = some (some (.ref f7)))
    (l7 : K.lookup f7 = some ⟨oc7, od7, .func (PySem.W.fnOf "_law_of" "_law_of" (defArgs s__law_of) (defBody s__law_of) (defScope s__law_of) .none kV7 dc7 pm7 an7 cd7 ct7), sl7⟩)
    (c7 : PySem.W.codeIn K cd7 "_law_of" = true) (k7 : PySem.W.keepIn K (.ref f7) = true)
    (a8 : PySem.W.nsIn K mainGlobals "_law_names" = some (some (.ref f8)))
    (l8 : K.lookup f8 = some ⟨oc8, od8, .func (PySem.W.fnOf "_law_names" "_law_names" (defArgs s__law_names) (defBody s__law_names) (defScope s__law_names) .none kV8 dc8 pm8 an8 cd8 ct8), sl8⟩)
    (c8 : PySem.W.codeIn K cd8 "_law_names" = true) (k8 : PySem.W.keepIn K (.ref f8) = true)
    (a9 : PySem.W.nsIn K mainGlobals "_law_number" = some (some (.ref f9)))
    (l9 : K.lookup f9 = some ⟨oc9, od9, .func (PySem.W.fnOf "_law_number" "_law_number" (defArgs s__law_number) (defBody s__law_number) (defScope s__law_number) .none kV9 dc9 pm9 an9 cd9 ct9), sl9⟩)
    (c9 : PySem.W.codeIn K cd9 "_law_number" = true) (k9 : PySem.W.keepIn K (.ref f9) = true)
    (a10 : PySem.W.nsIn K mainGlobals "_law_row" = some (some (.ref f10)))
    (l10 : K.lookup f10 = some ⟨oc10, od10, .func (PySem.W.fnOf "_law_row" "_law_row" (defArgs s__law_row) (defBody s__law_row) (defScope s__law_row) .none kV10 dc10 pm10 an10 cd10 ct10), sl10⟩)
    (c10 : PySem.W.codeIn K cd10 "_law_row" = true) (k10 : PySem.W.keepIn K (.ref f10) = true)
    (a11 : PySem.W.nsIn K mainGlobals "_law_figures" = some (some (.ref f11)))
    (l11 : K.lookup f11 = some ⟨oc11, od11, .func (PySem.W.fnOf "_law_figures" "_law_figures" (defArgs s__law_figures) (defBody s__law_figures) (defScope s__law_figures) .none kV11 dc11 pm11 an11 cd11 ct11), sl11⟩)
    (c11 : PySem.W.codeIn K cd11 "_law_figures" = true) (k11 : PySem.W.keepIn K (.ref f11) = true)
    (a12 : PySem.W.nsIn K mainGlobals "_law_spoilt_row" = some (some (.ref f12)))
    (l12 : K.lookup f12 = some ⟨oc12, od12, .func (PySem.W.fnOf "_law_spoilt_row" "_law_spoilt_row" (defArgs s__law_spoilt_row) (defBody s__law_spoilt_row) (defScope s__law_spoilt_row) .none kV12 dc12 pm12 an12 cd12 ct12), sl12⟩)
    (c12 : PySem.W.codeIn K cd12 "_law_spoilt_row" = true) (k12 : PySem.W.keepIn K (.ref f12) = true)
    (a13 : PySem.W.nsIn K mainGlobals "_law_row_text" = some (some (.ref f13)))
    (l13 : K.lookup f13 = some ⟨oc13, od13, .func (PySem.W.fnOf "_law_row_text" "_law_row_text" (defArgs s__law_row_text) (defBody s__law_row_text) (defScope s__law_row_text) .none kV13 dc13 pm13 an13 cd13 ct13), sl13⟩)
    (c13 : PySem.W.codeIn K cd13 "_law_row_text" = true) (k13 : PySem.W.keepIn K (.ref f13) = true)
    (a14 : PySem.W.nsIn K mainGlobals "_law_read_row" = some (some (.ref f14)))
    (l14 : K.lookup f14 = some ⟨oc14, od14, .func (PySem.W.fnOf "_law_read_row" "_law_read_row" (defArgs s__law_read_row) (defBody s__law_read_row) (defScope s__law_read_row) .none kV14 dc14 pm14 an14 cd14 ct14), sl14⟩)
    (c14 : PySem.W.codeIn K cd14 "_law_read_row" = true) (k14 : PySem.W.keepIn K (.ref f14) = true)
    (a15 : PySem.W.nsIn K mainGlobals "_law_told" = some (some (.ref f15)))
    (l15 : K.lookup f15 = some ⟨oc15, od15, .func (PySem.W.fnOf "_law_told" "_law_told" (defArgs s__law_told) (defBody s__law_told) (defScope s__law_told) .none kV15 dc15 pm15 an15 cd15 ct15), sl15⟩)
    (c15 : PySem.W.codeIn K cd15 "_law_told" = true) (k15 : PySem.W.keepIn K (.ref f15) = true)
    (a16 : PySem.W.nsIn K mainGlobals "law" = some (some (.ref f16)))
    (l16 : K.lookup f16 = some ⟨oc16, od16, .func (PySem.W.fnOf "law" "law" (defArgs s_law) (defBody s_law) (defScope s_law) .none kV16 dc16 pm16 an16 cd16 ct16), sl16⟩)
    (c16 : PySem.W.codeIn K cd16 "law" = true) (k16 : PySem.W.keepIn K (.ref f16) = true)
    (z0 : PySem.W.nsIn K mainGlobals "ValueError" = some none)
    (z1 : PySem.W.nsIn K mainGlobals "abs" = some none)
    (z2 : PySem.W.nsIn K mainGlobals "all" = some none)
    (z3 : PySem.W.nsIn K mainGlobals "dict" = some none)
    (z4 : PySem.W.nsIn K mainGlobals "int" = some none)
    (z5 : PySem.W.nsIn K mainGlobals "isinstance" = some none)
    (z6 : PySem.W.nsIn K mainGlobals "len" = some none)
    (z7 : PySem.W.nsIn K mainGlobals "list" = some none)
    (z8 : PySem.W.nsIn K mainGlobals "min" = some none)
    (z9 : PySem.W.nsIn K mainGlobals "range" = some none)
    (z10 : PySem.W.nsIn K mainGlobals "repr" = some none)
    (z11 : PySem.W.nsIn K mainGlobals "str" = some none)
    (z12 : PySem.W.nsIn K mainGlobals "tuple" = some none)
    {tk0 : Tok} (y0 : PySem.W.nsIn K mainGlobals "MOST_FIGURES" = some (some (.int 70 tk0)))
    {ts0 : Tok} (ys0 : PySem.W.nsIn K mainGlobals "FIGURES" = some (some (.str (Str.ofString "0123456789") ts0)))
    (ae0 : PySem.W.nsIn K mainGlobals "NoText" = some (some (.ref Ce0)))
    (ae1 : PySem.W.nsIn K mainGlobals "ToldError" = some (some (.ref Ce1)))
    {nme0 qe0 : Str} {Ne0 : Addr} {bse0 bme0 : List Value} {sne0 : List Str} {sube0 : List Value} {abe0 : Bool} {cole0 : Option Bool} {dde0 : Option Addr} {m0e0 m1e0 m2e0 m3e0 m5e0 : Option Value} (xle0 : K.lookup Ce0 = some (excClassObj nme0 qe0 Ce0 Ne0 bse0 bme0 true sne0 sube0 abe0 cole0 dde0 m0e0 m1e0 m2e0 m3e0 m5e0 "ValueError.__new__")) (xre0 : PySem.HandSPX.refsVE bme0 = true)
    (sae0 : PySem.W.findIn K (.ref Ce0) "__setattr__" = some (some (.builtin "object.__setattr__"))) (gae0 : PySem.W.findIn K (.ref Ce0) "__getattribute__" = some (some (.builtin "BaseException.__getattribute__"))) (gge0 : PySem.W.findIn K (.ref Ce0) "__getattr__" = some none) (nbe0 : PySem.W.findIn K (.ref Ce0) "row" = some none)
    (iie0 : PySem.W.findIn K (.ref Ce0) "__init__" = some (some (.ref fie0))) (tie0 : PySem.W.typeIn K (.ref fie0) = some (.type "function")) {oce0 kVe0 dce0 pme0 cde0 cte0 : Value} {ode0 ane0 : Option Addr} {sle0 : Array (Option Value)} (le0 : K.lookup fie0 = some ⟨oce0, ode0, .func (PySem.W.fnOf "__init__" "NoText.__init__" (defArgs s_init_NoText) (defBody s_init_NoText) (defScope s_init_NoText) .none kVe0 dce0 pme0 ane0 cde0 cte0), sle0⟩) (ce0 : PySem.W.codeIn K cde0 "NoText.__init__" = true) (ke0 : PySem.W.keepIn K (.ref fie0) = true)
    (kCe0 : PySem.W.keepIn K (.ref Ce0) = true) (eCe0 : PySem.W.subIn K (.ref Ce0) (.type "BaseException") = some true) (tCe0 : PySem.W.typeIn K (.ref Ce0) = some (.type "type")) (hCe0 : PySem.W.hasDictIn K Ce0 = true) (iCe0 : PySem.W.isClsIn K Ce0 = true)
    (cae0 : PySem.W.findIn K (.ref Ce0) "__class__" = some (some (.builtin "object.__class__"))) (cge0 : PySem.W.specialIn K (.builtin "object.__class__") "__get__" = some (some (.builtin "getset_descriptor.__get__"))) (ct2e0 : PySem.W.takesIn K (.builtin "object.__class__") = some true) (moe0 : PySem.W.mroIn K Ce0 (.type "object") = some true)
    (kve0 : PySem.W.kitOne K (.ref Ce0) (.type "ValueError") = some true) (kne0 : PySem.W.kitOne K (.type "NoneType") (.ref Ce0) = some false)
    (bCe1 : PySem.W.subIn K (.ref Ce1) (.type "BaseException") = some true) (jCe1 : PySem.W.hasDictIn K Ce1 = true) (uCe1 : PySem.W.typeIn K (.ref Ce1) = some (.type "type"))
    (sbe0e1 : PySem.W.subIn K (.ref Ce0) (.ref Ce1) = some true) :
    ∃ fd : FuncData, (∀ (s : Shared) (v : Value), BindsTo s fd ⟨[v], []⟩ [("_law_script", v)]) ∧ ∀ base : Heap, K.In base → base.Ns mainGlobals mg → FnG l.prog w K mg base 6 fa fd ["_law_script"] (spTrue K) := by
  have e := hfa.symm.trans (PySem.W.mg_of X G a16)
  cases e
  have F0 := fun_mk (st := s_read_number) l0 c0 k0
  have b0 := F0.binds (ps := ["word"]) fun _ _ _ _ _ _ us hl => match us, hl with | [_], _ => rfl
  have F1 := fun_mk (st := s_read_whole) l1 c1 k1
  have b1 := F1.binds (ps := ["word"]) fun _ _ _ _ _ _ us hl => match us, hl with | [_], _ => rfl
  have F2 := fun_mk (st := s_read_deed) l2 c2 k2
  have b2 := F2.binds (ps := ["deeds", "row"]) fun _ _ _ _ _ _ us hl => match us, hl with | [_, _], _ => rfl
  have F3 := fun_mk (st := s_read_history) l3 c3 k3
  have b3 := F3.binds (ps := ["deeds", "text"]) fun _ _ _ _ _ _ us hl => match us, hl with | [_, _], _ => rfl
  have F4 := fun_mk (st := s_show_history) l4 c4 k4
  have b4 := F4.binds (ps := ["history"]) fun _ _ _ _ _ _ us hl => match us, hl with | [_], _ => rfl
  have F5 := fun_mk (st := s__law_hand) l5 c5 k5
  have b5 := F5.binds (ps := ["_law_script", "_law_nth"]) fun _ _ _ _ _ _ us hl => match us, hl with | [_, _], _ => rfl
  have F6 := fun_mk (st := s__law_take) l6 c6 k6
  have b6 := F6.binds (ps := ["_law_hand_here", "_law_upon"]) fun _ _ _ _ _ _ us hl => match us, hl with | [_, _], _ => rfl
  have F7 := fun_mk (st := s__law_of) l7 c7 k7
  have b7 := F7.binds (ps := ["_law_hand_here", "_law_some"]) fun _ _ _ _ _ _ us hl => match us, hl with | [_, _], _ => rfl
  have F8 := fun_mk (st := s__law_names) l8 c8 k8
  have b8 := F8.binds (ps := ["_law_hand_here", "_law_count"]) fun _ _ _ _ _ _ us hl => match us, hl with | [_, _], _ => rfl
  have F9 := fun_mk (st := s__law_number) l9 c9 k9
  have b9 := F9.binds (ps := ["_law_hand_here"]) fun _ _ _ _ _ _ us hl => match us, hl with | [_], _ => rfl
  have F10 := fun_mk (st := s__law_row) l10 c10 k10
  have b10 := F10.binds (ps := ["_law_hand_here", "_law_prog", "_law_gate", "_law_stead", "_law_count"]) fun _ _ _ _ _ _ us hl => match us, hl with | [_, _, _, _, _], _ => rfl
  have F11 := fun_mk (st := s__law_figures) l11 c11 k11
  have b11 := F11.binds (ps := ["_law_word"]) fun _ _ _ _ _ _ us hl => match us, hl with | [_], _ => rfl
  have F12 := fun_mk (st := s__law_spoilt_row) l12 c12 k12
  have b12 := F12.binds (ps := ["_law_hand_here", "_law_row_here"]) fun _ _ _ _ _ _ us hl => match us, hl with | [_, _], _ => rfl
  have F13 := fun_mk (st := s__law_row_text) l13 c13 k13
  have b13 := F13.binds (ps := ["_law_row_here"]) fun _ _ _ _ _ _ us hl => match us, hl with | [_], _ => rfl
  have F14 := fun_mk (st := s__law_read_row) l14 c14 k14
  have b14 := F14.binds (ps := ["_law_acts", "_law_text"]) fun _ _ _ _ _ _ us hl => match us, hl with | [_, _], _ => rfl
  have F15 := fun_mk (st := s__law_told) l15 c15 k15
  have b15 := F15.binds (ps := ["_law_acts", "_law_text"]) fun _ _ _ _ _ _ us hl => match us, hl with | [_, _], _ => rfl
  have F16 := fun_mk (st := s_law) l16 c16 k16
  have b16 := F16.binds (ps := ["_law_script"]) fun _ _ _ _ _ _ us hl => match us, hl with | [_], _ => rfl
  let T : Txt K mg := {
    f_read_number := f0, fd_read_number := _, F_read_number := F0, g_read_number := PySem.W.mg_of X G a0, b_read_number := b0,
    f_read_whole := f1, fd_read_whole := _, F_read_whole := F1, g_read_whole := PySem.W.mg_of X G a1, b_read_whole := b1,
    f_read_deed := f2, fd_read_deed := _, F_read_deed := F2, g_read_deed := PySem.W.mg_of X G a2, b_read_deed := b2,
    f_read_history := f3, fd_read_history := _, F_read_history := F3, g_read_history := PySem.W.mg_of X G a3, b_read_history := b3,
    f_show_history := f4, fd_show_history := _, F_show_history := F4, g_show_history := PySem.W.mg_of X G a4, b_show_history := b4,
    f__law_hand := f5, fd__law_hand := _, F__law_hand := F5, g__law_hand := PySem.W.mg_of X G a5, b__law_hand := b5,
    f__law_take := f6, fd__law_take := _, F__law_take := F6, g__law_take := PySem.W.mg_of X G a6, b__law_take := b6,
    f__law_of := f7, fd__law_of := _, F__law_of := F7, g__law_of := PySem.W.mg_of X G a7, b__law_of := b7,
    f__law_names := f8, fd__law_names := _, F__law_names := F8, g__law_names := PySem.W.mg_of X G a8, b__law_names := b8,
    f__law_number := f9, fd__law_number := _, F__law_number := F9, g__law_number := PySem.W.mg_of X G a9, b__law_number := b9,
    f__law_row := f10, fd__law_row := _, F__law_row := F10, g__law_row := PySem.W.mg_of X G a10, b__law_row := b10,
    f__law_figures := f11, fd__law_figures := _, F__law_figures := F11, g__law_figures := PySem.W.mg_of X G a11, b__law_figures := b11,
    f__law_spoilt_row := f12, fd__law_spoilt_row := _, F__law_spoilt_row := F12, g__law_spoilt_row := PySem.W.mg_of X G a12, b__law_spoilt_row := b12,
    f__law_row_text := f13, fd__law_row_text := _, F__law_row_text := F13, g__law_row_text := PySem.W.mg_of X G a13, b__law_row_text := b13,
    f__law_read_row := f14, fd__law_read_row := _, F__law_read_row := F14, g__law_read_row := PySem.W.mg_of X G a14, b__law_read_row := b14,
    f__law_told := f15, fd__law_told := _, F__law_told := F15, g__law_told := PySem.W.mg_of X G a15, b__law_told := b15,
    f_law := fa, fd_law := _, F_law := F16, g_law := PySem.W.mg_of X G a16, b_law := b16,
    kb_kb_show_history_0_history := ⟨fun s us ws _ hl => (if hh : us.length = 0 ∧ ws.length = 1 then (match us, ws, hh with | [], [_], _ => .of_eq rfl) else absurd hl (by rw [kb_show_history_0_history_none hh]; decide)), fun r1 r2 => kb_show_history_0_history_vals r1 r2⟩,
    m_ValueError := PySem.W.mg_none_of X G z0,
    m_abs := PySem.W.mg_none_of X G z1,
    m_all := PySem.W.mg_none_of X G z2,
    m_dict := PySem.W.mg_none_of X G z3,
    m_int := PySem.W.mg_none_of X G z4,
    m_isinstance := PySem.W.mg_none_of X G z5,
    m_len := PySem.W.mg_none_of X G z6,
    m_list := PySem.W.mg_none_of X G z7,
    m_min := PySem.W.mg_none_of X G z8,
    m_range := PySem.W.mg_none_of X G z9,
    m_repr := PySem.W.mg_none_of X G z10,
    m_str := PySem.W.mg_none_of X G z11,
    m_tuple := PySem.W.mg_none_of X G z12,
    m_MOST_FIGURES := ⟨_, PySem.W.mg_of X G y0, ⟨_, rfl⟩⟩,
    m_FIGURES := ⟨_, PySem.W.mg_of X G ys0, ⟨_, rfl⟩⟩,
    C_NoText := Ce0, mC_NoText := PySem.W.mg_of X G ae0,
    C_ToldError := Ce1, mC_ToldError := PySem.W.mg_of X G ae1,
    fi_NoText := fie0, fdi_NoText := _, Fi_NoText := fun_mk (st := s_init_NoText) le0 ce0 ke0, bi_NoText := (fun_mk (st := s_init_NoText) le0 ce0 ke0).binds (ps := ["self", "row"]) (fun _ _ _ _ _ _ us hl => match us, hl with | [_, _], _ => rfl), ox_NoText := ⟨⟨_, _, _, _, _, _, _, _, _, _, _, _, _, _, _, xle0, xre0⟩, sae0, eCe0, tCe0, kCe0⟩, ii_NoText := iie0, ti_NoText := tie0, no_NoText := nbe0, xc_NoText := ⟨gae0, gge0, eCe0, hCe0⟩, kc_NoText := ⟨iCe0, gae0, gge0, eCe0, cae0, cge0, ct2e0, moe0⟩, kv_NoText := kve0, kn_NoText := kne0,
    ks_NoText_NoText := kit_self,
    ex_ToldError_NoText := exm_of bCe1 jCe1 uCe1 sbe0e1 }
  exact ⟨T.fd_law, fun s v => .of_eq rfl, fun base _ _ => fnG_true (ok_law T) (law_ok T.A)⟩
end Z
open PySem PySem.W PyProof.Rows
set_option maxHeartbeats 0 in
theorem PySem.Challenge.cw_stilltold_k70_histories_written_and_spoi_holds : PySem.Challenge.rw_stilltold_k70_histories_written_and_spoi.Holds := by
  w_on; o_law; k_head; (case hw => w_witness2)
  k_fill
  refine Lw.walkG (l := PySem.Challenge.rw_stilltold_k70_histories_written_and_spoi) (n := 63) (k := 6) (x := "_law_script") (sp := fun K => Z.spTrue K) rfl (by decide) rfl ⟨rfl, by decide, by decide⟩ (fun w h Y => PySem.W.kIn_of Y) ?F (fun K _ a ns hl _ hS => ⟨a, ns, rfl, hS, hl, fun _ => rfl⟩)
  case F =>
    intro w mg fa h KX G hmg
    refine' Z.all_mk KX G hmg ?a0 ?l0 ?c0 ?k0 ?a1 ?l1 ?c1 ?k1 ?a2 ?l2 ?c2 ?k2 ?a3 ?l3 ?c3 ?k3 ?a4 ?l4 ?c4 ?k4 ?a5 ?l5 ?c5 ?k5 ?a6 ?l6 ?c6 ?k6 ?a7 ?l7 ?c7 ?k7 ?a8 ?l8 ?c8 ?k8 ?a9 ?l9 ?c9 ?k9 ?a10 ?l10 ?c10 ?k10 ?a11 ?l11 ?c11 ?k11 ?a12 ?l12 ?c12 ?k12 ?a13 ?l13 ?c13 ?k13 ?a14 ?l14 ?c14 ?k14 ?a15 ?l15 ?c15 ?k15 ?a16 ?l16 ?c16 ?k16 ?z0 ?z1 ?z2 ?z3 ?z4 ?z5 ?z6 ?z7 ?z8 ?z9 ?z10 ?z11 ?z12 ?y0 ?ys0 ?ae0 ?ae1 ?xle0 ?xre0 ?sae0 ?gae0 ?gge0 ?nbe0 ?iie0 ?tie0 ?le0 ?ce0 ?ke0 ?kCe0 ?eCe0 ?tCe0 ?hCe0 ?iCe0 ?cae0 ?cge0 ?ct2e0 ?moe0 ?kve0 ?kne0 ?bCe1 ?jCe1 ?uCe1 ?sbe0e1
    (case ae0 => k_is); (case ae1 => k_is)
    (case a0 => k_is); (case l0 => k_is); (case c0 => k_is); (case k0 => k_is); (case a1 => k_is); (case l1 => k_is); (case c1 => k_is); (case k1 => k_is); (case a2 => k_is); (case l2 => k_is); (case c2 => k_is); (case k2 => k_is); (case a3 => k_is); (case l3 => k_is); (case c3 => k_is); (case k3 => k_is); (case a4 => k_is); (case l4 => k_is); (case c4 => k_is); (case k4 => k_is); (case a5 => k_is); (case l5 => k_is); (case c5 => k_is); (case k5 => k_is); (case a6 => k_is); (case l6 => k_is); (case c6 => k_is); (case k6 => k_is); (case a7 => k_is); (case l7 => k_is); (case c7 => k_is); (case k7 => k_is); (case a8 => k_is); (case l8 => k_is); (case c8 => k_is); (case k8 => k_is); (case a9 => k_is); (case l9 => k_is); (case c9 => k_is); (case k9 => k_is); (case a10 => k_is); (case l10 => k_is); (case c10 => k_is); (case k10 => k_is); (case a11 => k_is); (case l11 => k_is); (case c11 => k_is); (case k11 => k_is); (case a12 => k_is); (case l12 => k_is); (case c12 => k_is); (case k12 => k_is); (case a13 => k_is); (case l13 => k_is); (case c13 => k_is); (case k13 => k_is); (case a14 => k_is); (case l14 => k_is); (case c14 => k_is); (case k14 => k_is); (case a15 => k_is); (case l15 => k_is); (case c15 => k_is); (case k15 => k_is); (case a16 => k_is); (case l16 => k_is); (case c16 => k_is); (case k16 => k_is); (case z0 => k_is); (case z1 => k_is); (case z2 => k_is); (case z3 => k_is); (case z4 => k_is); (case z5 => k_is); (case z6 => k_is); (case z7 => k_is); (case z8 => k_is); (case z9 => k_is); (case z10 => k_is); (case z11 => k_is); (case z12 => k_is); (case y0 => k_is); (case ys0 => k_is)
    (case xle0 => first | k_is | decide +kernel | rfl); (case xre0 => first | k_is | decide +kernel | rfl); (case sae0 => first | k_is | decide +kernel | rfl); (case gae0 => first | k_is | decide +kernel | rfl); (case gge0 => first | k_is | decide +kernel | rfl); (case nbe0 => first | k_is | decide +kernel | rfl); (case iie0 => first | k_is | decide +kernel | rfl); (case tie0 => first | k_is | decide +kernel | rfl); (case le0 => first | k_is | decide +kernel | rfl); (case ce0 => first | k_is | decide +kernel | rfl); (case ke0 => first | k_is | decide +kernel | rfl); (case kCe0 => first | k_is | decide +kernel | rfl); (case eCe0 => first | k_is | decide +kernel | rfl); (case tCe0 => first | k_is | decide +kernel | rfl); (case hCe0 => first | k_is | decide +kernel | rfl); (case iCe0 => first | k_is | decide +kernel | rfl); (case cae0 => first | k_is | decide +kernel | rfl); (case cge0 => first | k_is | decide +kernel | rfl); (case ct2e0 => first | k_is | decide +kernel | rfl); (case moe0 => first | k_is | decide +kernel | rfl); (case kve0 => first | k_is | decide +kernel | rfl); (case kne0 => first | k_is | decide +kernel | rfl); (case bCe1 => first | k_is | decide +kernel | rfl); (case jCe1 => first | k_is | decide +kernel | rfl); (case uCe1 => first | k_is | decide +kernel | rfl); (case sbe0e1 => first | k_is | decide +kernel | rfl)
