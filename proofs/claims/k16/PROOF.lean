import PyProof.Rows.All
import Wide.All
import OpenK.AllK
import Wide.FinOn
import PySem.Challenge.RW_aheadbehind_k16_whole_boxes_numbered_and
import HandS.ForMost
import HandS.RaiseMore
import HandS.Exc
import HandS.ExcInit
import HandS.ExcIs
import HandS.ExcField
import HandS.IsInst
import KE.KExcInit
import HandS.ExcValue
import HandS.Defaults
import HandS.Evl
import HandS.HeadHook1
import HandS.HeadHook2
import HandS.Head0
import HandS.Head1
import HandS.Head2
import HandS.HeadEnd
import HandS.WideBits
import HandS.Wide
import HandS.StrMore
import HandS.Style
import HandS.Walk
import HandS.TupLe
import KE.KDictDisplayH
import HandS.Dict
import PyProof.StrOps2
import PyProof.Rows.ReprOcc
import KE.KxText
import HandS.Text
import PyProof.ReprLen
import HandS.Ends
import HandS.ClsMeth
import HandS.WordsExc
import HandS.MakeKwOnly
import HandS.TryMany
import KE.SortData
import KE.GoesMore
import HandS.Iter
import HandS.HeadHook4
import HandS.HeadNt
import HandS.SlotsOwn
import KE.KNestM
import PyProof.TupleOfSeq
import PyProof.Transfer
import HandS.SetFor
import HandS.Strs
import HandS.EndTab
import KE.KeyNested
import HandS.TupSets
import HandS.Deep
import HandS.DictComp
import HandS.OwnEq
import OpenK.KOps
import OpenK.KMeth
import PyProof.InstNe
import HandS.Property
import HandS.SetKeys
import PyProof.DictMoreH
import KE.GoesSet
import PyProof.SetRoads
import HandS.Conv
import KE.KStateDown
/-! ## G0 -/
set_option Elab.async false
set_option linter.all false
set_option maxRecDepth 100000
set_option maxHeartbeats 4000000
namespace Vx
open PySem PySem.Spec PyProof.Rows L2

/-- no repr is open around -/
abbrev Gd (A : Around) : Prop := A.guards = some []

/-- a def's promise, kept wherever no repr is open around -/
structure FnG (P : Program) (w : World) (K : PySem.W.Frag) (mg : Str → Option Value)
    (base : Heap) (CX : CXT) (k : Nat) (f : Addr) (fd : FuncData) (ps : List Str) (sp : Sp) : Prop where
  ln : ∀ vs H Q E, sp vs H Q E → vs.length = ps.length
  go : ∀ (A : Around) (outer : List Env) (s : Shared) (H : Hp) (args : Args)
    (us : List Value) (vs : List V) (Q : VK) (E : XK), Room k A → Gd A →
    Env0 P w K mg base A outer s H → BindsTo s fd args (ps.zip us) → Vals vs us → sp vs H Q E →
    codeAny (model P w) A (.call (.ref f) args) (CR CX outer P w H s Q E) s

section
variable {P : Program} {w : World} {K : PySem.W.Frag} {mg : Str → Option Value}
  {base : Heap} {CX : CXT} {k : Nat} {f : Addr} {fd : FuncData} {ps : List Str} {sp : Sp}
theorem FnG.of (F : FnOk P w K mg base CX k f fd ps sp) : FnG P w K mg base CX k f fd ps sp :=
  ⟨F.len, fun A o s H a us vs Q E r _ => F.run A o s H a us vs Q E r⟩
theorem FnG.up {j : Nat} (F : FnG P w K mg base CX j f fd ps sp) (h : j ≤ k) : FnG P w K mg base CX k f fd ps sp :=
  ⟨F.ln, fun A o s H a us vs Q E r => F.go A o s H a us vs Q E (r.mono h)⟩

/-- a def by its body, where no repr is open -/
theorem okG {x qual : Str} {st : Stmt} {N : List Str} (F : Fun K x qual st f fd) (S : FnScope N ps (defScope st))
    (len : ∀ vs H Q E, sp vs H Q E → vs.length = ps.length)
    (hbody : ∀ (cdv : Value) (A : Around) (outer : List Env) (s : Shared) (H : Hp) (vs : List V) (Q : VK) (E : XK),
      Room k (A.deeper (envOfC qual (defScope st) s.heap.objs.size f cdv)) →
      Gd (A.deeper (envOfC qual (defScope st) s.heap.objs.size f cdv)) → sp vs H Q E →
      ∃ t, PSs (cxOf CX P w K mg base N qual (defScope st) f cdv A outer s H E) (defBody st) t ∧
        t { nx := fun _ H' => Q .non H', rt := Q } (start N vs) H) :
    FnG P w K mg base CX (k + 1) f fd ps sp := by
  obtain ⟨oc, od, kV, doc, pm, an, cdv, ct, osl, rfl, lk, hcd⟩ := F.ex
  refine ⟨len, fun A outer s H args us vs Q E hr hG e0 hb r hsp => ?_⟩
  have hL := len vs H Q E hsp
  have kx : K.In s.heap := e0.mod.kin.keeps (fun b o z => (e0.bs b o z).1)
  have nl : s.heap.NoLimit := e0.mod.nolimit.keeps (fun b o z => (e0.bs b o z).1)
  have hk2 : ∀ y ∈ ps.zip us, (defScope st).names.lookup y.1 = some .local ∨
      ((defScope st).names.lookup y.1 = some .cell ∧
        ((cellsFrom (s.heap.objs.size + 1) (defScope st).names []).lookup y.1).isSome = true) := by
    rintro ⟨n, v⟩ hy
    rcases S.par n (List.of_mem_zip hy).1 with z | z
    · exact Or.inl z
    · exact Or.inr ⟨z, PySem.W.cellsFrom_some _ _ _ (Or.inl z)⟩
  refine codeAny_call_function hr.depth (kx _ _ lk) rfl S.co S.gen rfl
    (PySem.W.codeRec_of kx hcd) (hb _ _ _ _ ?_)
  refine wpAny_newFunctionEnv_cells S.kind hk2 (fun env he s1 x1 => ?_)
  subst he
  refine ⟨nl.keeps x1.toInCall.keep, codeAny_func ?_⟩
  obtain ⟨t, ht, hq⟩ := hbody cdv A outer s H vs Q E (hr.deeper _) hG hsp
  have J0 : Inv (cxOf CX P w K mg base N qual (defScope st) f cdv A outer s H E) [] (start N vs) H s1 :=
    inv_start S hr.hd e0 hL r x1
  refine wpAny_mono (ht.run [] s1 (start N vs) H _ J0 hq) (fun fl s2 z => ?_) (fun e s2 z => z)
  cases fl with
  | ret u =>
    obtain ⟨v, σ1, H1, J, rv, q⟩ := z
    exact ⟨v, H1, J.os, J.bare, J.base, J.hok, rv, q⟩
  | next =>
    obtain ⟨σ1, H1, J, q⟩ := z
    exact ⟨V.non, H1, J.os, J.bare, J.base, J.hok, rfl, q⟩
  | brk =>
    obtain ⟨_, _, _, q⟩ := z
    exact q.elim
  | cont =>
    obtain ⟨_, _, _, q⟩ := z
    exact q.elim
end

section
variable {X : Cx} {CX : CXT} {k : Nat} {f : Addr} {fd : FuncData} {ps : List Str} {sp : Sp} {dvs : List V}
  {ds : List Value} {E : XK} {x : Str} {p pos : Pos} {e : Expr} {es : List Expr} {t : TA}
theorem goG {pins : List (Addr × Obj)} {σ : L2.St} {H : Hp} {s : Shared} {Q : VK} {us : List Value} {vs : List V}
    (F : FnG X.prog X.w X.K X.mg X.base CX k f fd ps sp) (hr : Room k X.A) (hG : Gd X.A)
    (hb : Binds X.K fd ps ds) (hd : Vals dvs ds) (hx : Passes CX X E) (I : Inv X pins σ H s)
    (r : Vals vs us) (h : sp (vs ++ dvs) H Q E) :
    wpAny (model X.prog X.w) X.A (call (.ref f) us) (EP X pins σ Q) X.xe s := by
  have r3 := r.append hd
  have hL : (us ++ ds).length = ps.length := r3.length.symm.trans (F.ln _ _ _ _ h)
  refine wpAny_call (codeAny_mono (F.go X.A X.stack s H ⟨us, []⟩ (us ++ ds) (vs ++ dvs) Q E hr hG I.env0
    (hb s us I.kIn hL) r3 h) (fun r s' z => ?_))
  cases r with
  | error er => exact hx pins σ H s er s' I z
  | ok fl =>
    cases fl with
    | ret u => exact I.after z
    | next => exact z.elim
    | brk => exact z.elim
    | cont => exact z.elim
/-- f(e, ..) -/
theorem pe_callG (F : FnG X.prog X.w X.K X.mg X.base CX k f fd ps sp) (hr : Room k X.A) (hG : Gd X.A)
    (hg : Gl X x) (hm : X.mg x = some (.ref f)) (hk : PySem.W.keepIn X.K (.ref f) = true)
    (hb : Binds X.K fd ps ds) (hd : Vals dvs ds) (hx : Passes CX X E) (ha : PA X (e :: es) t)
    (hdb : (x == ("__debug__" : Str)) = false := by decide)
    (he : starEach (e :: es) X.env = (false, eval e X.env) :: starEach es X.env := by rfl)
    (hpl : (backTo pos (starEach es X.env)).any (·.1) = false := by rfl) :
    PE X (.Call (.Name x p) (e :: es) [] pos) (tCall sp dvs E t) := by
  refine ⟨fun pins s σ H Q I h => wpAny_Call_Name_kw (ld_glob I hg hm ?_ hdb)⟩
  exact PySem.W.callWith_K (h₀ := X.base) I.ok.mod.kin hk
    (thn (ha.run pos pins s σ H _ I h) fun us s1 ⟨vs, H1, I1, r, q⟩ =>
      ⟨I1.kIn, goG F hr hG hb hd hx I1 r q⟩) he hpl
end

/-- repr of data: None, bools, ints, texts, lists, tuples, dicts -/
inductive Dd (K : PySem.W.Frag) (H : Hp) : V → PyData → Prop
  | d0 {v d} : Dp K H v d → Dd K H v d
end Vx
/-! ## G1 -/
set_option Elab.async false
set_option linter.all false
set_option maxRecDepth 100000
set_option maxHeartbeats 4000000
namespace Vx
open PySem PySem.Spec PyProof.Rows L2

def keyD : Key → PyData
  | .inl i => .int i
  | .inr x => .str x
def keyT (k : List Key) : PyData := .tuple (k.map keyD)

mutual
/-- v reads as the data d -/
inductive Da (K : PySem.W.Frag) (H : Hp) : V → PyData → Prop
  | non : Da K H .non .none
  | bl (b : Bool) : Da K H (.bl b) (.bool b)
  | int (i : Int) : Da K H (.int i) (.int i)
  | str (x : Str) : Da K H (.str x) (.str x)
  | lst {a : Addr} {xs : List V} {ds : List PyData} : SqL K H a xs → Das K H xs ds → Da K H (.ref a) (.list ds)
  | tup {a : Addr} {xs : List V} {ds : List PyData} : SqT K H a xs → Das K H xs ds → Da K H (.ref a) (.tuple ds)
  | dK {a : Addr} {kvs : List (Key × V)} {ds : List PyData} : H a = some (.dK kvs) →
      Das K H (kvs.map Prod.snd) ds → Da K H (.ref a) (.dict ((kvs.map fun p => keyD p.1).zip ds))
  | dT {a : Addr} {kvs : List (List Key × V)} {ds : List PyData} : H a = some (.dT kvs) →
      Das K H (kvs.map Prod.snd) ds → Da K H (.ref a) (.dict ((kvs.map fun p => keyT p.1).zip ds))
inductive Das (K : PySem.W.Frag) (H : Hp) : List V → List PyData → Prop
  | nil : Das K H [] []
  | cons {v : V} {vs : List V} {d : PyData} {ds : List PyData} : Da K H v d → Das K H vs ds → Das K H (v :: vs) (d :: ds)
end

section
variable {K : PySem.W.Frag} {H H' : Hp}
theorem Das.len : ∀ {vs : List V} {ds : List PyData}, Das K H vs ds → vs.length = ds.length
  | _, _, .nil => rfl
  | _, _, .cons _ h => by rw [List.length_cons, List.length_cons, Das.len h]
theorem Das.app : ∀ {vs ws : List V} {ds es : List PyData}, Das K H vs ds → Das K H ws es → Das K H (vs ++ ws) (ds ++ es)
  | _, _, _, _, .nil, h => h
  | _, _, _, _, .cons a b, h => .cons a (Das.app b h)
theorem Das.get : ∀ {vs : List V} {ds : List PyData} {i : Nat} {v : V}, Das K H vs ds → vs[i]? = some v → ∃ d, ds[i]? = some d ∧ Da K H v d
  | _, _, _, _, .nil, e => by simp at e
  | _, _, 0, _, .cons (d := d) a b, e => by
    simp at e
    subst e
    exact ⟨d, rfl, a⟩
  | _, _, i + 1, _, .cons a b, e => by
    obtain ⟨d, h1, h2⟩ := Das.get (i := i) b (by simpa using e)
    exact ⟨d, by simpa using h1, h2⟩
theorem Das.rep {v : V} {d : PyData} (h : Da K H v d) : ∀ n : Nat, Das K H (List.replicate n v) (List.replicate n d)
  | 0 => .nil
  | n + 1 => .cons h (Das.rep h n)
theorem Das.take : ∀ {vs : List V} {ds : List PyData} (n : Nat), Das K H vs ds → Das K H (vs.take n) (ds.take n)
  | _, _, 0, _ => .nil
  | _, _, _ + 1, .nil => .nil
  | _, _, n + 1, .cons a b => .cons a (Das.take n b)
theorem Das.drop : ∀ {vs : List V} {ds : List PyData} (n : Nat), Das K H vs ds → Das K H (vs.drop n) (ds.drop n)
  | _, _, 0, h => h
  | _, _, _ + 1, .nil => .nil
  | _, _, n + 1, .cons a b => Das.drop n b
theorem seqT {a : Addr} {xs : List V} (e : Same H H') (h : SqT K H a xs) : SqT K H' a xs := by
  rcases h with (h | ⟨o, h⟩) | h
  · exact .inl (.inl (e _ _ h))
  · exact .inl (.inr ⟨o, e _ _ h⟩)
  · exact .inr h
mutual
theorem Da.mono (e : Same H H') : ∀ {v : V} {d : PyData}, Da K H v d → Da K H' v d
  | _, _, .non => .non
  | _, _, .bl b => .bl b
  | _, _, .int i => .int i
  | _, _, .str x => .str x
  | _, _, .lst h g => .lst (e.seq h) (Das.mono e g)
  | _, _, .tup h g => .tup (seqT e h) (Das.mono e g)
  | _, _, .dK h g => .dK (e _ _ h) (Das.mono e g)
  | _, _, .dT h g => .dT (e _ _ h) (Das.mono e g)
theorem Das.mono (e : Same H H') : ∀ {vs : List V} {ds : List PyData}, Das K H vs ds → Das K H' vs ds
  | _, _, .nil => .nil
  | _, _, .cons a b => .cons (Da.mono e a) (Das.mono e b)
end
end

/-! ### reading in the machine's heap -/
section
variable {X : Cx} {pins : List (Addr × Obj)} {σ : L2.St} {H : Hp} {s : Shared}
theorem key_reads {h : Heap} : ∀ {k : Key} {v : Value}, keyIs k v = true → ∃ as, Reads h v (keyD k) as := by
  intro k v e
  rcases keyIs_shape e with ⟨i, t, rfl, rfl⟩ | ⟨x, t, rfl, rfl⟩
  · exact ⟨_, .int i t⟩
  · exact ⟨_, .str x t⟩
theorem kV_reads {h : Heap} : ∀ {ks : List Key} {us : List Value}, Vals (ks.map kV) us → ∃ as, ReadsAll h us (ks.map keyD) as
  | [], _, .nil => ⟨_, .nil⟩
  | .inl i :: ks, _, .cons r t => by
    obtain ⟨tk, rfl⟩ := r
    obtain ⟨as, q⟩ := kV_reads t
    exact ⟨_, .cons (.int i tk) q⟩
  | .inr x :: ks, _, .cons r t => by
    obtain ⟨tk, rfl⟩ := r
    obtain ⟨as, q⟩ := kV_reads t
    exact ⟨_, .cons (.str x tk) q⟩
/-- the entries of a dict with int and text keys -/
theorem pairs_keys {h : Heap} : ∀ {es : List DictEntry} {vs : List (Key × Value)}, Pairs (mixKind X.prog X.w) es vs →
    ∃ as, ReadsAll h (es.map (·.key)) (vs.map fun p => keyD p.1) as
  | _, _, .nil => ⟨_, .nil⟩
  | _, _, .cons hk _ r => by
    obtain ⟨as, q⟩ := key_reads (h := h) hk
    obtain ⟨bs, q2⟩ := pairs_keys r
    exact ⟨_, .cons q q2⟩
theorem pairs_vals : ∀ {es : List DictEntry} {vs : List (Key × Value)}, Pairs (mixKind X.prog X.w) es vs → es.map (·.val) = vs.map Prod.snd
  | _, _, .nil => rfl
  | _, _, .cons _ hv r => by rw [List.map_cons, List.map_cons, hv, pairs_vals r]
theorem kv_vals {κ : Type} : ∀ {kvs : List (κ × V)} {vs : List (κ × Value)}, KV kvs vs → Vals (kvs.map Prod.snd) (vs.map Prod.snd)
  | _, _, .nil => .nil
  | _, _, .cons r t => .cons r.2 (kv_vals t)
theorem kv_keys {κ : Type} : ∀ {kvs : List (κ × V)} {vs : List (κ × Value)}, KV kvs vs → kvs.map Prod.fst = vs.map Prod.fst
  | _, _, .nil => rfl
  | _, _, .cons r t => by rw [List.map_cons, List.map_cons, r.1, kv_keys t]
theorem dk_at (I : Inv X pins σ H s) {a : Addr} {kvs : List (Key × V)} (h : H a = some (.dK kvs)) :
    (a == sysModules) = false ∧ ∃ (o : Obj) (es : Array DictEntry) (n : Nat), s.heap.get? a = some o ∧ o.cls = .type "dict" ∧ o.data = .dict es n ∧
      (∃ as, ReadsAll s.heap (es.toList.map (·.key)) (kvs.map fun p => keyD p.1) as) ∧ Vals (kvs.map Prod.snd) (es.toList.map (·.val)) := by
  obtain ⟨_, hs, vs, kv, o, es, ep, ho, hx, hd, _, hp, _⟩ := (show ObjOk X.prog X.w H s.heap a (.dK kvs) from I.hok a _ h)
  refine ⟨hs, o, es, ep, ho, hx.1, hd, ?_, ?_⟩
  · obtain ⟨as, q⟩ := pairs_keys (X := X) (h := s.heap) hp
    refine ⟨as, ?_⟩
    have e : (kvs.map fun p => keyD p.1) = vs.map fun p => keyD p.1 := by
      have e1 := congrArg (List.map keyD) (kv_keys kv)
      rw [List.map_map, List.map_map] at e1
      exact e1
    rw [e]
    exact q
  · rw [pairs_vals hp]
    exact kv_vals kv
theorem dt_keys (I : Inv X pins σ H s) : ∀ {kvs : List (List Key × V)} {xs : List (List Key × Addr × Value)},
    Paired (fun (p : List Key × V) (q : List Key × Addr × Value) => p.1 = q.1 ∧ H q.2.1 = some (.tup (p.1.map kV)) ∧ RelV p.2 q.2.2) kvs xs →
    ∃ as, ReadsAll s.heap (xs.map fun x => Value.ref x.2.1) (kvs.map fun p => keyT p.1) as
  | _, _, .nil => ⟨_, .nil⟩
  | _, _, .cons r t => by
    obtain ⟨as, q⟩ := dt_keys I t
    obtain ⟨its, rv, ⟨o, ho, hc, n, hd⟩, _⟩ := I.tuple (SqT.of r.2.1)
    obtain ⟨bs, q2⟩ := kV_reads (h := s.heap) rv
    exact ⟨_, .cons (.tuple ho hc hd q2) q⟩
theorem dt_vals : ∀ {kvs : List (List Key × V)} {xs : List (List Key × Addr × Value)},
    Paired (fun (p : List Key × V) (q : List Key × Addr × Value) => p.1 = q.1 ∧ H q.2.1 = some (.tup (p.1.map kV)) ∧ RelV p.2 q.2.2) kvs xs →
    Vals (kvs.map Prod.snd) (xs.map fun x => x.2.2)
  | _, _, .nil => .nil
  | _, _, .cons r t => .cons r.2.2 (dt_vals t)
theorem dt_at (I : Inv X pins σ H s) {a : Addr} {kvs : List (List Key × V)} (h : H a = some (.dT kvs)) :
    (a == sysModules) = false ∧ ∃ (o : Obj) (es : Array DictEntry) (n : Nat), s.heap.get? a = some o ∧ o.cls = .type "dict" ∧ o.data = .dict es n ∧
      (∃ as, ReadsAll s.heap (es.toList.map (·.key)) (kvs.map fun p => keyT p.1) as) ∧ Vals (kvs.map Prod.snd) (es.toList.map (·.val)) := by
  obtain ⟨_, hs, xs, pr, o, es, ep, ho, hx, hd, he, _⟩ := (show ObjOk X.prog X.w H s.heap a (.dT kvs) from I.hok a _ h)
  refine ⟨hs, o, es, ep, ho, hx.1, hd, ?_, ?_⟩
  · obtain ⟨as, q⟩ := dt_keys I pr
    refine ⟨as, ?_⟩
    rw [he, List.map_map]
    exact q
  · rw [he, List.map_map]
    exact dt_vals pr
mutual
theorem Da.reads (I : Inv X pins σ H s) : ∀ {v : V} {d : PyData} {u : Value}, Da X.K H v d → RelV v u → ∃ as, Reads s.heap u d as
  | _, _, _, .non, r => by
    cases r
    exact ⟨_, .none⟩
  | _, _, _, .bl b, r => by
    cases r
    exact ⟨_, .bool b⟩
  | _, _, _, .int i, r => by
    obtain ⟨t, rfl⟩ := r
    exact ⟨_, .int i t⟩
  | _, _, _, .str x, r => by
    obtain ⟨t, rfl⟩ := r
    exact ⟨_, .str x t⟩
  | _, _, _, .lst h g, r => by
    cases r
    obtain ⟨its, rv, ⟨o, n, ho, hc, _, hd⟩, _⟩ := I.list h
    obtain ⟨as, q⟩ := Das.reads I g rv
    exact ⟨_, .list ho hc hd q⟩
  | _, _, _, .tup h g, r => by
    cases r
    obtain ⟨its, rv, ⟨o, ho, hc, n, hd⟩, _⟩ := I.tuple h
    obtain ⟨as, q⟩ := Das.reads I g rv
    exact ⟨_, .tuple ho hc hd q⟩
  | _, _, _, .dK (kvs := kvs) (ds := ds) h g, r => by
    cases r
    obtain ⟨_, o, es, n, ho, hc, hd, ⟨as, qk⟩, rv⟩ := dk_at I h
    obtain ⟨bs, q⟩ := Das.reads I g rv
    have hl : (kvs.map fun p => keyD p.1).length = ds.length := by rw [List.length_map, ← g.len, List.length_map]
    exact ⟨_, .dict ho hc hd (by rw [List.map_fst_zip (Nat.le_of_eq hl)]; exact qk) (by rw [List.map_snd_zip (Nat.le_of_eq hl.symm)]; exact q)⟩
  | _, _, _, .dT (kvs := kvs) (ds := ds) h g, r => by
    cases r
    obtain ⟨_, o, es, n, ho, hc, hd, ⟨as, qk⟩, rv⟩ := dt_at I h
    obtain ⟨bs, q⟩ := Das.reads I g rv
    have hl : (kvs.map fun p => keyT p.1).length = ds.length := by rw [List.length_map, ← g.len, List.length_map]
    exact ⟨_, .dict ho hc hd (by rw [List.map_fst_zip (Nat.le_of_eq hl)]; exact qk) (by rw [List.map_snd_zip (Nat.le_of_eq hl.symm)]; exact q)⟩
theorem Das.reads (I : Inv X pins σ H s) : ∀ {vs : List V} {ds : List PyData} {us : List Value}, Das X.K H vs ds → Vals vs us → ∃ as, ReadsAll s.heap us ds as
  | _, _, _, .nil, r => by
    cases r
    exact ⟨_, .nil⟩
  | _, _, _, .cons a b, r => by
    cases r with
    | cons r1 r2 =>
      obtain ⟨as, q1⟩ := Da.reads I a r1
      obtain ⟨bs, q2⟩ := Das.reads I b r2
      exact ⟨_, .cons q1 q2⟩
end
end
end Vx
/-! ## G2 -/
set_option Elab.async false
set_option linter.all false
set_option maxRecDepth 100000
set_option maxHeartbeats 4000000
namespace Vx
open PySem PySem.Spec PyProof.Rows L2

section
variable {X : Cx} {pins : List (Addr × Obj)} {σ : L2.St} {H : Hp} {s : Shared}
/-- keys have no dict in them -/
theorem keyD_nd (k : Key) : (keyD k).hasDict = false := by cases k <;> rfl
theorem keysD_nd : ∀ ks : List Key, PyData.hasDictAll (ks.map keyD) = false
  | [] => rfl
  | k :: ks => by
    show ((keyD k).hasDict || PyData.hasDictAll (ks.map keyD)) = false
    rw [keyD_nd, keysD_nd ks]
    rfl
theorem allK_nd {α : Type} (f : α → PyData) (hf : ∀ a, (f a).hasDict = false) : ∀ l : List α, PyData.hasDictAll (l.map f) = false
  | [] => rfl
  | a :: l => by
    show ((f a).hasDict || PyData.hasDictAll (l.map f)) = false
    rw [hf, allK_nd f hf l]
    rfl
theorem keyT_nd (k : List Key) : (keyT k).hasDict = false := keysD_nd k

/-- a dict whose keys and values are shown -/
theorem Da.rep_dict {prog : Program} {w : World} {h : Heap} {a : Addr} {o : Obj} {es : Array DictEntry} {n : Nat} {kvs : List (PyData × PyData)} {ks ds : List PyData} {as as1 : List Addr}
    (rd : Reads h (.ref a) (.dict kvs) as) (hsys : (a == sysModules) = false) (ho : h.get? a = some o) (hc : o.cls = .type "dict") (hd : o.data = .dict es n)
    (qk : ReadsAll h (es.toList.map (·.key)) ks as1) (hnd : PyData.hasDictAll ks = false) (e1 : kvs.map (·.1) = ks) (e2 : kvs.map (·.2) = ds)
    (hs : (PyData.dict kvs).showable = true) (hz : (PyData.dict kvs).shown.length ≤ sizeLine)
    (hv : PyData.showableAll ds = true → (∀ t ∈ PyData.shownAll ds, t.length ≤ sizeLine) →
      ∃ bs, ReadAtMost h (PyData.depthAll ds) bs ∧ ReprAllK prog w bs h (PyData.depthAll ds) (es.toList.map (·.val)) (PyData.shownAll ds)) :
    ∃ bs, ReadAtMost h (PyData.dict kvs).depth bs ∧ ReprK prog w bs h (PyData.dict kvs).depth (.ref a) (PyData.dict kvs).shown := by
  subst e1 e2
  have hz' : (dictText (PyData.shownKv kvs)).length ≤ sizeLine := by simpa only [PyData.shown] using hz
  obtain ⟨hs1, hs2⟩ := PyData.showableKv_split kvs (by simpa [PyData.showable] using hs)
  obtain ⟨b1, hb1, k1⟩ := ReprAllK.of_readsAll (prog := prog) (w := w) qk hs1 (fun z => by rw [hnd] at z; cases z)
    fun t ht => by
      obtain ⟨p, hp, hl⟩ := PyData.shownKv_key_le kvs t ht
      exact Nat.le_trans hl (Nat.le_trans (dictText_mem_le hp) hz')
  obtain ⟨b2, hb2, k2⟩ := hv hs2 fun t ht => by
    obtain ⟨p, hp, hl⟩ := PyData.shownKv_val_le kvs t ht
    exact Nat.le_trans hl (Nat.le_trans (dictText_mem_le hp) hz')
  have hb := (hb1.mono (PyData.depthAll_keys_le kvs)).append (hb2.mono (PyData.depthAll_vals_le kvs))
  have hna : a ∉ b1 ++ b2 := not_mem_of_deeper rd (by simp only [PyData.depth]; omega) hb
  refine ⟨a :: (b1 ++ b2), ReadAtMost.cons rd (by simp only [PyData.depth]; omega) hb, ?_⟩
  simp only [PyData.depth, PyData.shown, PyData.shownKv_eq]
  exact ReprK.dict ho hc hd hsys hna (ReprEntriesK.of_two es.toList _ _
    (k1.more_le (fun b z => List.mem_append_left _ z) (PyData.depthAll_keys_le kvs))
    (k2.more_le (fun b z => List.mem_append_right _ z) (PyData.depthAll_vals_le kvs)))

mutual
theorem Da.rep (I : Inv X pins σ H s) : ∀ {v : V} {d : PyData} {u : Value}, Da X.K H v d → RelV v u → d.showable = true → d.shown.length ≤ sizeLine →
    ∃ bs, ReadAtMost s.heap d.depth bs ∧ ReprK X.prog X.w bs s.heap d.depth u d.shown
  | _, _, _, .non, r, _, _ => by
    cases r
    exact ⟨[], (fun _ h => nomatch h), by simp only [PyData.shown]; exact .of_is ReprIs.none _ _ _⟩
  | _, _, _, .bl b, r, _, _ => by
    cases r
    exact ⟨[], (fun _ h => nomatch h), by simp only [PyData.shown]; exact .of_is (ReprIs.bool b) _ _ _⟩
  | _, _, _, .int i, r, hs, _ => by
    obtain ⟨t, rfl⟩ := r
    exact ⟨[], (fun _ h => nomatch h), by simp only [PyData.shown]; exact .of_is (ReprIs.int t (by simpa [PyData.showable] using hs)) _ _ _⟩
  | _, _, _, .str x, r, _, hz => by
    obtain ⟨t, rfl⟩ := r
    exact ⟨[], (fun _ h => nomatch h), by simp only [PyData.shown]; exact .of_is (ReprIs.str x t (by simpa only [PyData.shown] using hz)) _ _ _⟩
  | _, _, _, .lst (a := a) (xs := xs) (ds := ds) h g, r, hs, hz => by
    have hz' : (listText (PyData.shownAll ds)).length ≤ sizeLine := by simpa only [PyData.shown] using hz
    obtain ⟨as, rd⟩ := Da.reads I (.lst h g) r
    cases r
    obtain ⟨its, rv, ⟨o, n, ho, hc, _, hd⟩, _⟩ := I.list h
    obtain ⟨bs, hb, hk⟩ := Das.rep' I g rv (by simpa [PyData.showable] using hs) fun t ht => Nat.le_trans (listText_mem_le ht) hz'
    have hna : a ∉ bs := not_mem_of_deeper rd (by simp only [PyData.depth]; omega) hb
    refine ⟨a :: bs, ReadAtMost.cons rd (by simp only [PyData.depth]; omega) hb, ?_⟩
    simp only [PyData.depth, PyData.shown]
    cases rv with
    | nil =>
      have e0 : ds = [] := by
        have q := g.len
        cases ds with
        | nil => rfl
        | cons _ _ => cases q
      subst e0
      simp only [PyData.shownAll, listText_nil]
      exact ReprK.listEmpty ho hc hd
    | cons rx rl => exact ReprK.list ho hc hd hna (by simpa using hk.length_eq) fun i y e => hk.item i y (by simpa using e)
  | _, _, _, .tup (a := a) (xs := xs) (ds := ds) h g, r, hs, hz => by
    have hz' : (tupleText (PyData.shownAll ds)).length ≤ sizeLine := by simpa only [PyData.shown] using hz
    obtain ⟨as, rd⟩ := Da.reads I (.tup h g) r
    cases r
    obtain ⟨its, rv, ⟨o, ho, hc, n, hd⟩, _⟩ := I.tuple h
    obtain ⟨bs, hb, hk⟩ := Das.rep' I g rv (by simpa [PyData.showable] using hs) fun t ht => Nat.le_trans (tupleText_mem_le ht) hz'
    have hna : a ∉ bs := not_mem_of_deeper rd (by simp only [PyData.depth]; omega) hb
    refine ⟨a :: bs, ReadAtMost.cons rd (by simp only [PyData.depth]; omega) hb, ?_⟩
    simp only [PyData.depth, PyData.shown]
    exact ReprK.tuple ho hc hd hna (by simpa using hk)
  | _, _, _, .dK (a := a) (kvs := kvs) (ds := ds) h g, r, hs, hz => by
    obtain ⟨as, rd⟩ := Da.reads I (.dK h g) r
    cases r
    obtain ⟨hsys, o, es, n, ho, hc, hd, ⟨as1, qk⟩, rv⟩ := dk_at I h
    have hl : (kvs.map fun p => keyD p.1).length = ds.length := by rw [List.length_map, ← g.len, List.length_map]
    exact Da.rep_dict rd hsys ho hc hd qk (allK_nd _ (fun p => keyD_nd p.1) kvs) (List.map_fst_zip (Nat.le_of_eq hl)) (List.map_snd_zip (Nat.le_of_eq hl.symm)) hs hz fun h1 h2 => Das.rep' I g rv h1 h2
  | _, _, _, .dT (a := a) (kvs := kvs) (ds := ds) h g, r, hs, hz => by
    obtain ⟨as, rd⟩ := Da.reads I (.dT h g) r
    cases r
    obtain ⟨hsys, o, es, n, ho, hc, hd, ⟨as1, qk⟩, rv⟩ := dt_at I h
    have hl : (kvs.map fun p => keyT p.1).length = ds.length := by rw [List.length_map, ← g.len, List.length_map]
    exact Da.rep_dict rd hsys ho hc hd qk (allK_nd _ (fun p => keyT_nd p.1) kvs) (List.map_fst_zip (Nat.le_of_eq hl)) (List.map_snd_zip (Nat.le_of_eq hl.symm)) hs hz fun h1 h2 => Das.rep' I g rv h1 h2
theorem Das.rep' (I : Inv X pins σ H s) : ∀ {vs : List V} {ds : List PyData} {us : List Value}, Das X.K H vs ds → Vals vs us → PyData.showableAll ds = true →
    (∀ t ∈ PyData.shownAll ds, t.length ≤ sizeLine) → ∃ bs, ReadAtMost s.heap (PyData.depthAll ds) bs ∧ ReprAllK X.prog X.w bs s.heap (PyData.depthAll ds) us (PyData.shownAll ds)
  | _, _, _, .nil, r, _, _ => by
    cases r
    exact ⟨[], (fun _ h => nomatch h), by simp only [PyData.shownAll]; exact .nil⟩
  | _, _, _, .cons (d := d) (ds := ds) a b, r, hs, hz => by
    cases r with
    | cons r1 r2 =>
      have hs' : d.showable = true ∧ PyData.showableAll ds = true := by simpa [PyData.showableAll] using hs
      obtain ⟨b1, hb1, k1⟩ := Da.rep I a r1 hs'.1 (hz _ (by simp only [PyData.shownAll]; exact List.mem_cons_self ..))
      obtain ⟨b2, hb2, k2⟩ := Das.rep' I b r2 hs'.2 fun t ht => hz t (by simp only [PyData.shownAll]; exact List.mem_cons_of_mem _ ht)
      refine ⟨b1 ++ b2, fun c hm => ?_, ?_⟩
      · simp only [PyData.depthAll]
        rcases List.mem_append.mp hm with hm | hm
        · obtain ⟨d', as', r', hd'⟩ := hb1 c hm
          exact ⟨d', as', r', Nat.le_trans hd' (Nat.le_max_left _ _)⟩
        · obtain ⟨d', as', r', hd'⟩ := hb2 c hm
          exact ⟨d', as', r', Nat.le_trans hd' (Nat.le_max_right _ _)⟩
      · simp only [PyData.depthAll, PyData.shownAll]
        exact .cons ((k1.more fun c hc => List.mem_append_left _ hc).level_le (Nat.le_max_left _ _)) (k2.more_le (fun c hc => List.mem_append_right _ hc) (Nat.le_max_right _ _))
end
end
end Vx
/-! ## G3 -/
set_option Elab.async false
set_option linter.all false
set_option maxRecDepth 100000
set_option maxHeartbeats 4000000
namespace Vx
open PySem PySem.Spec PyProof.Rows L2

section
variable {X : Cx} {pins : List (Addr × Obj)} {σ : L2.St} {H : Hp} {s : Shared}
theorem repr_list_end {l : List V} {a : Addr} {ds : List PyData} (I : Inv X pins σ H s) (h : SqL X.K H a l) (g : Das X.K H l ds)
    (hs : (PyData.list ds).showable = true) (hz : (PyData.list ds).shown.length ≤ sizeLine) {A : Around} {E : Value → Shared → Prop} {Q : Value → Shared → Prop}
    (hg : A.guards = some []) (hu : A.units + ((PyData.list ds).depth + 1) < cLine)
    (hq : ∀ h' u tk, (∀ b o, s.heap.get? b = some o → h'.get? b = some o) → Q (.str (PyData.list ds).shown u) { s with heap := h', toks := tk }) :
    wpAny (model X.prog X.w) A (call (.builtin "repr") [.ref a]) Q E s := by
  have hz' : (listText (PyData.shownAll ds)).length ≤ sizeLine := by simpa only [PyData.shown] using hz
  obtain ⟨as, rd⟩ := Da.reads I (.lst h g) rfl
  obtain ⟨its, rv, ⟨o, n, ho, hc, _, hd⟩, _⟩ := I.list h
  obtain ⟨bs, hb, hk⟩ := Das.rep' I g rv (by simpa [PyData.showable] using hs) fun t ht => Nat.le_trans (listText_mem_le ht) hz'
  have hna : a ∉ bs := not_mem_of_deeper rd (by simp only [PyData.depth]; omega) hb
  simp only [PyData.depth] at hu
  refine call_repr_slot (by omega) ⟨o, ho, hc⟩ F.slot_list_repr.toG ?_
  have hu' : A.in1.units + (PyData.depthAll ds + 1) < cLine := by
    show A.units + 1 + (PyData.depthAll ds + 1) < cLine
    omega
  cases rv with
  | nil =>
    have e0 : ds = [] := by
      have q := g.len
      cases ds with
      | nil => rfl
      | cons _ _ => cases q
    subst e0
    simp only [PyData.shown, PyData.shownAll, listText_nil] at hq
    exact call_list_repr_empty ⟨o, ho, hc⟩ ho hd ⟨_, _, rfl, hq s.heap _ _ fun _ _ e => e⟩
  | cons rx rl =>
    simp only [PyData.shown] at hq
    exact call_list_reprK ho hc hd hna (by simpa using hk.length_eq) (fun i y e => hk.item i y (by simpa using e)) hg (fun b _ => Clear.nil b) hu'
      (fun _ _ e => e) (fun h' u tk q => ⟨_, _, rfl, hq h' u tk q⟩) hz'
theorem repr_tup_end {l : List V} {a : Addr} {ds : List PyData} (I : Inv X pins σ H s) (h : SqT X.K H a l) (g : Das X.K H l ds)
    (hs : (PyData.tuple ds).showable = true) (hz : (PyData.tuple ds).shown.length ≤ sizeLine) {A : Around} {E : Value → Shared → Prop} {Q : Value → Shared → Prop}
    (hg : A.guards = some []) (hu : A.units + ((PyData.tuple ds).depth + 1) < cLine)
    (hq : ∀ h' u tk, (∀ b o, s.heap.get? b = some o → h'.get? b = some o) → Q (.str (PyData.tuple ds).shown u) { s with heap := h', toks := tk }) :
    wpAny (model X.prog X.w) A (call (.builtin "repr") [.ref a]) Q E s := by
  have hz' : (tupleText (PyData.shownAll ds)).length ≤ sizeLine := by simpa only [PyData.shown] using hz
  obtain ⟨as, rd⟩ := Da.reads I (.tup h g) rfl
  obtain ⟨its, rv, ⟨o, ho, hc, n, hd⟩, _⟩ := I.tuple h
  obtain ⟨bs, hb, hk⟩ := Das.rep' I g rv (by simpa [PyData.showable] using hs) fun t ht => Nat.le_trans (tupleText_mem_le ht) hz'
  have hna : a ∉ bs := not_mem_of_deeper rd (by simp only [PyData.depth]; omega) hb
  simp only [PyData.depth] at hu
  refine call_repr_slot (by omega) ⟨o, ho, hc⟩ F.slot_tuple_repr ?_
  have hu' : A.in1.units + (PyData.depthAll ds + 1) < cLine := by
    show A.units + 1 + (PyData.depthAll ds + 1) < cLine
    omega
  simp only [PyData.shown] at hq
  exact call_tuple_reprK ho hc hd hna (by simpa using hk) hg (fun b _ => Clear.nil b) hu' (fun _ _ e => e) (fun h' u tk q => ⟨_, _, rfl, hq h' u tk q⟩) hz'
theorem repr_dict_end {a : Addr} {o : Obj} {es : Array DictEntry} {n : Nat} {kvs : List (PyData × PyData)} {ks ds : List PyData} {as as1 : List Addr}
    (rd : Reads s.heap (.ref a) (.dict kvs) as) (hsys : (a == sysModules) = false) (ho : s.heap.get? a = some o) (hc : o.cls = .type "dict") (hd : o.data = .dict es n)
    (qk : ReadsAll s.heap (es.toList.map (·.key)) ks as1) (hnd : PyData.hasDictAll ks = false) (e1 : kvs.map (·.1) = ks) (e2 : kvs.map (·.2) = ds)
    (hs : (PyData.dict kvs).showable = true) (hz : (PyData.dict kvs).shown.length ≤ sizeLine)
    (hv : PyData.showableAll ds = true → (∀ t ∈ PyData.shownAll ds, t.length ≤ sizeLine) →
      ∃ bs, ReadAtMost s.heap (PyData.depthAll ds) bs ∧ ReprAllK X.prog X.w bs s.heap (PyData.depthAll ds) (es.toList.map (·.val)) (PyData.shownAll ds))
    {A : Around} {E : Value → Shared → Prop} {Q : Value → Shared → Prop}
    (hg : A.guards = some []) (hu : A.units + ((PyData.dict kvs).depth + 1) < cLine)
    (hq : ∀ h' u tk, (∀ b o, s.heap.get? b = some o → h'.get? b = some o) → Q (.str (PyData.dict kvs).shown u) { s with heap := h', toks := tk }) :
    wpAny (model X.prog X.w) A (call (.builtin "repr") [.ref a]) Q E s := by
  subst e1 e2
  have hz' : (dictText (PyData.shownKv kvs)).length ≤ sizeLine := by simpa only [PyData.shown] using hz
  obtain ⟨hs1, hs2⟩ := PyData.showableKv_split kvs (by simpa [PyData.showable] using hs)
  obtain ⟨b1, hb1, k1⟩ := ReprAllK.of_readsAll (prog := X.prog) (w := X.w) qk hs1 (fun z => by rw [hnd] at z; cases z)
    fun t ht => by
      obtain ⟨p, hp, hl⟩ := PyData.shownKv_key_le kvs t ht
      exact Nat.le_trans hl (Nat.le_trans (dictText_mem_le hp) hz')
  obtain ⟨b2, hb2, k2⟩ := hv hs2 fun t ht => by
    obtain ⟨p, hp, hl⟩ := PyData.shownKv_val_le kvs t ht
    exact Nat.le_trans hl (Nat.le_trans (dictText_mem_le hp) hz')
  have hb := (hb1.mono (PyData.depthAll_keys_le kvs)).append (hb2.mono (PyData.depthAll_vals_le kvs))
  have hna : a ∉ b1 ++ b2 := not_mem_of_deeper rd (by simp only [PyData.depth]; omega) hb
  simp only [PyData.depth] at hu
  refine call_repr_slot (by omega) ⟨o, ho, hc⟩ F.slot_dict_repr ?_
  have hu' : A.in1.units + (PyData.depthKv kvs + 1) < cLine := by
    show A.units + 1 + (PyData.depthKv kvs + 1) < cLine
    omega
  simp only [PyData.shown, PyData.shownKv_eq] at hq
  exact call_dict_reprK ho hc hd hsys hna (ReprEntriesK.of_two es.toList _ _
      (k1.more_le (fun b z => List.mem_append_left _ z) (PyData.depthAll_keys_le kvs))
      (k2.more_le (fun b z => List.mem_append_right _ z) (PyData.depthAll_vals_le kvs))) hg (fun b _ => Clear.nil b) hu'
    (fun _ _ e => e) (fun h' u tk q => ⟨_, _, rfl, hq h' u tk q⟩) (by rw [← PyData.shownKv_eq]; exact hz')

/-- repr(x), x data -/
def rRepr (K : PySem.W.Frag) : List V → Hp → VK → Prop := fun xs H Q => ∃ x d, xs = [x] ∧ Da K H x d ∧ d.showable = true ∧ d.depth ≤ 50 ∧ d.shown.length ≤ sizeLine ∧ Q (.str d.shown) H
theorem call_reprD (hG : Gd X.A) (hu : X.A.units + 64 < cLine) : CallR X (.builtin "repr") (rRepr X.K) := by
  intro pins s σ H xs us Q I r h
  obtain ⟨x, d, rfl, hd, hs, hn, hz, q⟩ := h
  cases r with
  | cons rx rr =>
    cases rr
    have fin : ∀ h' u tk, (∀ b o, s.heap.get? b = some o → h'.get? b = some o) → EP X pins σ Q (.str d.shown u) { s with heap := h', toks := tk } :=
      fun h' u tk k => ⟨.str d.shown, H, I.kept (h' := h') (t' := tk) k, ⟨u, rfl⟩, q⟩
    cases hd with
    | non =>
      cases rx
      simp only [PyData.shown] at fin
      exact PySem.P.repr_of_none (fin s.heap _ _ fun _ _ e => e)
    | bl b =>
      cases rx
      simp only [PyData.shown] at fin
      exact PySem.P.repr_of_bool (fin s.heap _ _ fun _ _ e => e)
    | int i =>
      obtain ⟨t, rfl⟩ := rx
      simp only [PyData.shown] at fin
      exact PySem.P.repr_of_int (by simpa [PyData.showable] using hs) (fin s.heap _ _ fun _ _ e => e)
    | str y =>
      obtain ⟨t, rfl⟩ := rx
      simp only [PyData.shown] at fin
      exact PySem.P.repr_of_str (fin s.heap _ _ fun _ _ e => e) (by simpa only [PyData.shown] using hz)
    | lst h g =>
      cases rx
      exact repr_list_end I h g hs hz hG (by omega) fin
    | tup h g =>
      cases rx
      exact repr_tup_end I h g hs hz hG (by omega) fin
    | dK h g =>
      cases rx
      rename_i a kvs ds
      obtain ⟨as, rd⟩ := Da.reads I (.dK h g) rfl
      obtain ⟨hsys, o, es, n, ho, hc, hd, ⟨as1, qk⟩, rv⟩ := dk_at I h
      have hl : (kvs.map fun p => keyD p.1).length = ds.length := by rw [List.length_map, ← g.len, List.length_map]
      exact repr_dict_end rd hsys ho hc hd qk (allK_nd _ (fun p => keyD_nd p.1) kvs) (List.map_fst_zip (Nat.le_of_eq hl))
        (List.map_snd_zip (Nat.le_of_eq hl.symm)) hs hz (fun h1 h2 => Das.rep' I g rv h1 h2) hG (by omega) fin
    | dT h g =>
      cases rx
      rename_i a kvs ds
      obtain ⟨as, rd⟩ := Da.reads I (.dT h g) rfl
      obtain ⟨hsys, o, es, n, ho, hc, hd, ⟨as1, qk⟩, rv⟩ := dt_at I h
      have hl : (kvs.map fun p => keyT p.1).length = ds.length := by rw [List.length_map, ← g.len, List.length_map]
      exact repr_dict_end rd hsys ho hc hd qk (allK_nd _ (fun p => keyT_nd p.1) kvs) (List.map_fst_zip (Nat.le_of_eq hl))
        (List.map_snd_zip (Nat.le_of_eq hl.symm)) hs hz (fun h1 h2 => Das.rep' I g rv h1 h2) hG (by omega) fin
end
end Vx
/-! ## G4 -/
set_option Elab.async false
set_option linter.all false
set_option maxRecDepth 100000
set_option maxHeartbeats 4000000
namespace Vx
open PySem PySem.Spec PyProof.Rows L2
open PySem.W PySem.Calls

/-- one of the built-in classes over which the package's errors stand -/
structure XB where
  B : String
  nw : String
  ini : String
  bm : List Value
  F : ExcBaseFacts B nw ini bm
  S : StoreFacts B bm "object.__setattr__" "object"
def xVal : XB := ⟨_, _, _, _, F.excBase_ValueError, F.store_ValueError⟩
def xLook : XB := ⟨_, _, _, _, F.excBase_LookupError, F.store_LookupError⟩
def xRun : XB := ⟨_, _, _, _, F.excBase_RuntimeError, F.store_RuntimeError⟩
def xAri : XB := ⟨_, _, _, _, F.excBase_ArithmeticError, F.store_ArithmeticError⟩

/-! ### making one, with keywords too -/
section
variable {M : Model} {A : Around} {E : Value → Shared → Prop} {h : Heap} {g : Array GenState} {d : Drawn} {t : Nat} {os : OsState}
variable {nm q : Str} {C N : Addr} {bs bm bmB : List Value} {hdct : Bool} {sn : List Str} {sub : List Value} {ab : Bool} {col : Option Bool} {dd : Option Addr}
  {k0 k1 k2 k3 k5 : Option Value} {B newId initId : String} {kw : List (Str × Value)}
theorem xnew_check (F : ExcBaseFacts B newId initId bmB) (tl : ∀ X : String, bm.contains (.type X) = bmB.contains (.type X)) {rest : List Value} {Q : Unit → Shared → Prop}
    (cC : h.get? C = some (excClassObj nm q C N bs bm hdct sn sub ab col dd k0 k1 k2 k3 k5 newId)) (hq : Q () ⟨h, g, d, t, os⟩) :
    wpAny M A (checkBuiltinCall newId ⟨.ref C :: rest, kw⟩) Q E ⟨h, g, d, t, os⟩ := by
  have in1 : (Value.ref C :: bm).contains (.type B) = true := by
    rw [List.contains_cons, tl, F.hasB, Bool.or_true]
  have ns := F.noStar
  simp only [checkBuiltinCall, F.newKind, F.newSplit, F.newRow]
  repeat (first
    | refine wpAny_loadPart_at cC ?_
    | (refine wpAny_isSubtype_exc cC ?_
       rw [in1])
    | refine wpAny_staticBase_exc cC ?_
    | refine wpAny_madeBy_exc cC ?_
    | simp only [bne_self_eq_false, Bool.false_eq_true, if_false]
    | wp_step)
  all_goals exact hq
end
section
variable {prog : Program} {w : World} {A : Around} {E : Value → Shared → Prop} {R : Result → Shared → Prop} {h : Heap} {g : Array GenState} {d : Drawn} {t : Nat} {os : OsState}
variable {nm q : Str} {C N : Addr} {bs bm bmB : List Value} {hdct : Bool} {sn : List Str} {sub : List Value} {ab : Bool} {col : Option Bool} {dd : Option Addr}
  {k0 k1 k2 k3 k5 : Option Value} {B newId initId : String} {kw : List (Str × Value)}
theorem xnew_run (F : ExcBaseFacts B newId initId bmB) (tl : ∀ X : String, bm.contains (.type X) = bmB.contains (.type X)) {rest : List Value}
    (cC : h.get? C = some (excClassObj nm q C N bs bm hdct sn sub ab col dd k0 k1 k2 k3 k5 newId))
    (hq : R (.ok (.ret (.ref (h.objs.size + 1)))) ⟨(h.push (W.kdv_tup rest)).push (HandSPX.excO C h.objs.size), g, d, t, os⟩) (hl : rest.length ≤ sizeLine) :
    codeAny (model prog w) A (.builtin newId ⟨.ref C :: rest, kw⟩) R ⟨h, g, d, t, os⟩ := by
  have en := F.ends
  have in1 : (Value.ref C :: bm).contains (.type B) = true := by
    rw [List.contains_cons, tl, F.hasB, Bool.or_true]
  have in2 : (Value.ref C :: bm).contains (.type "AttributeError") = false := by
    rw [List.contains_cons, tl, F.noAttr]
    rfl
  have in3 : (Value.ref C :: bm).contains (.type "NameError") = false := by
    rw [List.contains_cons, tl, F.noName]
    rfl
  refine codeAny_builtinAt F.entry ?_
  unfold Builtin.«BaseException.__new__»
  refine PySem.wpAt_bind ?_
  show PySem.wpAt _ _ _ (stack >>= _) _ _ _
  refine PySem.wpAt_bind (PySem.wpAt_stack fun p below => PySem.wpAt_of_wpAny ?_)
  wp_walk
  refine PySem.wpAt_of_wpAny ?_
  rw [F.owner]
  repeat (first
    | with_reducible refine wpAny_madeHere_exc F.canon cC ?_
    | with_reducible refine wpAny_loadPart_at cC ?_
    | (with_reducible refine wpAny_isSubtype_exc cC ?_
       first
       | rw [in1]
       | rw [in2]
       | rw [in3])
    | wp_step)
  show R _ _
  rw [Heap.size_push]
  exact hq
theorem xtype_call (F : ExcBaseFacts B newId initId bmB) (tl : ∀ X : String, bm.contains (.type X) = bmB.contains (.type X)) {rest : List Value} {fI : Addr} {Q : Fin → Shared → Prop}
    (cC : h.get? C = some (excClassObj nm q C N bs bm hdct sn sub ab col dd k0 k1 k2 k3 k5 newId))
    (li : W.Looks (model prog w) h (typeLookup (.ref C) "__init__") (some (.ref fI))) (lb : ∀ self, W.Looks (model prog w) h (bindSpecial (.ref fI) self) (.ref fI, [self]))
    (hl : rest.length ≤ sizeLine)
    (hq : codeAny (model prog w) A (.call (.ref fI) ⟨.ref (h.objs.size + 1) :: rest, kw⟩)
      (fun r s' => match r with
        | .ok (.ret v) => v = .none ∧ Q (.done (.ret (.ref (h.objs.size + 1)))) s'
        | .ok _ => False
        | .error e => E e s')
      ⟨(h.push (W.kdv_tup rest)).push (HandSPX.excO C h.objs.size), g, d, t, os⟩) :
    wpAny (model prog w) A (Builtin.«type.__call__» ⟨.ref C :: rest, kw⟩) Q E ⟨h, g, d, t, os⟩ := by
  repeat (first
    | with_reducible refine wpAny_loadPart_at cC ?_
    | with_reducible refine wpAny_madeBy_exc cC ?_
    | wp_step)
  refine codeAny_call_builtin_code (Code.quiet_builtin _ F.quiet) (xnew_check F tl cC ?_)
  refine xnew_run F tl cC ?_ hl
  show wpAny _ _ _ _ _ _
  have kk : ∀ b o, h.get? b = some o → ((h.push (W.kdv_tup rest)).push (HandSPX.excO C h.objs.size)).get? b = some o :=
    fun b o z => Heap.get?_push_of_some _ (Heap.get?_push_of_some _ z)
  have cC2 := kk _ _ cC
  have hx : ((h.push (W.kdv_tup rest)).push (HandSPX.excO C h.objs.size)).get? (h.objs.size + 1) = some (HandSPX.excO C h.objs.size) := by heap_get
  have inC : (Value.ref C :: bm).contains (.ref C) = true := by simp
  have li2 := li.keeps kk
  have lb2 := (lb (.ref (h.objs.size + 1))).keeps kk
  unfold isInstance
  repeat (first
    | with_reducible refine wpAny_loadPart_at hx ?_
    | (with_reducible refine wpAny_isSubtype_exc cC2 ?_
       rw [inC])
    | wp_step)
  show wpAny _ _ (typeLookup (.ref C) _) _ _ _
  refine li2.at ?_
  refine wpAny_holding (wpAny_bind (lb2.at ?_))
  refine wpAny_bind (wpAny_call (codeAny_mono hq fun r s' z => ?_))
  rcases r with e | (v | _ | _ | _) <;> first | exact z | exact z.elim | skip
  obtain ⟨rfl, z⟩ := z
  first
    | exact wpAny_pure (wpAny_pure z)
    | (wp_walk
       exact z)
/-- C(.., k = ..) -/
theorem xcall (F : ExcBaseFacts B newId initId bmB) (tl : ∀ X : String, bm.contains (.type X) = bmB.contains (.type X)) {rest : List Value} {fI : Addr}
    (cC : h.get? C = some (excClassObj nm q C N bs bm hdct sn sub ab col dd k0 k1 k2 k3 k5 newId))
    (li : W.Looks (model prog w) h (typeLookup (.ref C) "__init__") (some (.ref fI))) (lb : ∀ self, W.Looks (model prog w) h (bindSpecial (.ref fI) self) (.ref fI, [self]))
    (hl : rest.length ≤ sizeLine)
    (hq : codeAny (model prog w) (A.under (.builtin "type.__call__" ⟨.ref C :: rest, kw⟩)) (.call (.ref fI) ⟨.ref (h.objs.size + 1) :: rest, kw⟩) (W.InitBack (h.objs.size + 1) R)
      ⟨(h.push (W.kdv_tup rest)).push (HandSPX.excO C h.objs.size), g, d, t, os⟩) :
    codeAny (model prog w) A (.call (.ref C) ⟨rest, kw⟩) R ⟨h, g, d, t, os⟩ := by
  have f1 := PySem.tc_lookup
  have f2 := PySem.tc_bind (.ref C)
  have ty : (⟨h, g, d, t, os⟩ : Shared).TypeIs (.ref C) "type" := ⟨_, cC, rfl⟩
  refine codeAny_of_tree ?_
  show wpAny _ _ (callAny (.ref C) _) _ _ _
  repeat (any_goals (first
    | assumption
    | with_reducible refine wpAny_loadPart_at cC ?_
    | wp_step))
  refine ⟨rfl, ?_⟩
  refine codeAny_call_builtin_at (Code.quiet_builtin _ (by decide +kernel)) entry_typeCall (wpAny_check_type_call_sub cC (xtype_call F tl cC li lb hl ?_))
  refine codeAny_mono hq fun r s' z => ?_
  rcases r with e | (v | _ | _ | _) <;> exact z
end
end Vx
/-! ## G5 -/
set_option Elab.async false
set_option linter.all false
set_option maxRecDepth 100000
set_option maxHeartbeats 4000000
namespace Vx
open PySem PySem.Spec PyProof.Rows L2
open PySem.W PySem.Calls PySem.Builtin.ObjectAttr

/-- what the written part says of an own error class at C, over b -/
structure XcC (b : XB) (K : PySem.W.Frag) (C : Addr) : Prop where
  cls : ∃ nm q N bs bm sn sub ab col dd k0 k1 k2 k3 k5, K.lookup C = some (excClassObj nm q C N bs bm true sn sub ab col dd k0 k1 k2 k3 k5 b.nw) ∧ excTail b.bm bm = true
  sa : findIn K (.ref C) "__setattr__" = some (some (.builtin "object.__setattr__"))
  exC : subIn K (.ref C) (.type "BaseException") = some true
  tyC : typeIn K (.ref C) = some (.type "type")
  kC : keepIn K (.ref C) = true
  ga : findIn K (.ref C) "__getattribute__" = some (some (.builtin "BaseException.__getattribute__"))
  gg : findIn K (.ref C) "__getattr__" = some none
  hdC : hasDictIn K C = true
  ha : findIn K (.ref C) "__class__" = some (some (.builtin "object.__class__"))
  hm : mroIn K C (.type "object") = some true
/-- what holds of the descriptor of __class__ -/
structure XcG (K : PySem.W.Frag) : Prop where
  hn : specialIn K (.builtin "object.__class__") "__get__" = some (some (.builtin "getset_descriptor.__get__"))
  ht : takesIn K (.builtin "object.__class__") = some true

section
variable {prog : Program} {w : World} {A : Around} {E : Value → Shared → Prop} {R : Result → Shared → Prop} {hp : Heap} {g : Array GenState} {d : Drawn} {t : Nat} {os : OsState}
/-- the first store -/
theorem xosa_new {B : String} {bmB : List Value} {K : PySem.W.Frag} {name : Str} {tk : Tok} {v : Value} {x C : Addr} {fv : Array Value} {cd : ClassData} (S : StoreFacts B bmB "object.__setattr__" "object")
    (X : K.In hp) (hx : hp.get? x = some { cls := .ref C, data := .fields fv }) (hcd : clsIn K C = some cd) (ov : excOver K C bmB = true) (hh : cd.hasDict = true) (tn : takerIn K C name = some none)
    (hq : ∀ h' tk' dx, (∀ b o, b ≠ x → hp.get? b = some o → h'.get? b = some o) → hp.objs.size ≤ dx → dx ≠ x →
      h'.get? x = some { cls := .ref C, dict := some dx, data := .fields fv } → h'.Ns1 dx (fun y => if y = name then some v else none) → R (.ok (.ret .none)) ⟨h', g, d, tk', os⟩) :
    codeAny (model prog w) A (.call (.builtin "object.__setattr__") ⟨[.ref x, .str name tk, v], []⟩) R ⟨hp, g, d, t, os⟩ := by
  have I : InstAt hp x { cls := .ref C, data := .fields fv } C none := ⟨hx, rfl, rfl, trivial⟩
  have ne : x ≠ hp.objs.size := Nat.ne_of_lt (Heap.lt_size hx)
  refine osa_openX S X I ov tn fun b => ?_
  have lc : Looks (model prog w) hp (classData C) cd := looks_clsIn X hcd
  obtain ⟨nm, bs, mro, ns, qn, hd, sn, sb, ab, col, del⟩ := cd
  dsimp only at hh
  subst hh
  show wpAny _ _ (storeInOwnDict (.ref x) (.ref C) (.str name tk) name v b) _ _ _
  unfold storeInOwnDict ownDictForStores
  repeat (first
    | with_reducible refine HandSPX.store_in_new ?_ ?_
    | with_reducible refine wpAny_loadPart_at hx ?_
    | with_reducible refine lc.at ?_
    | wp_step)
  · exact ⟨_, #[], _, (Heap.get?_update_ne _ _ _ _ ne.symm).trans (Heap.get?_push_at rfl rfl), rfl, fun e he => absurd he (by simp), fun _ => rfl⟩
  · intro h' tk' hn' hs
    have hx2 : (hp.push { cls := .type "dict", data := .dict #[] }).get? x = some { cls := .ref C, data := .fields fv } := Heap.get?_push_of_some _ hx
    refine hq h' tk' hp.objs.size (fun b o hb ho => ?_) (Nat.le_refl _) ne.symm ?_ hn'
    · exact (hs.2 b (Nat.ne_of_lt (Heap.lt_size ho))).trans ((Heap.get?_update_ne _ _ _ _ hb).trans (Heap.get?_push_of_some _ ho))
    · exact (hs.2 x ne).trans (Heap.get?_update_self _ hx2 rfl)
/-- a further store -/
theorem xosa_old {B : String} {bmB : List Value} {K : PySem.W.Frag} {name : Str} {tk : Tok} {v : Value} {x C dx : Addr} {fv : Array Value} {cd : ClassData} {m0 : Str → Option Value} {nl : List Str} (S : StoreFacts B bmB "object.__setattr__" "object")
    (X : K.In hp) (hx : hp.get? x = some { cls := .ref C, dict := some dx, data := .fields fv }) (hns : hp.Ns1 dx m0) (hw : Within m0 nl) (hz : nl.length ≤ 1000)
    (hcd : clsIn K C = some cd) (ov : excOver K C bmB = true) (hh : cd.hasDict = true) (tn : takerIn K C name = some none)
    (hq : ∀ h' tk', (∀ b o, b ≠ dx → hp.get? b = some o → h'.get? b = some o) → h'.Ns1 dx (fun y => if y = name then some v else m0 y) → R (.ok (.ret .none)) ⟨h', g, d, tk', os⟩) :
    codeAny (model prog w) A (.call (.builtin "object.__setattr__") ⟨[.ref x, .str name tk, v], []⟩) R ⟨hp, g, d, t, os⟩ := by
  obtain ⟨oD, esD, epD, hoD, hdD, _⟩ := hns.count hw
  have I : InstAt hp x { cls := .ref C, dict := some dx, data := .fields fv } C (some oD) := ⟨hx, rfl, rfl, hoD⟩
  refine osa_openX S X I ov tn fun b => ?_
  have lc : Looks (model prog w) hp (classData C) cd := looks_clsIn X hcd
  obtain ⟨nm, bs, mro, ns, qn, hd, sn, sb, ab, col, del⟩ := cd
  dsimp only at hh
  subst hh
  show wpAny _ _ (storeInOwnDict (.ref x) (.ref C) (.str name tk) name v b) _ _ _
  unfold storeInOwnDict ownDictForStores
  repeat (first
    | with_reducible refine OEX.store_in_old hns hw hz ?_
    | with_reducible refine wpAny_loadPart_at hx ?_
    | with_reducible refine lc.at ?_
    | wp_step)
  intro h' tk' hn' hs
  exact hq h' tk' (fun b o hb ho => (hs.2 b hb).trans ho) hn'
end

section
variable {b : XB} {X : Cx} {pins : List (Addr × Obj)} {σ : L2.St} {H : Hp} {s : Shared} {a C dx : Addr} {f : Str} {y : V} {u : Value} {fs : List (Str × V)}
  {Q : Unit → Shared → Prop} {E : Value → Shared → Prop} {A : Around}
theorem XcC.data (T : XcC b X.K C) : ∃ cd : ClassData, clsIn X.K C = some cd ∧ cd.hasDict = true ∧ excOver X.K C b.bm = true := by
  obtain ⟨nm, q, N, bs, bm, sn, sub, ab, col, dd, k0, k1, k2, k3, k5, hC, hbm⟩ := T.cls
  have e : clsIn X.K C = some { name := nm, bases := bs, mro := .ref C :: bm, ns := N, qualname := q, hasDict := true, slotNames := sn, subclasses := sub, abstract := ab, collection := col, hasDel := false } := by
    unfold clsIn
    rw [hC] <;> rfl
  refine ⟨_, e, rfl, ?_⟩
  unfold excOver
  rw [e]
  show ((C == C) && excTail b.bm bm) = true
  rw [hbm]
  simp
theorem taker_none {K : PySem.W.Frag} (h : findIn K (.ref C) f = some none) : takerIn K C f = some none := by
  unfold takerIn
  rw [h]
  rfl
/-- self.f = y, the first one -/
theorem xst_new (T : XcC b X.K C) (I : Inv X pins σ H s) (e : H a = some (exo a C none)) (hno : findIn X.K (.ref C) f = some none) (ry : RelV y u)
    (h : ∀ dx s', H dx = none → dx ≠ a → Inv X pins σ (upd (upd H dx (exd dx [(f, y)])) a (exo a C (some dx))) s' → Q () s') : wpAny (model X.prog X.w) A (setAttr (.ref a) f u) Q E s := by
  obtain ⟨cd, hcl, hhd, hov⟩ := T.data
  obtain ⟨t1, ho⟩ := exo_at I.hok e
  obtain ⟨hp, g, d, t, os⟩ := s
  refine set_plain I.kIn (ox := { cls := .ref C, dict := none, data := .fields #[.ref t1, .none, .none, .none, .bool false, .none] }) (od := none) ⟨ho, rfl, rfl, trivial⟩ T.sa ?_
  refine xosa_new b.S I.kIn ho hcl hov hhd (taker_none hno) (fun h' tk' dx k dn dne hx hn => ?_)
  have hnd : H dx = none := I.hok.fresh dn
  have nd : ∀ {c : Addr} {o : Obj}, hp.get? c = some o → c ≠ dx := fun {c o} q => Nat.ne_of_lt (Nat.lt_of_lt_of_le (Heap.lt_size q) dn)
  have na : ∀ {c : Addr}, H c = none → c ≠ a := fun {c} n z => by
    rw [z, e] at n
    cases n
  refine h dx _ hnd dne (I.un (t' := tk') ⟨fun c o q n _ _ => k c o (na n) q, fun c o q n _ _ => ⟨o.slots, k c o (na n) q⟩,
    fun c o q n _ => by rw [upd_ne (na n), upd_ne (nd q)]; exact n,
    fun c o q _ => by
      by_cases hb : c = a
      · exact ⟨_, by rw [hb]; exact hx⟩
      · exact ⟨o, k c o hb q⟩,
    fun c xs q => by rw [upd_ne (at_ne e q exo_tup), upd_ne (ne_of_none q hnd)]; exact q,
    fun c o v q => by rw [upd_ne (at_ne e q exo_frz), upd_ne (ne_of_none q hnd)]; exact q,
    fun c ps q => ⟨#[], by rw [upd_ne (at_ne e q exo_tbl), upd_ne (ne_of_none q hnd), q]; simp⟩⟩ fun c o q => ?_)
  by_cases hb : c = a
  · subst hb
    rw [upd_same] at q
    cases q
    exact exo_ok hx
  · rw [upd_ne hb] at q
    by_cases hd : c = dx
    · subst hd
      rw [upd_same] at q
      cases q
      exact exd_ok hn (relO_put (fs := []) ry fun g => True.intro)
    · rw [upd_ne hd] at q
      refine (I.hok c o q).stay (fun z v hz r => k z v ?_ r) (fun z hz => ?_) fun z xs hz => ?_
      · rcases hz with hz | hz
        · rw [hz]
          exact hb
        · exact at_ne e hz exo_own
      · rw [upd_ne (at_ne e hz exo_own), upd_ne (ne_of_none hz hnd)]
        exact hz
      · rw [upd_ne (at_ne e hz exo_tup), upd_ne (ne_of_none hz hnd)]
        exact hz
/-- self.f = y, a further one -/
theorem xst_old (T : XcC b X.K C) (I : Inv X pins σ H s) (e : H a = some (exo a C (some dx))) (ed : H dx = some (exd dx fs)) (hl : fs.length ≤ 900) (hno : findIn X.K (.ref C) f = some none) (ry : RelV y u)
    (h : ∀ s', Inv X pins σ (upd H dx (exd dx ((f, y) :: fs))) s' → Q () s') : wpAny (model X.prog X.w) A (setAttr (.ref a) f u) Q E s := by
  obtain ⟨cd, hcl, hhd, hov⟩ := T.data
  obtain ⟨t1, ho⟩ := exo_at I.hok e
  obtain ⟨mA, hns, rel⟩ := exd_at I.hok ed
  have hw := within_of rel
  obtain ⟨hp, g, d, t, os⟩ := s
  obtain ⟨oD, _, _, hoD, _, _⟩ := hns.count hw
  refine set_plain I.kIn (ox := { cls := .ref C, dict := some dx, data := .fields #[.ref t1, .none, .none, .none, .bool false, .none] }) (od := some oD) ⟨ho, rfl, rfl, hoD⟩ T.sa ?_
  refine xosa_old b.S I.kIn ho hns hw (by rw [List.length_map]; omega) hcl hov hhd (taker_none hno) (fun h' tk' k hn => ?_)
  have hd : ∃ o, h'.get? dx = some o := by
    obtain ⟨o, _, _, e', _⟩ := hn
    exact ⟨o, e'⟩
  exact h _ (I.write (t' := tk') (x := dx) (e := dx) (o := exd dx ((f, y) :: fs)) (by rw [ed]; exact True.intro) (.inl rfl) k hd (exd_ok hn (relO_put ry rel)))
end

/-- at a: an error of the class at C, with these attributes (the newest first) -/
def XO (H : Hp) (a C : Addr) (fs : List (Str × V)) : Prop := ∃ d, H a = some (exo a C (some d)) ∧ H d = some (exd d fs)
/-- self.f = e in an error's __init__ -/
def tXs (b : XB) (K : PySem.W.Frag) (f : Str) (to te : TE) : TS := fun D σ H => te σ H fun y H1 => to σ H1 fun x H2 => ∃ a C : Addr, x = .ref a ∧ XcC b K C ∧ findIn K (.ref C) f = some none ∧
  ((H2 a = some (exo a C none) ∧ ∀ dx, H2 dx = none → dx ≠ a → D.nx σ (upd (upd H2 dx (exd dx [(f, y)])) a (exo a C (some dx)))) ∨
    ∃ (dx : Addr) (fs : List (Str × V)), H2 a = some (exo a C (some dx)) ∧ H2 dx = some (exd dx fs) ∧ fs.length ≤ 900 ∧ D.nx σ (upd H2 dx (exd dx ((f, y) :: fs))))
/-- C(e, ..), its __init__ keeping sp -/
def tXm (C : Addr) (sp : Sp) (gV : List V → List V → List V) (ta tk : TA) : TE := fun σ H Q => ta σ H fun vs H1 => tk σ H1 fun zs H2 => vs.length ≤ 1000 ∧ ∀ a, H2 a = none →
  sp (gV (.ref a :: vs) zs) (upd H2 a (exo a C none)) (fun v H3 => v = .non ∧ Q (.ref a) H3) (fun _ _ _ => False)
section
variable {b : XB} {X : Cx} {o e : Expr} {es : List Expr} {kws : List Keyword} {to te : TE} {ta tk : TA} {f : Str} {p p' p1 p2 pos : Pos} {C fI : Addr}
theorem ps_xs (ho : PE X o to) (he : PE X e te) (hs : swapsWith e (some (.Attribute o f p')) pos.line X.env = pure false := by rfl) : PS X (.Assign [.Attribute o f p'] e pos) (tXs b X.K f to te) := by
  refine ⟨fun pins s σ H D I h => ?_⟩
  refine plainObj_wpAny_Assign_Attribute (thn (he.run pins s σ H _ I h) fun v s1 ⟨y, H1, I1, r1, q1⟩ =>
    thn (ho.run pins s1 σ H1 _ I1 q1) fun u s2 ⟨x, H2, I2, r2, a, C, ex, T, hno, q⟩ => ?_) hs
  subst ex
  obtain rfl : u = Value.ref a := r2
  rcases q with ⟨ea, q⟩ | ⟨dx, fs, ea, ed, hl, q⟩
  · exact xst_new T I2 ea hno r1 fun dx s' n ne J => ⟨σ, _, J, q dx n ne⟩
  · exact xst_old T I2 ea ed hl hno r1 fun s' J => ⟨σ, _, J, q⟩
/-- the making, its arguments reckoned -/
theorem xmk_run {CX : CXT} {k : Nat} {fd : FuncData} {ps ks : List Str} {sp : Sp} {g : List Value → List Value → List Value} {gV : List V → List V → List V} {pins : List (Addr × Obj)} {σ : L2.St} {H : Hp} {s : Shared} {Q : VK} {us ws : List Value} {vs zs : List V}
    (T : XcC b X.K C) (iC : findIn X.K (.ref C) "__init__" = some (some (.ref fI))) (tI : typeIn X.K (.ref fI) = some (.type "function"))
    (F1 : FnOk X.prog X.w X.K X.mg X.base CX k fI fd ps sp) (hr : Room (k + 1) X.A) (hb : KBinds X.K fd ps ks g gV) (hx : Passes CX X (fun _ _ _ => False))
    (I : Inv X pins σ H s) (r : Vals vs us) (rz : Vals zs ws) (hz : vs.length ≤ 1000)
    (q1 : ∀ a, H a = none → sp (gV (.ref a :: vs) zs) (upd H a (exo a C none)) (fun v H3 => v = .non ∧ Q (.ref a) H3) (fun _ _ _ => False)) :
    wpAny (model X.prog X.w) X.A (call (.ref C) us (ks.zip ws)) (EP X pins σ Q) X.xe s := by
  obtain ⟨nm, q, N, bs, bm, sn, sub, ab, col, dd, k0, k1, k2, k3, k5, hC, hbm⟩ := T.cls
  obtain ⟨hp, gs, dr, tk, os⟩ := s
  have lz : hp.objs.size ≤ hp.objs.size + 1 := Nat.le_succ _
  have hn : H (hp.objs.size + 1) = none := I.hok.fresh lz
  have hq := q1 (hp.objs.size + 1) hn
  have kk : ∀ c o, hp.get? c = some o → ((hp.push (kdv_tup us)).push (HandSPX.excO C hp.objs.size)).get? c = some o :=
    fun c o z => Heap.get?_push_of_some _ (Heap.get?_push_of_some _ z)
  have hget : ((hp.push (kdv_tup us)).push (HandSPX.excO C hp.objs.size)).get? (hp.objs.size + 1) = some (HandSPX.excO C hp.objs.size) := by heap_get
  have I2 : Inv X pins σ (upd H (hp.objs.size + 1) (exo (hp.objs.size + 1) C none)) ⟨(hp.push (kdv_tup us)).push (HandSPX.excO C hp.objs.size), gs, dr, tk, os⟩ :=
    I.laid (t' := tk) (a := hp.objs.size + 1) (o := exo (hp.objs.size + 1) C none) (h' := (hp.push (kdv_tup us)).push (HandSPX.excO C hp.objs.size)) kk lz (exo_ok hget)
  have ra : Vals (V.ref (hp.objs.size + 1) :: vs) (Value.ref (hp.objs.size + 1) :: us) := .cons rfl r
  have r2 := hb.rel ra rz
  have hl : (g (Value.ref (hp.objs.size + 1) :: us) ws).length = ps.length := r2.length.symm.trans (F1.len _ _ _ _ hq)
  have hus : us.length ≤ sizeLine := by
    rw [← Paired.length r, sizeLine_eq]
    omega
  refine wpAny_call (xcall b.F (fun Y => excTail_contains Y bm hbm) (I.kIn _ _ hC) (looks_findIn I.kIn iC) (fun self => bind_fn I.kIn self tI) hus
    (codeAny_mono (F1.run _ X.stack _ _ ⟨Value.ref (hp.objs.size + 1) :: us, ks.zip ws⟩ (g (Value.ref (hp.objs.size + 1) :: us) ws) _ _ (fun _ _ _ => False)
      (hr.make C us (ks.zip ws)) (I2.env0.make C us (ks.zip ws)) (hb.to _ _ ws I2.kIn hl) r2 hq) fun r s' hq' => ?_))
  cases r with
  | error er => exact hx pins σ _ _ er s' I2 hq'
  | ok fl =>
    cases fl with
    | ret u =>
      obtain ⟨v, H2, J, rv, ev, q2⟩ := I2.after hq'
      subst ev
      exact ⟨rv, ⟨V.ref (hp.objs.size + 1), H2, J, rfl, q2⟩⟩
    | next => exact False.elim hq'
    | brk => exact False.elim hq'
    | cont => exact False.elim hq'
end
end Vx
/-! ## G6 -/
set_option Elab.async false
set_option linter.all false
set_option maxRecDepth 100000
set_option maxHeartbeats 4000000
namespace Vx
open PySem PySem.Spec PyProof.Rows L2
open PySem.W PySem.Calls PySem.Builtin.ObjectAttr

section
variable {b : XB} {X : Cx} {o e : Expr} {es : List Expr} {kws : List Keyword} {to te : TE} {ta tk : TA} {f x : Str} {p p' p1 p2 pos : Pos} {C fI : Addr}
  {CX : CXT} {k : Nat} {fd : FuncData} {ps ks : List Str} {sp : Sp} {g : List Value → List Value → List Value} {gV : List V → List V → List V}
/-- C(e, ..) -/
theorem pe_xm (T : XcC b X.K C) (iC : findIn X.K (.ref C) "__init__" = some (some (.ref fI))) (tI : typeIn X.K (.ref fI) = some (.type "function"))
    (F1 : FnOk X.prog X.w X.K X.mg X.base CX k fI fd ps sp) (hr : Room (k + 1) X.A) (hb : KBinds X.K fd ps [] g gV) (hx : Passes CX X (fun _ _ _ => False))
    (hg : Gl X x) (hm : X.mg x = some (.ref C)) (ha : PA X (e :: es) ta)
    (hdb : (x == ("__debug__" : Str)) = false := by decide) (he : starEach (e :: es) X.env = (false, eval e X.env) :: starEach es X.env := by rfl) (hpl : (backTo pos (starEach es X.env)).any (·.1) = false := by rfl) :
    PE X (.Call (.Name x p) (e :: es) [] pos) (tXm C sp gV ta tNil) := by
  refine ⟨fun pins s σ H Q I h => wpAny_Call_Name_kw (ld_glob I hg hm ?_ hdb)⟩
  refine callWith_K (h₀ := X.base) I.ok.mod.kin T.kC (thn (ha.run pos pins s σ H _ I h) fun us s1 ⟨vs, H1, I1, r1, hz, q1⟩ => ⟨I1.kIn, ?_⟩) he hpl
  exact xmk_run (ks := []) (ws := []) T iC tI F1 hr hb hx I1 r1 .nil hz q1
/-- C(k = e, ..) -/
theorem pe_xmK (T : XcC b X.K C) (iC : findIn X.K (.ref C) "__init__" = some (some (.ref fI))) (tI : typeIn X.K (.ref fI) = some (.type "function"))
    (F1 : FnOk X.prog X.w X.K X.mg X.base CX k fI fd ps sp) (hr : Room (k + 1) X.A) (hb : KBinds X.K fd ps ks g gV) (hx : Passes CX X (fun _ _ _ => False))
    (hg : Gl X x) (hm : X.mg x = some (.ref C)) (hkw : PK X kws tk) (hall : (backToKw pos (keywordEach kws X.env)).all (·.1.isSome) = true := by rfl)
    (hks : (backToKw pos (keywordEach kws X.env)).filterMap (·.1) = ks := by rfl) (hdb : (x == ("__debug__" : Str)) = false := by decide)
    (hpl : ((backTo pos (starEach [] X.env)).any (·.1) || (backToKw pos (keywordEach kws X.env)).any (·.1.isNone)) = false := by rfl) :
    PE X (.Call (.Name x p) [] kws pos) (tXm C sp gV tNil tk) := by
  refine ⟨fun pins s σ H Q I h => wpAny_Call_Name_kw (ld_glob I hg hm ?_ hdb)⟩
  refine callWith_KW0 (h₀ := X.base) I.ok.mod.kin T.kC hall ?_ hpl
  refine thn (hkw.run pos pins s σ H _ I h) fun ws s2 ⟨zs, H2, I2, rz, hz, q2⟩ => ⟨I2.kIn, ?_⟩
  rw [hks]
  exact xmk_run T iC tI F1 hr hb hx I2 .nil rz hz q2

/-- e.f, e an own error -/
def tXf (K : PySem.W.Frag) (f : Str) (te : TE) : TE := fun σ H Q => te σ H fun v H1 => ∃ (b : XB) (a C : Addr) (fs : List (Str × V)) (y : V), v = .ref a ∧ XO H1 a C fs ∧ XcC b K C ∧
  findIn K (.ref C) f = some none ∧ fs.lookup f = some y ∧ Q y H1
theorem pe_xf {n : Str} (he : PE X e te) (hb : attributeBase e n X.env (eval e X.env) = eval e X.env := by rfl) : PE X (.Attribute e n pos) (tXf X.K n te) := by
  refine ⟨fun pins s σ H Q I h => attr_of hb (thn (he.run pins s σ H _ I h) fun u s1 hh => ?_)⟩
  obtain ⟨v, H1, I1, rx, b, a, C, fs, y, ev, ⟨d, ea, ed⟩, T, hno, l, q⟩ := hh
  subst ev
  obtain rfl : u = Value.ref a := rx
  obtain ⟨t1, ho⟩ := exo_at I1.hok ea
  obtain ⟨mA, hns, rel⟩ := exd_at I1.hok ed
  obtain ⟨od, hod, hl⟩ := lookIn_ns hns
  obtain ⟨u, hu, ru⟩ := RelO.some_of (v := y) (o := mA n) (by rw [← l]; exact rel n)
  have J : InstAt s1.heap a _ C (some od) := ⟨ho, rfl, rfl, hod⟩
  exact HandSPX.exc_get I1.kIn J T.ga T.gg T.exC (findObj_own T.hdC hno rfl (by rw [hl, hu])) (handed_of ru) ⟨y, H1, I1.tok _, ru, q⟩

end

/-! ### isinstance of an own error -/
section
variable {prog : Program} {w : World} {A : Around} {E : Value → Shared → Prop} {s : Shared} {K : Frag} {x D : Addr} {ox : Obj} {od : Option Obj} {b : XB}
theorem xfind_data {C : Addr} {name : Str} {a g : Value} (hc : (clsIn K C).isSome = true) (ha : findIn K (.ref C) name = some (some a)) (hg : specialIn K a "__get__" = some (some g)) (ht : takesIn K a = some true) :
    findObj K C od name = some (.bind g a) := by
  obtain ⟨cd, hc⟩ := Option.isSome_iff_exists.mp hc
  unfold findObj
  rw [hc, Option.bind_some, ha, Option.bind_some]
  simp [hg, ht]
theorem xclass_get {M : Model} {h : Heap} (G : XcG K) (T : XcC b K D) (X : K.In h) (I : InstAt h x ox D od) : Looks M h (find (.ref x) (.ref D) "__class__") (.bind (.builtin "getset_descriptor.__get__") (.builtin "object.__class__")) :=
  looks_find X I (xfind_data (by obtain ⟨cd, hc, _⟩ := any_some T.hdC; rw [hc]; rfl) T.ha G.hn G.ht)
theorem xkin_class {Q : Option Value → Shared → Prop} (G : XcG K) (T : XcC b K D) (X : K.In s.heap) (I : InstAt s.heap x ox D od) (h : Q (some (.ref D)) { s with toks := s.toks + 1 }) :
    wpAny (model prog w) A (getAttr? (.ref x) "__class__") Q E s := by
  obtain ⟨hp, g, d, t, os⟩ := s
  have l0 := I.type (M := model prog w)
  have l1 := looks_findIn (M := model prog w) X T.ga
  have l2 := looks_findIn (M := model prog w) X T.gg
  have l3 := xclass_get (M := model prog w) G T X I
  have sb : Looks (model prog w) hp (isInstance (.ref x) (.type "BaseException")) true := l0.andThen (looks_subIn X T.exC)
  have e0 : (false && onTheHeap (Value.builtin "BaseException.__getattribute__")) = false := rfl
  have e2 : (Value.builtin "BaseException.__getattribute__" == Value.builtin "object.__getattribute__") = false := by decide +kernel
  have e1 : (onTheHeap (Value.ref D) && Value.builtin "BaseException.__getattribute__" == Value.builtin "object.__getattribute__") = false := by
    rw [e2]
    rfl
  unfold getAttr? getAttrBy? getAttrBy
  refine wpAny_bind (wpAny_mkText (wpAny_bind (wpAny_attempt (wpAny_holding (wpAny_bind (l0.at (wpAny_bind (l1.at ?_))))))))
  show wpAny _ _ (if (onTheHeap (Value.ref D) && Value.builtin "BaseException.__getattribute__" == Value.builtin "object.__getattribute__") = true then _ else _) _ _ _
  rw [e1, if_neg Bool.false_ne_true]
  unfold getAttrByItsOwn hookBefore
  refine wpAny_bind ?_
  rw [if_pos (show onTheHeap (Value.ref D) = true from rfl)]
  refine l2.at (wpAny_bind (wpAny_attempt (wpAny_holding ?_)))
  unfold callGetattribute
  rw [e0, if_neg Bool.false_ne_true]
  unfold boundAndCalled
  rw [PySem.F.excAttr_ValueError.ga.bind (.ref x)]
  refine wpAny_bind (wpAny_pure ?_)
  show wpAny _ _ (call (.builtin "BaseException.__getattribute__") [.ref x, .str "__class__" t]) _ _ _
  refine wpAny_call (codeAny_call_builtin PySem.F.excAttr_ValueError.ga.plain PySem.F.entry_bexc_ga ?_)
  refine @check_slot (model prog w) _ _ ⟨hp, g, d, t + 1, os⟩ "BaseException.__getattribute__" "BaseException" "__getattribute__" (.ref x) [.str "__class__" t] [] _
    (by decide +kernel) (by decide +kernel) sb (PySem.F.args_bexc_ga (.ref x) (.str "__class__" t)) ?_
  unfold Builtin.«object.__getattribute__»
  refine wpAny_bind (wpAny_of_eq (a := ((Value.ref x : Value), [Value.str "__class__" t]))
    (by first | rfl | (simp only [slotArgs]; rfl)) ?_)
  refine wpAny_bind (wpAny_pure (wpAny_bind (l0.at (wpAny_bind (l3.at ?_)))))
  show wpAny _ _ (holding [Value.builtin "object.__class__"] (call (.builtin "getset_descriptor.__get__") [.builtin "object.__class__", .ref x, .ref D]) >>= ret) _ _ _
  refine wpAny_bind (wpAny_holding (wpAny_call (class_get (s := ⟨hp, g, d, t + 1, os⟩) (ox := ox) (od := od) X I T.hm ?_)))
  refine wpAny_pure ?_
  show wpAny _ _ (handedOut (.ref D)) _ _ _
  rw [handedOut_of (v := .ref D) rfl]
  first
    | exact wpAny_pure (wpAny_pure h)
    | exact wpAny_pure h
    | exact wpAny_pure (wpAny_bind (wpAny_pure (wpAny_pure h)))
theorem xkit (G : XcG K) (T : XcC b K D) : KitX K (.ref x) (.ref D) (fun h => InstAt h x ox D od) where
  ty := fun _ _ _ I => I.type
  it := fun _ _ X _ => by
    obtain ⟨cd, hc, _⟩ := any_some T.hdC
    unfold clsIn at hc
    split at hc
    · rename_i c' d' cd' sl' ho
      intro A' Q' E' s' k q
      unfold isType loadHead
      exact wpAny_bind (wpAny_loadPart (k _ _ (X _ _ ho)) (wpAny_pure q))
    · cases hc
  ne := fun h tp dd its n sl X htp => by
    obtain ⟨cd, hc, _⟩ := any_some T.hdC
    refine Bool.eq_false_iff.mpr fun q => ?_
    have e : D = tp := Value.ref.inj (beq_iff_eq.mp q)
    subst e
    unfold clsIn at hc
    split at hc
    · rename_i c' d' cd' sl' ho
      cases (X _ _ ho).symm.trans htp
    · cases hc
  ca := fun X I k => xkin_class G T X I k
end
/-- at a: an error of the class at C, with or without attributes -/
def XI (H : Hp) (a C : Addr) : Prop := H a = some (exo a C none) ∨ ∃ fs, XO H a C fs
section
variable {b : XB} {X : Cx}
/-- isinstance(e, c), e an own error -/
def rIsX (K : PySem.W.Frag) : List V → Hp → VK → Prop := fun xs H Q => ∃ (a D : Addr) (b : XB) (c : V) (cv : Value) (r : Bool), xs = [.ref a, c] ∧ XI H a D ∧ XcC b K D ∧ (∀ u, RelV c u → u = cv) ∧ kitOne K (.ref D) cv = some r ∧ Q (.bl r) H
theorem call_isX (G : XcG X.K) : CallR X (.builtin "isinstance") (rIsX X.K) := by
  intro pins s σ H xs us Q I r h
  obtain ⟨a, D, b, c, cv, rr, rfl, hi, T, hcv, e, q⟩ := h
  obtain ⟨u, u2, rfl, ra, rc⟩ := vals2 r
  obtain rfl : u = Value.ref a := ra
  obtain rfl := hcv _ rc
  obtain ⟨ox, od, J⟩ : ∃ ox od, InstAt s.heap a ox D od := by
    rcases hi with ea | ⟨fs, d, ea, ed⟩
    · obtain ⟨t1, ho⟩ := exo_at I.hok ea
      exact ⟨_, none, ho, rfl, rfl, trivial⟩
    · obtain ⟨t1, ho⟩ := exo_at I.hok ea
      obtain ⟨mA, ⟨oD, es, ep, hoD, _⟩, _⟩ := exd_at I.hok ed
      exact ⟨_, some oD, ho, rfl, rfl, hoD⟩
  exact kia_one (xkit G T) I.kIn J e (fun z => nomatch z) fun tk => ⟨.bl rr, H, I.kept (t' := tk) fun _ _ z => z, rfl, q⟩
/-- C(), C without an __init__ of its own -/
theorem pe_x0 {C : Addr} {bmB : List Value} {B newId initId : String} {x : Str} {p pos : Pos} (F : ExcBaseFacts B newId initId bmB) (q : excIn X.K C bmB newId = true) (gC : X.mg x = some (.ref C)) (kC : keepIn X.K (.ref C) = true) (hg : Gl X x)
    (hdb : (x == ("__debug__" : Str)) = false := by decide) :
    PE X (.Call (.Name x p) [] [] pos) (fun _ H Q => ∀ a, H a = none → Q (.ref a) (upd H a (exo a C none))) := by
  refine ⟨fun pins s σ H Q I h => wpAny_Call_Name_kw (ld_glob I hg gC ?_ hdb)⟩
  refine callWith_K0 I.kIn kC ?_
  obtain ⟨bm, N, nm, qn, bs, hdct, sn, sub, ab, col, dd, k0, k1, k2, k3, k5, mN, hC, hN, hni, T⟩ := exc_obj I.kIn q
  refine wpAny_call_exc_subT F T hC hN hni (fun h' a hm => ?_) (by show 0 ≤ sizeLine; omega)
  have hn : H a = none := I.hok.gone hm.new
  obtain ⟨t, ht, _, _⟩ := hm.there
  exact ⟨.ref a, upd H a (exo a C none), I.laidN hm.keeps hm.new hn (exo_ok ht), rfl, h a hn⟩
end
end Vx
/-! ## G7 -/
set_option Elab.async false
set_option linter.all false
set_option maxRecDepth 100000
set_option maxHeartbeats 4000000
namespace Vx
open PySem PySem.Spec PyProof.Rows L2
open PySem.W PySem.Calls PySem.Builtin.ObjectAttr

theorem funD_fun {K : PySem.W.Frag} {x q : Str} {st : Stmt} {f : Addr} {fd : FuncData} (F : FunD K x q (defArgs st) (defBody st) (defScope st) [] [] f fd) : Fun K x q st f fd := by
  obtain ⟨⟨oc, od, dV, kV, doc, pm, an, cdv, ct, osl, e, lk, hc, hD, _⟩, kp⟩ := F
  refine ⟨⟨oc, od, kV, doc, pm, an, cdv, ct, osl, ?_, lk, hc⟩, kp⟩
  rcases hD with ⟨_, e2⟩ | ⟨z, _⟩
  · rw [e, e2]
  · exact absurd rfl z

/-! ### the errors' __init__ -/
/-- the body of an __init__ that keeps one value, two values -/
def Init1 (f : Str) (body : List Stmt) : Prop := ∃ p1 p2 p3 p4, body = [.Assign [.Attribute (.Name "self" p1) f p2] (.Name f p3) p4]
def Init2 (f g : Str) (body : List Stmt) : Prop := ∃ p1 p2 p3 p4 q1 q2 q3 q4, body = [.Assign [.Attribute (.Name "self" p1) f p2] (.Name f p3) p4, .Assign [.Attribute (.Name "self" q1) g q2] (.Name g q3) q4]
def spX1 (b : XB) (K : PySem.W.Frag) (f : Str) : Sp := fun vs H Q _ => ∃ (a C : Addr) (y : V), vs = [.ref a, y] ∧ XcC b K C ∧ findIn K (.ref C) f = some none ∧ H a = some (exo a C none) ∧
  ∀ d, H d = none → d ≠ a → Q .non (upd (upd H d (exd d [(f, y)])) a (exo a C (some d)))
def spX2 (b : XB) (K : PySem.W.Frag) (f g : Str) : Sp := fun vs H Q _ => ∃ (a C : Addr) (y z : V), vs = [.ref a, y, z] ∧ XcC b K C ∧ findIn K (.ref C) f = some none ∧ findIn K (.ref C) g = some none ∧ H a = some (exo a C none) ∧
  ∀ d, H d = none → d ≠ a → Q .non (upd (upd (upd H d (exd d [(f, y)])) a (exo a C (some d))) d (exd d [(g, z), (f, y)]))
section
variable {P : Program} {w : World} {K : PySem.W.Frag} {mg : Str → Option Value} {base : Heap} {qual f g : Str} {params : Arguments} {body : List Stmt} {scope : Scope} {fI : Addr} {fd : FuncData} {b : XB}
theorem ok_init1 (F : FunD K "__init__" qual params body scope [] [] fI fd) (B : Init1 f body) (S : FnScope ["self", f] ["self", f] scope) (l1 : scope.names.lookup ("self" : Str) = some .local) (l2 : scope.names.lookup f = some .local)
    (e1 : (f == ("__debug__" : Str)) = false) (e2 : (f == ("__classdict__" : Str)) = false) : FnOk P w K mg base CX0 1 fI fd ["self", f] (spX1 b K f) := by
  refine F.ok S (fun vs H Q E h => ?_) (fun cdv A outer s H vs Q E hr h => ?_)
  · obtain ⟨a, C, y, rfl, _⟩ := h
    rfl
  · obtain ⟨a, C, y, rfl, T, hno, ha, k⟩ := h
    obtain ⟨p1, p2, p3, p4, rfl⟩ := B
    refine ⟨_, pss_one (ps_xs (b := b) (pe_var (i := 0) rfl (Or.inl l1)) (pe_var (i := 1) rfl (Or.inl l2) e1 e2)), ?_⟩
    exact ⟨y, rfl, .ref a, rfl, a, C, rfl, T, hno, .inl ⟨ha, fun d hd ne => k d hd ne⟩⟩
theorem ok_init2 (F : FunD K "__init__" qual params body scope [] [] fI fd) (B : Init2 f g body) (S : FnScope ["self", f, g] ["self", f, g] scope) (l1 : scope.names.lookup ("self" : Str) = some .local) (l2 : scope.names.lookup f = some .local) (l3 : scope.names.lookup g = some .local)
    (e1 : (f == ("__debug__" : Str)) = false) (e2 : (f == ("__classdict__" : Str)) = false) (e3 : (g == ("__debug__" : Str)) = false) (e4 : (g == ("__classdict__" : Str)) = false) : FnOk P w K mg base CX0 1 fI fd ["self", f, g] (spX2 b K f g) := by
  refine F.ok S (fun vs H Q E h => ?_) (fun cdv A outer s H vs Q E hr h => ?_)
  · obtain ⟨a, C, y, z, rfl, _⟩ := h
    rfl
  · obtain ⟨a, C, y, z, rfl, T, hno, hno2, ha, k⟩ := h
    obtain ⟨p1, p2, p3, p4, q1, q2, q3, q4, rfl⟩ := B
    refine ⟨_, pss_cons (ps_xs (b := b) (pe_var (i := 0) rfl (Or.inl l1)) (pe_var (i := 1) rfl (Or.inl l2) e1 e2)) (pss_one (ps_xs (b := b) (pe_var (i := 0) rfl (Or.inl l1)) (pe_var (i := 2) rfl (Or.inl l3) e3 e4))), ?_⟩
    refine ⟨y, rfl, .ref a, rfl, a, C, rfl, T, hno, .inl ⟨ha, fun d hd ne => ?_⟩⟩
    exact ⟨z, rfl, .ref a, rfl, a, C, rfl, T, hno2, .inr ⟨d, _, upd_same, (upd_ne ne).trans upd_same, by show 1 ≤ 900; omega, k d hd ne⟩⟩
end

/-! ### one error class by its facts -/
/-- one positional value and one by keyword; one and two, the later parameter first -/
def kw1 {α : Type} : List α → List α → List α
  | [a], [b] => [a, b]
  | _, _ => []
def kw2 {α : Type} : List α → List α → List α
  | [a], [z, y] => [a, y, z]
  | _, _ => []
theorem kw1_rel : ∀ {vs : List V} {us : List Value} {zs : List V} {ws : List Value}, Vals vs us → Vals zs ws → Vals (kw1 vs zs) (kw1 us ws)
  | _, _, _, _, .cons a .nil, .cons c .nil => .cons a (.cons c .nil)
  | _, _, _, _, .nil, _ => .nil
  | _, _, _, _, .cons _ (.cons _ _), _ => .nil
  | _, _, _, _, .cons _ .nil, .nil => .nil
  | _, _, _, _, .cons _ .nil, .cons _ (.cons _ _) => .nil
theorem kw2_rel : ∀ {vs : List V} {us : List Value} {zs : List V} {ws : List Value}, Vals vs us → Vals zs ws → Vals (kw2 vs zs) (kw2 us ws)
  | _, _, _, _, .cons a .nil, .cons c (.cons d .nil) => .cons a (.cons d (.cons c .nil))
  | _, _, _, _, .nil, _ => .nil
  | _, _, _, _, .cons _ (.cons _ _), _ => .nil
  | _, _, _, _, .cons _ .nil, .nil => .nil
  | _, _, _, _, .cons _ .nil, .cons _ .nil => .nil
  | _, _, _, _, .cons _ .nil, .cons _ (.cons _ (.cons _ _)) => .nil
/-- an error class with one attribute -/
structure ErrC (P : Program) (w : World) (K : PySem.W.Frag) (mg : Str → Option Value) (base : Heap) (b : XB) (x f : Str) (C : Addr) : Prop where
  T : XcC b K C
  hm : mg x = some (.ref C)
  no : findIn K (.ref C) f = some none
  ini : ∃ (fI : Addr) (fd : FuncData), findIn K (.ref C) "__init__" = some (some (.ref fI)) ∧ typeIn K (.ref fI) = some (.type "function") ∧ FnOk P w K mg base CX0 1 fI fd ["self", f] (spX1 b K f) ∧
    KBinds K fd ["self", f] [] (fun us _ => us) (fun vs _ => vs) ∧ KBinds K fd ["self", f] [f] kw1 kw1
/-- what an error's making asks: nothing, and gives the new error -/
def tE (C : Addr) (f : Str) (te : TE) : TE := fun σ H Q => te σ H fun y H1 => ∀ a H2, H1 a = none → Same H1 H2 → XO H2 a C [(f, y)] → Q (.ref a) H2
theorem same_mk {H : Hp} {a d C : Addr} {f : Str} {y : V} (ha : H a = none) (hd : upd H a (exo a C none) d = none) (ne : d ≠ a) : Same H (upd (upd (upd H a (exo a C none)) d (exd d [(f, y)])) a (exo a C (some d))) := fun c o e => by
  have hca : c ≠ a := ne_of_none e ha
  have hcd : c ≠ d := fun z => by
    rw [z] at e
    rw [upd_ne ne] at hd
    rw [hd] at e
    cases e
  rw [upd_ne hca, upd_ne hcd, upd_ne hca]
  exact e
/-- two attributes (f first), as the newest first -/
theorem same_mk2 {H : Hp} {a d C : Addr} {f g : Str} {y z : V} (ha : H a = none) (hd : upd H a (exo a C none) d = none) (ne : d ≠ a) :
    Same H (upd (upd (upd (upd H a (exo a C none)) d (exd d [(f, y)])) a (exo a C (some d))) d (exd d [(g, z), (f, y)])) := fun c o e => by
  have hcd : c ≠ d := fun z => by
    rw [z] at e
    rw [upd_ne ne] at hd
    rw [hd] at e
    cases e
  rw [upd_ne hcd]
  exact same_mk ha hd ne c o e
/-- an error class with two attributes -/
structure ErrC2 (P : Program) (w : World) (K : PySem.W.Frag) (mg : Str → Option Value) (base : Heap) (b : XB) (x f g : Str) (C : Addr) : Prop where
  T : XcC b K C
  hm : mg x = some (.ref C)
  no : findIn K (.ref C) f = some none
  no2 : findIn K (.ref C) g = some none
  ini : ∃ (fI : Addr) (fd : FuncData), findIn K (.ref C) "__init__" = some (some (.ref fI)) ∧ typeIn K (.ref fI) = some (.type "function") ∧ FnOk P w K mg base CX0 1 fI fd ["self", f, g] (spX2 b K f g) ∧
    KBinds K fd ["self", f, g] [] (fun us _ => us) (fun vs _ => vs) ∧ KBinds K fd ["self", f, g] [g, f] kw2 kw2
def one1 (A : V → Hp → Prop) : List V → Hp → Prop
  | [y], H => A y H
  | _, _ => False
def one2 (A : V → V → Hp → Prop) : List V → Hp → Prop
  | [y, z], H => A y z H
  | _, _ => False
def tE2 (C : Addr) (f g : Str) (te tz : TE) : TE := fun σ H Q => te σ H fun y H1 => tz σ H1 fun z H2 => ∀ a H3, H2 a = none → Same H2 H3 → XO H3 a C [(g, z), (f, y)] → Q (.ref a) H3
/-- the same, by keywords g = .., f = .. -/
def tE2r (C : Addr) (f g : Str) (tz te : TE) : TE := fun σ H Q => tz σ H fun z H1 => te σ H1 fun y H2 => ∀ a H3, H2 a = none → Same H2 H3 → XO H3 a C [(g, z), (f, y)] → Q (.ref a) H3
section
variable {b : XB} {X : Cx} {e e2 : Expr} {te tz : TE} {f g x : Str} {p p' kp kp2 pos : Pos} {C : Addr} {k : Nat}
theorem err_end {pins : List (Addr × Obj)} {σ : L2.St} {H : Hp} {Q : VK} {y : V} (T : ErrC X.prog X.w X.K X.mg X.base b x f C) (h : ∀ a H2, H a = none → Same H H2 → XO H2 a C [(f, y)] → Q (.ref a) H2) :
    ∀ a, H a = none → spX1 b X.K f [.ref a, y] (upd H a (exo a C none)) (fun v H3 => v = .non ∧ Q (.ref a) H3) (fun _ _ _ => False) := fun a ha =>
  ⟨a, C, y, rfl, T.T, T.no, upd_same, fun d hd ne => ⟨rfl, h a _ ha (same_mk ha hd ne) ⟨d, upd_same, (upd_ne ne).trans upd_same⟩⟩⟩
theorem pe_err (T : ErrC X.prog X.w X.K X.mg X.base b x f C) (hr : Room 2 X.A) (hg : Gl X x) (he : PE X e te)
    (hdb : (x == ("__debug__" : Str)) = false := by decide) (h1 : starEach [e] X.env = (false, eval e X.env) :: starEach [] X.env := by rfl)
    (h2 : (backTo pos (starEach [] X.env)).any (·.1) = false := by rfl) :
    PE X (.Call (.Name x p) [e] [] pos) (tE C f te) := by
  obtain ⟨fI, fd, i1, i2, F, kb, _⟩ := T.ini
  refine ⟨fun pins s σ H Q I h => wpAny_Call_Name_kw (ld_glob I hg T.hm ?_ hdb)⟩
  refine callWith_K (h₀ := X.base) I.ok.mod.kin T.T.kC (thn ((pa_cons he pa_nil h1).run pos pins s σ H (one1 fun y H1 => ∀ a H2, H1 a = none → Same H1 H2 → XO H2 a C [(f, y)] → Q (.ref a) H2) I h) fun us s1 z => ?_) h1 h2
  obtain ⟨vs, H1, I1, r1, q1⟩ := z
  match vs, q1 with
  | [y], q1 => exact ⟨I1.kIn, xmk_run (ks := []) (ws := []) T.T i1 i2 F hr kb pass0 I1 r1 .nil (by show 1 ≤ 1000; omega) (err_end (pins := pins) (σ := σ) T q1)⟩
/-- C(f = e) -/
theorem pe_errK (T : ErrC X.prog X.w X.K X.mg X.base b x f C) (hr : Room 2 X.A) (hg : Gl X x) (he : PE X e te)
    (hdb : (x == ("__debug__" : Str)) = false := by decide) (hall : (backToKw pos (keywordEach [⟨some f, e, kp⟩] X.env)).all (·.1.isSome) = true := by rfl)
    (hks : (backToKw pos (keywordEach [⟨some f, e, kp⟩] X.env)).filterMap (·.1) = [f] := by rfl)
    (hpl : ((backTo pos (starEach [] X.env)).any (·.1) || (backToKw pos (keywordEach [⟨some f, e, kp⟩] X.env)).any (·.1.isNone)) = false := by rfl) :
    PE X (.Call (.Name x p) [] [⟨some f, e, kp⟩] pos) (tE C f te) := by
  obtain ⟨fI, fd, i1, i2, F, _, kb⟩ := T.ini
  refine ⟨fun pins s σ H Q I h => wpAny_Call_Name_kw (ld_glob I hg T.hm ?_ hdb)⟩
  refine callWith_KW0 (h₀ := X.base) I.ok.mod.kin T.T.kC hall ?_ hpl
  refine thn ((pk_cons he pk_nil).run pos pins s σ H (one1 fun y H1 => ∀ a H2, H1 a = none → Same H1 H2 → XO H2 a C [(f, y)] → Q (.ref a) H2) I h) fun ws s1 z => ?_
  obtain ⟨vs, H1, I1, r1, q1⟩ := z
  rw [hks]
  match vs, q1 with
  | [y], q1 => exact ⟨I1.kIn, xmk_run (us := []) (vs := []) T.T i1 i2 F hr kb pass0 I1 .nil r1 (by show 0 ≤ 1000; omega) (err_end (pins := pins) (σ := σ) T q1)⟩
theorem err_end2 {pins : List (Addr × Obj)} {σ : L2.St} {H : Hp} {Q : VK} {y z : V} (T : ErrC2 X.prog X.w X.K X.mg X.base b x f g C) (h : ∀ a H2, H a = none → Same H H2 → XO H2 a C [(g, z), (f, y)] → Q (.ref a) H2) :
    ∀ a, H a = none → spX2 b X.K f g [.ref a, y, z] (upd H a (exo a C none)) (fun v H3 => v = .non ∧ Q (.ref a) H3) (fun _ _ _ => False) := fun a ha =>
  ⟨a, C, y, z, rfl, T.T, T.no, T.no2, upd_same, fun d hd ne => ⟨rfl, h a _ ha (same_mk2 ha hd ne) ⟨d, (upd_ne ne.symm).trans upd_same, upd_same⟩⟩⟩
/-- C(e, e2) -/
theorem pe_err2 (T : ErrC2 X.prog X.w X.K X.mg X.base b x f g C) (hr : Room 2 X.A) (hg : Gl X x) (he : PE X e te) (hz : PE X e2 tz)
    (hdb : (x == ("__debug__" : Str)) = false := by decide) (h1 : starEach [e, e2] X.env = (false, eval e X.env) :: starEach [e2] X.env := by rfl) (h0 : starEach [e2] X.env = (false, eval e2 X.env) :: starEach [] X.env := by rfl)
    (h2 : (backTo pos (starEach [e2] X.env)).any (·.1) = false := by rfl) :
    PE X (.Call (.Name x p) [e, e2] [] pos) (tE2 C f g te tz) := by
  obtain ⟨fI, fd, i1, i2, F, kb, _⟩ := T.ini
  refine ⟨fun pins s σ H Q I h => wpAny_Call_Name_kw (ld_glob I hg T.hm ?_ hdb)⟩
  refine callWith_K (h₀ := X.base) I.ok.mod.kin T.T.kC (thn ((pa_cons he (pa_cons hz pa_nil h0) h1).run pos pins s σ H (one2 fun y z H1 => ∀ a H2, H1 a = none → Same H1 H2 → XO H2 a C [(g, z), (f, y)] → Q (.ref a) H2) I h) fun us s1 z => ?_) h1 h2
  obtain ⟨vs, H1, I1, r1, q1⟩ := z
  match vs, q1 with
  | [y, z], q1 => exact ⟨I1.kIn, xmk_run (ks := []) (ws := []) T.T i1 i2 F hr kb pass0 I1 r1 .nil (by show 2 ≤ 1000; omega) (err_end2 (pins := pins) (σ := σ) T q1)⟩
/-- C(g = e2, f = e) -/
theorem pe_err2K (T : ErrC2 X.prog X.w X.K X.mg X.base b x f g C) (hr : Room 2 X.A) (hg : Gl X x) (hz : PE X e2 tz) (he : PE X e te)
    (hdb : (x == ("__debug__" : Str)) = false := by decide) (hall : (backToKw pos (keywordEach [⟨some g, e2, kp⟩, ⟨some f, e, kp2⟩] X.env)).all (·.1.isSome) = true := by rfl)
    (hks : (backToKw pos (keywordEach [⟨some g, e2, kp⟩, ⟨some f, e, kp2⟩] X.env)).filterMap (·.1) = [g, f] := by rfl)
    (hpl : ((backTo pos (starEach [] X.env)).any (·.1) || (backToKw pos (keywordEach [⟨some g, e2, kp⟩, ⟨some f, e, kp2⟩] X.env)).any (·.1.isNone)) = false := by rfl) :
    PE X (.Call (.Name x p) [] [⟨some g, e2, kp⟩, ⟨some f, e, kp2⟩] pos) (tE2r C f g tz te) := by
  obtain ⟨fI, fd, i1, i2, F, _, kb⟩ := T.ini
  refine ⟨fun pins s σ H Q I h => wpAny_Call_Name_kw (ld_glob I hg T.hm ?_ hdb)⟩
  refine callWith_KW0 (h₀ := X.base) I.ok.mod.kin T.T.kC hall ?_ hpl
  refine thn ((pk_cons hz (pk_cons he pk_nil)).run pos pins s σ H (one2 fun z y H1 => ∀ a H2, H1 a = none → Same H1 H2 → XO H2 a C [(g, z), (f, y)] → Q (.ref a) H2) I h) fun ws s1 zz => ?_
  obtain ⟨vs, H1, I1, r1, q1⟩ := zz
  rw [hks]
  match vs, q1 with
  | [z, y], q1 => exact ⟨I1.kIn, xmk_run (us := []) (vs := []) T.T i1 i2 F hr kb pass0 I1 .nil r1 (by show 0 ≤ 1000; omega) (err_end2 (pins := pins) (σ := σ) T q1)⟩
end
end Vx
/-! ## G8 -/
set_option Elab.async false
set_option linter.all false
set_option maxRecDepth 100000
set_option maxHeartbeats 4000000
namespace Vx
open PySem PySem.Spec PyProof.Rows L2 He
open PySem.W PySem.Calls PySem.Builtin.ObjectAttr

/-! ### the errors' facts, read off the head -/
def xcB (b : XB) (K : PySem.W.Frag) (C : Addr) : Bool :=
  excInitIn K C b.bm b.nw && (hasDictIn K C && (eqO (findIn K (.ref C) "__setattr__") (some (some (.builtin "object.__setattr__"))) && (decide (subIn K (.ref C) (.type "BaseException") = some true) &&
    (decide (typeIn K (.ref C) = some (.type "type")) && (keepIn K (.ref C) && (eqO (findIn K (.ref C) "__getattribute__") (some (some (.builtin "BaseException.__getattribute__"))) &&
      (eqO (findIn K (.ref C) "__getattr__") (some none) && (eqO (findIn K (.ref C) "__class__") (some (some (.builtin "object.__class__"))) && decide (mroIn K C (.type "object") = some true)))))))))
theorem xcB_ok {b : XB} {K : PySem.W.Frag} {C : Addr} (h : xcB b K C = true) : XcC b K C := by
  obtain ⟨h1, h⟩ := ba h
  obtain ⟨h2, h⟩ := ba h
  obtain ⟨h3, h⟩ := ba h
  obtain ⟨h4, h⟩ := ba h
  obtain ⟨h5, h⟩ := ba h
  obtain ⟨h6, h⟩ := ba h
  obtain ⟨h7, h⟩ := ba h
  obtain ⟨h8, h⟩ := ba h
  obtain ⟨h9, h10⟩ := ba h
  refine ⟨?_, eqO_ok h3, of_decide_eq_true h4, of_decide_eq_true h5, h6, eqO_ok h7, eqO_ok h8, h2, eqO_ok h9, of_decide_eq_true h10⟩
  unfold excInitIn at h1
  split at h1
  · rename_i dd cd sl ho
    split at h1
    · rename_i C' bm k0 k1 k2 k3 n k5 hm hs
      simp only [Bool.and_eq_true, beq_iff_eq, Bool.not_eq_true'] at h1
      obtain ⟨⟨⟨rfl, rfl⟩, hdel⟩, ht⟩ := h1
      obtain ⟨cd', hc, hhd⟩ := any_some h2
      have e0 : cd' = cd := by
        unfold clsIn at hc
        rw [ho] at hc
        exact (Option.some.inj hc).symm
      subst e0
      obtain ⟨nm, bs, mro, ns, qn, hd, sn, sub, ab, col, del⟩ := cd'
      dsimp only at hm hdel hhd
      subst hm hdel hhd
      have e1 : sl = #[k0, k1, k2, k3, some (.builtin b.nw), k5] := by
        obtain ⟨l⟩ := sl
        simp only at hs
        rw [hs]
      subst e1
      exact ⟨nm, qn, ns, bs, bm, sn, sub, ab, col, dd, k0, k1, k2, k3, k5, ho, ht⟩
    · cases h1
  · cases h1
def xgB (K : PySem.W.Frag) : Bool := decide (specialIn K (.builtin "object.__class__") "__get__" = some (some (.builtin "getset_descriptor.__get__"))) && decide (takesIn K (.builtin "object.__class__") = some true)
theorem xgB_ok {K : PySem.W.Frag} (h : xgB K = true) : XcG K := by
  obtain ⟨h1, h2⟩ := ba h
  exact ⟨of_decide_eq_true h1, of_decide_eq_true h2⟩
/-- one class of the errors: its name, its attribute (or two) -/
structure EC where
  x : Str
  b : XB
  f : Str := ""
  g : Str := ""
def EC.ok (K : PySem.W.Frag) (c : EC) : Bool := xcB c.b K (ga K c.x) && (eqO (nsIn K mainGlobals c.x) (some (some (.ref (ga K c.x)))) && (eqO (findIn K (.ref (ga K c.x)) c.f) (some none) && (eqO (findIn K (.ref (ga K c.x)) c.g) (some none) &&
  (eqO (findIn K (.ref (ga K c.x)) "__init__") (some (some (.ref (ma K (ga K c.x) "__init__")))) && decide (typeIn K (.ref (ma K (ga K c.x) "__init__")) = some (.type "function"))))))
/-- a class without an __init__ -/
def EC.ok0 (K : PySem.W.Frag) (c : EC) : Bool := xcB c.b K (ga K c.x) && (eqO (nsIn K mainGlobals c.x) (some (some (.ref (ga K c.x)))) && excIn K (ga K c.x) c.b.bm c.b.nw)
/-- isinstance among the classes: an error of the i-th one is just of that one -/
def isB (K : PySem.W.Frag) (cs : List Str) (x : Str) (d : Nat) (i : Nat) : List Str → Bool
  | [] => true
  | y :: r => decide (kitOne K (.ref (ga K x)) (.ref (ga K y)) = some (decide (i = d))) && isB K cs x d (i + 1) r
def isAll (K : PySem.W.Frag) (cs : List Str) (d : Nat) : List Str → Bool
  | [] => true
  | x :: r => isB K cs x d 0 cs && isAll K cs (d + 1) r

/-! ### the hook: the house's own, and one Bool besides -/
abbrev AlX : Type := Bool × AlD
def hookX (n : Nat) (xb : PySem.W.Frag → Bool) (fa : List Fa) (fn : List DefD) : PySem.W.Hook where
  α := AlX
  obs := fun s => (xb (frG s.heap.get? (asD s.heap.get? n)), obsDG n fa fn s.heap.get?)
  val := fun _ => (true, valD fn)
  says := fun _ h => ∃ K : PySem.W.Frag, K.In h ∧ xb K = true ∧ SaysD fa fn K
  of := fun _ _ e => ⟨_, frG_in, congrArg (fun z : AlX => z.1) e, congrArg (fun z : AlX => z.2) e⟩
  keeps := fun _ _ _ ⟨K, hK, c⟩ k => ⟨K, PySem.W.Frag.In.keeps hK k, c⟩
def obX (n : Nat) (xb : PySem.W.Frag → Bool) (fa : List Fa) (fn : List DefD) (s : PySem.W.SharedT) : AlX :=
  (xb (frG (HandSHeadRun.getT s) (asD (HandSHeadRun.getT s) n)), obsDG n fa fn (HandSHeadRun.getT s))
theorem obX_eq {n : Nat} {xb : PySem.W.Frag → Bool} {fa : List Fa} {fn : List DefD} (s : PySem.W.SharedT) : obX n xb fa fn s = (hookX n xb fa fn).obs s.abs := by
  have e : HandSHeadRun.getT s = s.abs.heap.get? := funext fun a => HandSHeadRun.getT_eq s a
  unfold obX
  rw [e]
  rfl

section
variable {P : Program} {w : World} {K : PySem.W.Frag} {mg : Str → Option Value} {base h : Heap} {fd : FuncData}
theorem dfl_none {dV : Value} (h : DflV K dV []) : dV = .none := by
  rcases h with ⟨_, z⟩ | ⟨z, _⟩
  · exact z
  · exact absurd rfl z
theorem errC_of (X : K.In h) (G : h.Ns mainGlobals mg) {c : EC} (o : c.ok K = true) {qual : Str} {params : Arguments} {body : List Stmt} {scope : Scope} (F : FunD K "__init__" qual params body scope [] [] (ma K (ga K c.x) "__init__") fd)
    (B : Init1 c.f body) (S : FnScope ["self", c.f] ["self", c.f] scope) (l1 : scope.names.lookup ("self" : Str) = some .local) (l2 : scope.names.lookup c.f = some .local)
    (e1 : (c.f == ("__debug__" : Str)) = false) (e2 : (c.f == ("__classdict__" : Str)) = false)
    (hb : ∀ (kV doc pm : Value) (an : Option Addr) (cdv ct u v : Value), bindArgs (PySem.W.fnOf "__init__" qual params body scope .none kV doc pm an cdv ct) ⟨[u, v], []⟩ = pure ((["self", c.f] : List Str).zip [u, v]))
    (hk : ∀ (kV doc pm : Value) (an : Option Addr) (cdv ct u v : Value), bindArgs (PySem.W.fnOf "__init__" qual params body scope .none kV doc pm an cdv ct) ⟨[u], [(c.f, v)]⟩ = pure ((["self", c.f] : List Str).zip [u, v])) :
    ErrC P w K mg base c.b c.x c.f (ga K c.x) := by
  obtain ⟨h1, o⟩ := ba o
  obtain ⟨h2, o⟩ := ba o
  obtain ⟨h3, o⟩ := ba o
  obtain ⟨h4, o⟩ := ba o
  obtain ⟨h5, h6⟩ := ba o
  refine ⟨xcB_ok h1, PySem.W.mg_of X G (eqO_ok h2), eqO_ok h3, _, fd, eqO_ok h5, of_decide_eq_true h6, ok_init1 F B S l1 l2 e1 e2, ?_, ?_⟩
  all_goals obtain ⟨⟨oc, od, dV, kV, doc, pm, an, cdv, ct, osl, e, lk, hc, hD, _⟩, kp⟩ := F
  all_goals have e0 := dfl_none hD
  all_goals subst e0 e
  · exact ⟨fun s us ws _ hl => match us, hl with
      | [u, v], _ => .of_eq (hb kV doc pm an cdv ct u v), fun r _ => r⟩
  · refine ⟨fun s us ws _ hl => ?_, kw1_rel⟩
    match us, ws, hl with
    | [u], [v], _ => exact .of_eq (hk kV doc pm an cdv ct u v)
theorem errC2_of (X : K.In h) (G : h.Ns mainGlobals mg) {c : EC} (o : c.ok K = true) {qual : Str} {params : Arguments} {body : List Stmt} {scope : Scope} (F : FunD K "__init__" qual params body scope [] [] (ma K (ga K c.x) "__init__") fd)
    (B : Init2 c.f c.g body) (S : FnScope ["self", c.f, c.g] ["self", c.f, c.g] scope) (l1 : scope.names.lookup ("self" : Str) = some .local) (l2 : scope.names.lookup c.f = some .local) (l3 : scope.names.lookup c.g = some .local)
    (e1 : (c.f == ("__debug__" : Str)) = false) (e2 : (c.f == ("__classdict__" : Str)) = false) (e3 : (c.g == ("__debug__" : Str)) = false) (e4 : (c.g == ("__classdict__" : Str)) = false)
    (hb : ∀ (kV doc pm : Value) (an : Option Addr) (cdv ct u v z : Value), bindArgs (PySem.W.fnOf "__init__" qual params body scope .none kV doc pm an cdv ct) ⟨[u, v, z], []⟩ = pure ((["self", c.f, c.g] : List Str).zip [u, v, z]))
    (hk : ∀ (kV doc pm : Value) (an : Option Addr) (cdv ct u v z : Value), bindArgs (PySem.W.fnOf "__init__" qual params body scope .none kV doc pm an cdv ct) ⟨[u], [(c.g, z), (c.f, v)]⟩ = pure ((["self", c.f, c.g] : List Str).zip [u, v, z])) :
    ErrC2 P w K mg base c.b c.x c.f c.g (ga K c.x) := by
  obtain ⟨h1, o⟩ := ba o
  obtain ⟨h2, o⟩ := ba o
  obtain ⟨h3, o⟩ := ba o
  obtain ⟨h4, o⟩ := ba o
  obtain ⟨h5, h6⟩ := ba o
  refine ⟨xcB_ok h1, PySem.W.mg_of X G (eqO_ok h2), eqO_ok h3, eqO_ok h4, _, fd, eqO_ok h5, of_decide_eq_true h6, ok_init2 F B S l1 l2 l3 e1 e2 e3 e4, ?_, ?_⟩
  all_goals obtain ⟨⟨oc, od, dV, kV, doc, pm, an, cdv, ct, osl, e, lk, hc, hD, _⟩, kp⟩ := F
  all_goals have e0 := dfl_none hD
  all_goals subst e0 e
  · exact ⟨fun s us ws _ hl => match us, hl with
      | [u, v, z], _ => .of_eq (hb kV doc pm an cdv ct u v z), fun r _ => r⟩
  · refine ⟨fun s us ws _ hl => ?_, kw2_rel⟩
    match us, ws, hl with
    | [u], [z, v], _ => exact .of_eq (hk kV doc pm an cdv ct u v z)
theorem isB_ok {cs : List Str} {x : Str} {d : Nat} : ∀ {l : List Str} {i j : Nat} {y : Str}, isB K cs x d i l = true → l[j]? = some y → kitOne K (.ref (ga K x)) (.ref (ga K y)) = some (decide (i + j = d))
  | [], _, _, _, _, e => by simp at e
  | z :: l, i, 0, y, h, e => by
    simp at e
    subst e
    exact of_decide_eq_true (ba h).1
  | z :: l, i, j + 1, y, h, e => by
    have q := isB_ok (j := j) (ba h).2 (by simpa using e)
    rw [show i + (j + 1) = i + 1 + j by omega]
    exact q
theorem isAll_ok {cs : List Str} : ∀ {l : List Str} {d i : Nat} {x : Str}, isAll K cs d l = true → l[i]? = some x → ∀ {j : Nat} {y : Str}, cs[j]? = some y → kitOne K (.ref (ga K x)) (.ref (ga K y)) = some (decide (j = d + i))
  | [], _, _, _, _, e, _, _, _ => by simp at e
  | z :: l, d, 0, x, h, e, j, y, e2 => by
    simp at e
    subst e
    have q := isB_ok (ba h).1 e2
    rw [Nat.zero_add] at q
    exact q
  | z :: l, d, i + 1, x, h, e, j, y, e2 => by
    have q := isAll_ok (i := i) (ba h).2 (by simpa using e) e2
    rw [show d + (i + 1) = d + 1 + i by omega]
    exact q
end
end Vx
/-! ## G9 -/
set_option Elab.async false
set_option linter.all false
set_option maxRecDepth 100000
set_option maxHeartbeats 4000000
namespace Vx
open PySem PySem.Spec PyProof.Rows L2 He
open PySem.W PySem.Calls
/-- the pot at p: two counts -/
def Pot (p : Addr) (H : Hp) : Prop := ∃ a b : Int, H p = some (.lst [.int a, .int b]) ∧ 0 ≤ a ∧ 0 ≤ b ∧ b < 2147483648
/-- the heap without the pot -/
def off (p : Addr) (H : Hp) : Hp := fun b => if b = p then none else H b
theorem off_ne {p a : Addr} {H : Hp} (h : a ≠ p) : off p H a = H a := if_neg h
theorem off_at {p : Addr} {H : Hp} : off p H p = none := if_pos rfl
theorem off_some {p a : Addr} {H : Hp} {o : HO} (h : off p H a = some o) : a ≠ p ∧ H a = some o := by
  by_cases e : a = p
  · rw [e, off_at] at h
    cases h
  · rw [off_ne e] at h
    exact ⟨e, h⟩
theorem off_same {p : Addr} {H : Hp} : Same (off p H) H := fun a o h => (off_some h).2
/-- all but the pot is kept, and the pot is one -/
structure Stp (p : Addr) (H H' : Hp) : Prop where
  pot : Pot p H'
  k : Same (off p H) (off p H')
theorem same_off {p : Addr} {H H' : Hp} (h : Same H H') : Same (off p H) (off p H') := fun a o e => by
  obtain ⟨n, e⟩ := off_some e
  rw [off_ne n]
  exact h a o e
theorem Pot.keep {p : Addr} {H H' : Hp} (h : Pot p H) (s : Same H H') : Pot p H' := by
  obtain ⟨a, b, e, r⟩ := h
  exact ⟨a, b, s _ _ e, r⟩
theorem Stp.refl {p : Addr} {H : Hp} (h : Pot p H) : Stp p H H := ⟨h, Same.refl _⟩
theorem Stp.trans {p : Addr} {H H1 H2 : Hp} (a : Stp p H H1) (b : Stp p H1 H2) : Stp p H H2 := ⟨b.pot, a.k.trans b.k⟩
theorem Stp.same {p : Addr} {H H1 H2 : Hp} (a : Stp p H H1) (b : Same H1 H2) : Stp p H H2 := ⟨a.pot.keep b, a.k.trans (same_off b)⟩
theorem same_new {H : Hp} {a : Addr} {o : HO} (h : H a = none) : Same H (upd H a o) := fun b u e => by
  rw [upd_ne (ne_of_none e h)]
  exact e
/-- what is written at the pot -/
theorem Stp.put {p : Addr} {H H1 : Hp} {a b : Int} (s : Same (off p H) (off p H1)) (h0 : 0 ≤ a) (h1 : 0 ≤ b) (h2 : b < 2147483648) : Stp p H (upd H1 p (.lst [.int a, .int b])) :=
  ⟨⟨a, b, upd_same, h0, h1, h2⟩, fun c o e => by
    have q := s c o e
    obtain ⟨n, q⟩ := off_some q
    rw [off_ne n, upd_ne n]
    exact q⟩

theorem log2_small {n : Int} (h1 : 1 ≤ n) (h2 : n < 2 ^ 200) : n.natAbs.log2 < 9000 := by
  have h3 : n.natAbs < 2 ^ 200 := by omega
  exact Nat.lt_of_lt_of_le (PySem.Flt.log2_lt_of (by decide) h3) (by decide)

/-! ### a def of the text, as its callers see it -/
/-- the built-ins' names are free -/
structure BI (mg : Str → Option Value) : Prop where
  abs : mg "abs" = none
  max : mg "max" = none
  min : mg "min" = none
  int : mg "int" = none
  str : mg "str" = none
  len : mg "len" = none
  divmod : mg "divmod" = none
  isinstance : mg "isinstance" = none
  repr : mg "repr" = none
  all : mg "all" = none
  any : mg "any" = none
  sorted : mg "sorted" = none
  set : mg "set" = none
  list : mg "list" = none
  tuple : mg "tuple" = none
  dict : mg "dict" = none
  range : mg "range" = none
  enumerate : mg "enumerate" = none
  zip : mg "zip" = none
  sum : mg "sum" = none
  bool : mg "bool" = none
  reversed : mg "reversed" = none
  ValueError : mg "ValueError" = none
  LookupError : mg "LookupError" = none
  RuntimeError : mg "RuntimeError" = none
  ArithmeticError : mg "ArithmeticError" = none
/-- their facts, in that order -/
def biFa : List Fa := [.free "abs", .free "max", .free "min", .free "int", .free "str", .free "len", .free "divmod", .free "isinstance", .free "repr", .free "all", .free "any", .free "sorted", .free "set", .free "list", .free "tuple", .free "dict", .free "range", .free "enumerate", .free "zip", .free "sum", .free "bool", .free "reversed", .free "ValueError", .free "LookupError", .free "RuntimeError", .free "ArithmeticError"]
theorem bi_of {K : PySem.W.Frag} {mg : Str → Option Value} {h : Heap} (X : K.In h) (G : h.Ns mainGlobals mg) (c : ∀ (i : Nat) (f : Fa), biFa[i]? = some f → f.ok K = true) : BI mg :=
  ⟨free_ok X G (c 0 _ rfl), free_ok X G (c 1 _ rfl), free_ok X G (c 2 _ rfl), free_ok X G (c 3 _ rfl), free_ok X G (c 4 _ rfl), free_ok X G (c 5 _ rfl), free_ok X G (c 6 _ rfl), free_ok X G (c 7 _ rfl), free_ok X G (c 8 _ rfl), free_ok X G (c 9 _ rfl), free_ok X G (c 10 _ rfl), free_ok X G (c 11 _ rfl), free_ok X G (c 12 _ rfl), free_ok X G (c 13 _ rfl), free_ok X G (c 14 _ rfl), free_ok X G (c 15 _ rfl), free_ok X G (c 16 _ rfl), free_ok X G (c 17 _ rfl), free_ok X G (c 18 _ rfl), free_ok X G (c 19 _ rfl), free_ok X G (c 20 _ rfl), free_ok X G (c 21 _ rfl), free_ok X G (c 22 _ rfl), free_ok X G (c 23 _ rfl), free_ok X G (c 24 _ rfl), free_ok X G (c 25 _ rfl)⟩
theorem bt_abs : bootBuiltins "abs" = some (.builtin "abs") := by decide +kernel
theorem bt_max : bootBuiltins "max" = some (.builtin "max") := by decide +kernel
theorem bt_min : bootBuiltins "min" = some (.builtin "min") := by decide +kernel
theorem bt_len : bootBuiltins "len" = some (.builtin "len") := by decide +kernel
theorem bt_divmod : bootBuiltins "divmod" = some (.builtin "divmod") := by decide +kernel
theorem bt_isinstance : bootBuiltins "isinstance" = some (.builtin "isinstance") := by decide +kernel
theorem bt_repr : bootBuiltins "repr" = some (.builtin "repr") := by decide +kernel
theorem bt_all : bootBuiltins "all" = some (.builtin "all") := by decide +kernel
theorem bt_any : bootBuiltins "any" = some (.builtin "any") := by decide +kernel
theorem bt_sorted : bootBuiltins "sorted" = some (.builtin "sorted") := by decide +kernel
theorem bt_sum : bootBuiltins "sum" = some (.builtin "sum") := by decide +kernel
theorem bt_int : bootBuiltins "int" = some (.type "int") := by decide +kernel
theorem bt_str : bootBuiltins "str" = some (.type "str") := by decide +kernel
theorem bt_set : bootBuiltins "set" = some (.type "set") := by decide +kernel
theorem bt_list : bootBuiltins "list" = some (.type "list") := by decide +kernel
theorem bt_tuple : bootBuiltins "tuple" = some (.type "tuple") := by decide +kernel
theorem bt_dict : bootBuiltins "dict" = some (.type "dict") := by decide +kernel
theorem bt_range : bootBuiltins "range" = some (.type "range") := by decide +kernel
theorem bt_enumerate : bootBuiltins "enumerate" = some (.type "enumerate") := by decide +kernel
theorem bt_zip : bootBuiltins "zip" = some (.type "zip") := by decide +kernel
theorem bt_bool : bootBuiltins "bool" = some (.type "bool") := by decide +kernel
theorem bt_reversed : bootBuiltins "reversed" = some (.type "reversed") := by decide +kernel
theorem bt_ValueError : bootBuiltins "ValueError" = some (.type "ValueError") := by decide +kernel
theorem bt_LookupError : bootBuiltins "LookupError" = some (.type "LookupError") := by decide +kernel
theorem bt_RuntimeError : bootBuiltins "RuntimeError" = some (.type "RuntimeError") := by decide +kernel
theorem bt_ArithmeticError : bootBuiltins "ArithmeticError" = some (.type "ArithmeticError") := by decide +kernel
/-- where the def x stands -/
structure At (K : PySem.W.Frag) (mg : Str → Option Value) (x : Str) (st : Stmt) : Prop where
  ex : ∃ (f : Addr) (fd : FuncData), Fun K x x st f fd ∧ mg x = some (.ref f)
/-- the def x, wherever no repr is open: its promise -/
structure Cd (P : Program) (w : World) (K : PySem.W.Frag) (mg : Str → Option Value) (base : Heap) (k : Nat) (x : Str) (ps : List Str) (sp : Sp) : Prop where
  ex : ∃ (f : Addr) (fd : FuncData), FnG P w K mg base CX0 k f fd ps sp ∧ mg x = some (.ref f) ∧ keepIn K (.ref f) = true ∧ Binds K fd ps []
section
variable {P : Program} {w : World} {K : PySem.W.Frag} {mg : Str → Option Value} {base : Heap} {k : Nat} {x : Str} {ps : List Str} {sp : Sp} {st : Stmt} {N : List Str}
theorem cd_mk (F : At K mg x st) (S : FnScope N ps (defScope st)) (len : ∀ vs H Q E, sp vs H Q E → vs.length = ps.length)
    (hb : ∀ (kV doc pm : Value) (an : Option Addr) (cdv ct : Value) (us : List Value), us.length = ps.length → bindArgs (PySem.W.fnOf x x (defArgs st) (defBody st) (defScope st) .none kV doc pm an cdv ct) ⟨us, []⟩ = pure (ps.zip us))
    (hbody : ∀ (f : Addr) (cdv : Value) (A : Around) (outer : List Env) (s : Shared) (H : Hp) (vs : List V) (Q : VK) (E : XK),
      Room k (A.deeper (envOfC x (defScope st) s.heap.objs.size f cdv)) → Gd (A.deeper (envOfC x (defScope st) s.heap.objs.size f cdv)) → sp vs H Q E →
      ∃ t, PSs (cxOf CX0 P w K mg base N x (defScope st) f cdv A outer s H E).nox (defBody st) t ∧ t { nx := fun _ H' => Q .non H', rt := Q } (start N vs) H) :
    Cd P w K mg base (k + 1) x ps sp := by
  obtain ⟨f, fd, F, gf⟩ := F.ex
  refine ⟨f, fd, okG F S len (fun cdv A outer s H vs Q E hr hG h => ?_), gf, F.kp, F.binds hb⟩
  obtain ⟨t, h1, h2⟩ := hbody f cdv A outer s H vs Q E hr hG h
  exact ⟨t, h1.nox, h2⟩
theorem Cd.up {j : Nat} (C : Cd P w K mg base j x ps sp) (h : j ≤ k) : Cd P w K mg base k x ps sp := by
  obtain ⟨f, fd, F, r⟩ := C.ex
  exact ⟨f, fd, F.up h, r⟩
end
section
variable {X : Cx} {k : Nat} {x : Str} {ps : List Str} {sp : Sp} {p pos : Pos} {e : Expr} {es : List Expr} {t : TA}
/-- f(e, ..) -/
theorem pe_cd (C : Cd X.prog X.w X.K X.mg X.base k x ps sp) (hr : Room k X.A) (hG : Gd X.A) (hg : Gl X x) (ha : PA X (e :: es) t)
    (hdb : (x == ("__debug__" : Str)) = false := by decide) (he : starEach (e :: es) X.env = (false, eval e X.env) :: starEach es X.env := by rfl)
    (hpl : (backTo pos (starEach es X.env)).any (·.1) = false := by rfl) : PE X (.Call (.Name x p) (e :: es) [] pos) (tCall sp [] E0 t) := by
  obtain ⟨f, fd, F, gf, kf, b⟩ := C.ex
  exact pe_callG F hr hG hg gf kf b .nil pass0 ha hdb he hpl
end
end Vx
namespace Vx
open PySem PySem.Spec PyProof.Rows L2 He
open PySem.W PySem.Calls
/-! ### data beside a pot -/
section
variable {K : PySem.W.Frag} {p a : Addr} {H H' : Hp} {xs : List V} {ds : List PyData} {o : HO}
theorem Pot.new (h : Pot p H) (n : H a = none) : a ≠ p := by
  obtain ⟨x, y, e, _⟩ := h
  exact (ne_of_none e n).symm
theorem Pot.upd (h : Pot p H) (n : H a = none) : Pot p (upd H a o) := h.keep (same_new n)
theorem stp_new (h : Pot p H) (n : H a = none) : Stp p H (upd H a o) := (Stp.refl h).same (same_new n)
theorem off_new (h : Pot p H) (n : H a = none) : off p (upd H a o) a = some o := by rw [off_ne (h.new n), upd_same]
theorem Da.newL (h : Pot p H) (n : H a = none) (g : Das K (off p H) xs ds) : Da K (off p (upd H a (.lst xs))) (.ref a) (.list ds) :=
  .lst (SqL.of (off_new h n)) (g.mono (stp_new h n).k)
theorem Da.newT (h : Pot p H) (n : H a = none) (g : Das K (off p H) xs ds) : Da K (off p (upd H a (.tup xs))) (.ref a) (.tuple ds) :=
  .tup (SqT.of (off_new h n)) (g.mono (stp_new h n).k)
theorem Das.mem : ∀ {vs : List V} {ds : List PyData} {v : V}, Das K H vs ds → v ∈ vs → ∃ d ∈ ds, Da K H v d
  | _, _, _, .nil, h => nomatch h
  | _, _, v, .cons (d := d) a b, h => by
    rcases List.mem_cons.mp h with rfl | h
    · exact ⟨d, List.mem_cons_self .., a⟩
    · obtain ⟨e, he, r⟩ := Das.mem b h
      exact ⟨e, List.mem_cons_of_mem _ he, r⟩
end
/-- data of a small text -/
def Sm (n : Nat) (d : PyData) : Prop := d.showable = true ∧ d.depth ≤ 20 ∧ d.shown.length ≤ n
/-! ### the helpers of every law: a pot, a draw, a choice -/
def spDraw : Sp := fun vs H Q _ => ∃ (p : Addr) (n : Int), vs = [.ref p, .int n] ∧ Pot p H ∧ 1 ≤ n ∧ n < 2 ^ 200 ∧ ∀ (d : Int) H', Stp p H H' → 0 ≤ d → d < n → Q (.int d) H'
def spPick (K : PySem.W.Frag) : Sp := fun vs H Q _ => ∃ (p m : Addr) (xs : List V), vs = [.ref p, .ref m] ∧ Pot p H ∧ SqL K (off p H) m xs ∧ 1 ≤ xs.length ∧ xs.length ≤ 1000 ∧ ∀ (x : V) H', Stp p H H' → x ∈ xs → Q x H'
def spPot (K : PySem.W.Frag) : Sp := fun vs H Q _ => ∃ (a : Addr) (k : Int) (ns : List Int), vs = [.ref a, .int k] ∧ SqL K H a (ns.map V.int) ∧ 0 ≤ k ∧ k < 1000 ∧ ns.length ≤ 1000 ∧ ∀ p H', H p = none → Same H H' → Pot p H' → Q (.ref p) H'
end Vx
/-! ## G10 -/
set_option Elab.async false
set_option linter.all false
set_option maxRecDepth 100000
set_option maxHeartbeats 4000000
namespace Vx
open PySem PySem.Spec PyProof.Rows L2 He
open PySem.W PySem.Calls

/-- a class without an __init__ of its own -/
structure Err0 (K : PySem.W.Frag) (mg : Str → Option Value) (b : XB) (x : Str) (C : Addr) : Prop where
  T : XcC b K C
  hm : mg x = some (.ref C)
  q : excIn K C b.bm b.nw = true
theorem err0_of {K : PySem.W.Frag} {mg : Str → Option Value} {h : Heap} (X : K.In h) (G : h.Ns mainGlobals mg) {c : EC} (o : c.ok0 K = true) : Err0 K mg c.b c.x (ga K c.x) := by
  obtain ⟨h1, o⟩ := ba o
  obtain ⟨h2, h3⟩ := ba o
  exact ⟨xcB_ok h1, PySem.W.mg_of X G (eqO_ok h2), h3⟩
section
variable {b : XB} {X : Cx} {x : Str} {p pos : Pos} {C : Addr}
theorem pe_err0 (T : Err0 X.K X.mg b x C) (hg : Gl X x) (hdb : (x == ("__debug__" : Str)) = false := by decide) :
    PE X (.Call (.Name x p) [] [] pos) (fun _ H Q => ∀ a, H a = none → Q (.ref a) (upd H a (exo a C none))) := pe_x0 b.F T.q T.hm T.T.kC hg hdb
end

/-! ### lists of errors -/
theorem XO.mono {H H' : Hp} (s : Same H H') {a C : Addr} {fs : List (Str × V)} (h : XO H a C fs) : XO H' a C fs := by
  obtain ⟨d, h1, h2⟩ := h
  exact ⟨d, s _ _ h1, s _ _ h2⟩
theorem XI.mono {H H' : Hp} (s : Same H H') {a C : Addr} (h : XI H a C) : XI H' a C := by
  rcases h with h | ⟨fs, h⟩
  · exact .inl (s _ _ h)
  · exact .inr ⟨fs, h.mono s⟩
/-- at as: errors of these classes, each with y at its attribute -/
abbrev XOs (H : Hp) (y : V) : List Addr → List (Addr × Str) → Prop := Paired fun a p => XO H a p.1 [(p.2, y)]
theorem XOs.mono {H H' : Hp} (s : Same H H') {y : V} : ∀ {as : List Addr} {L : List (Addr × Str)}, XOs H y as L → XOs H' y as L
  | _, _, .nil => .nil
  | _, _, .cons a r => .cons (a.mono s) (XOs.mono s r)
theorem paired_app {α β : Type} {F : α → β → Prop} : ∀ {as bs : List α} {L M : List β}, Paired F as L → Paired F bs M → Paired F (as ++ bs) (L ++ M)
  | _, _, _, _, .nil, h => h
  | _, _, _, _, .cons a r, h => .cons a (paired_app r h)
theorem paired_len {α β : Type} {F : α → β → Prop} : ∀ {as : List α} {L : List β}, Paired F as L → as.length = L.length
  | _, _, .nil => rfl
  | _, _, .cons _ r => by rw [List.length_cons, List.length_cons, paired_len r]
theorem paired_take {α β : Type} {F : α → β → Prop} : ∀ {as : List α} {L : List β} (n : Nat), Paired F as L → Paired F (as.take n) (L.take n)
  | _, _, 0, _ => .nil
  | _, _, _ + 1, .nil => .nil
  | _, _, n + 1, .cons a r => .cons a (paired_take n r)
theorem paired_drop {α β : Type} {F : α → β → Prop} : ∀ {as : List α} {L : List β} (n : Nat), Paired F as L → Paired F (as.drop n) (L.drop n)
  | _, _, 0, h => h
  | _, _, _ + 1, .nil => .nil
  | _, _, n + 1, .cons a r => paired_drop n r
theorem paired_at {α β : Type} {F : α → β → Prop} : ∀ {as : List α} {L : List β} {i : Nat} {a : α}, Paired F as L → as[i]? = some a → ∃ b, L[i]? = some b ∧ F a b
  | _, _, _, _, .nil, e => by simp at e
  | _, _, 0, _, .cons (b := b) h r, e => by
    simp at e
    subst e
    exact ⟨b, rfl, h⟩
  | _, _, i + 1, _, .cons h r, e => by
    obtain ⟨b, h1, h2⟩ := paired_at (i := i) r (by simpa using e)
    exact ⟨b, by simpa using h1, h2⟩
/-- C1(y), C2(y), .. -/
def tErrs : List (Addr × Str) → TA
  | [] => tNil
  | p :: L => tCons (tE p.1 p.2 (tVar 0)) (tErrs L)
section
variable {σ : L2.St} {H : Hp} {y : V}
theorem errs_read : ∀ {L : List (Addr × Str)} {H : Hp} {Q : List V → Hp → Prop}, σ[0]? = some (some y) → (∀ as H', Same H H' → XOs H' y as L → Q (as.map V.ref) H') → tErrs L σ H Q
  | [], H, _, _, q => q [] H (Same.refl _) .nil
  | p :: L, H, Q, h0, q => by
    refine ⟨y, h0, fun a H2 _ s x => ?_⟩
    refine errs_read (L := L) h0 fun as H3 s3 r => ?_
    exact q (a :: as) H3 (s.trans s3) (.cons (x.mono s3) r)
theorem lst_read {L : List (Addr × Str)} {Q : VK} (h0 : σ[0]? = some (some y)) (hl : L.length ≤ 1000)
    (q : ∀ p as H', H p = none → Same H H' → H' p = some (.lst (as.map V.ref)) → XOs H' y as L → Q (.ref p) H') : tLst (tErrs L) σ H Q := by
  refine errs_read h0 fun as H1 s r => ⟨by rw [List.length_map, paired_len r]; exact Nat.le_of_lt (small1000 hl), fun p hp => ?_⟩
  exact q p as _ (s.free hp) (s.trans (same_new hp)) upd_same (r.mono (same_new hp))
theorem cat_read {L M : List (Addr × Str)} {Q : VK} {p0 : Addr} {as : List Addr} (h0 : σ[0]? = some (some y)) (h1 : σ[1]? = some (some (.ref p0))) (hp0 : H p0 = some (.lst (as.map V.ref))) (r0 : XOs H y as M)
    (hl : M.length ≤ 500) (hl2 : L.length ≤ 500) (q : ∀ p bs H', H p = none → Same H H' → H' p = some (.lst (bs.map V.ref)) → XOs H' y bs (M ++ L) → Q (.ref p) H') : tOp rCat (tVar 1) (tLst (tErrs L)) σ H Q := by
  refine ⟨_, h1, lst_read (L := L) h0 (by omega) fun p bs H1 hp s e r => ?_⟩
  refine ⟨p0, p, _, _, rfl, rfl, s _ _ hp0, e, ?_, fun p2 hp2 => ?_⟩
  · have e1 := paired_len r0
    have e2 := paired_len r
    rw [List.length_map, List.length_map]
    exact Nat.le_of_lt (small1000 (by omega))
  · refine q p2 (as ++ bs) _ (s.free hp2) (s.trans (same_new hp2)) ?_ (paired_app (r0.mono (s.trans (same_new hp2))) (r.mono (same_new hp2)))
    rw [upd_same, List.map_append]
theorem asg_lst {L : List (Addr × Str)} {t : TS} {D : Ends} (h0 : σ[0]? = some (some y)) (hl : L.length ≤ 1000)
    (q : ∀ p as H', H p = none → Same H H' → H' p = some (.lst (as.map V.ref)) → XOs H' y as L → t D (σ.set 1 (some (.ref p))) H') : tSeq (tAsg (tLst (tErrs L)) (gName 1)) t D σ H :=
  lst_read (L := L) (Q := fun v H' => t D (σ.set 1 (some v)) H') h0 hl q
theorem asg_cat {L M : List (Addr × Str)} {t : TS} {D : Ends} {p0 : Addr} {as : List Addr} (h0 : σ[0]? = some (some y)) (h1 : σ[1]? = some (some (.ref p0))) (hp0 : H p0 = some (.lst (as.map V.ref))) (r0 : XOs H y as M)
    (hl : M.length ≤ 500) (hl2 : L.length ≤ 500) (q : ∀ p bs H', H p = none → Same H H' → H' p = some (.lst (bs.map V.ref)) → XOs H' y bs (M ++ L) → t D (σ.set 1 (some (.ref p))) H') :
    tSeq (tAsg (tOp rCat (tVar 1) (tLst (tErrs L))) (gName 1)) t D σ H :=
  cat_read (L := L) (Q := fun v H' => t D (σ.set 1 (some v)) H') h0 h1 hp0 r0 hl hl2 q
theorem ret_cat {L M : List (Addr × Str)} {D : Ends} {p0 : Addr} {as : List Addr} (h0 : σ[0]? = some (some y)) (h1 : σ[1]? = some (some (.ref p0))) (hp0 : H p0 = some (.lst (as.map V.ref))) (r0 : XOs H y as M)
    (hl : M.length ≤ 500) (hl2 : L.length ≤ 500) (q : ∀ p bs H', H p = none → Same H H' → H' p = some (.lst (bs.map V.ref)) → XOs H' y bs (M ++ L) → D.rt (.ref p) H') :
    tRet (tOp rCat (tVar 1) (tLst (tErrs L))) D σ H :=
  cat_read (L := L) (Q := D.rt) h0 h1 hp0 r0 hl hl2 q
end
/-- a def that makes errors of its one argument -/
def spErrs (L : List (Addr × Str)) : Sp := fun vs H Q _ => ∃ y, vs = [y] ∧ ∀ p as H', H p = none → Same H H' → H' p = some (.lst (as.map V.ref)) → XOs H' y as L → Q (.ref p) H'
end Vx
/-! ## G11 -/
set_option Elab.async false
set_option linter.all false
set_option maxRecDepth 100000
set_option maxHeartbeats 4000000
namespace Vx
open PySem PySem.Spec PyProof.Rows L2 He
open PySem.W PySem.Calls
/-- a class that isinstance is asked of: an own one, a built-in one -/
inductive CE where
  | own (x : Str)
  | ty (n : String)
def CE.v (K : PySem.W.Frag) : CE → V
  | .own x => .ref (ga K x)
  | .ty n => .ty n
def CE.u (K : PySem.W.Frag) : CE → Value
  | .own x => .ref (ga K x)
  | .ty n => .type n
theorem CE.rel {K : PySem.W.Frag} : ∀ {c : CE} {u : Value}, RelV (c.v K) u → u = c.u K
  | .own _, _, r => r
  | .ty _, _, r => r
/-- isinstance(e, C1), isinstance(e, C2), .. -/
def tIs (K : PySem.W.Frag) : List CE → TA
  | [] => tNil
  | c :: L => tCons (tCB (rIsX K) (tCons (tVar 0) (tCons (tC (c.v K)) tNil))) (tIs K L)
section
variable {K : PySem.W.Frag} {σ : L2.St} {H : Hp} {a C : Addr} {b : XB}
theorem is_read (h0 : σ[0]? = some (some (.ref a))) (hx : XI H a C) (T : XcC b K C) {g : CE → Bool} : ∀ {L : List CE} {Q : List V → Hp → Prop}, (∀ c ∈ L, kitOne K (.ref C) (c.u K) = some (g c)) →
    Q (L.map fun c => V.bl (g c)) H → tIs K L σ H Q
  | [], _, _, q => q
  | c :: L, Q, hg, q => ⟨_, h0, a, C, b, c.v K, c.u K, g c, rfl, hx, T, fun _ r => CE.rel r, hg c (List.mem_cons_self ..), is_read h0 hx T (L := L) (fun d hd => hg d (List.mem_cons_of_mem _ hd)) q⟩
theorem asg_is {L : List CE} {t : TS} {D : Ends} {g : CE → Bool} (h0 : σ[0]? = some (some (.ref a))) (hx : XI H a C) (T : XcC b K C) (hg : ∀ c ∈ L, kitOne K (.ref C) (c.u K) = some (g c)) (hl : L.length ≤ 1000)
    (q : ∀ p H', H p = none → Same H H' → H' p = some (.lst (L.map fun c => V.bl (g c))) → t D (σ.set 1 (some (.ref p))) H') : tSeq (tAsg (tLst (tIs K L)) (gName 1)) t D σ H :=
  is_read h0 hx T (L := L) (Q := fun xs H1 => xs.length ≤ sizeLine ∧ ∀ p, H1 p = none → t D (σ.set 1 (some (.ref p))) (upd H1 p (.lst xs))) hg
    ⟨by rw [List.length_map]; exact Nat.le_of_lt (small1000 hl), fun p hp => q p _ hp (same_new hp) upd_same⟩
theorem cat_is {L M : List CE} {Q : VK} {g : CE → Bool} {p0 : Addr} (h0 : σ[0]? = some (some (.ref a))) (h1 : σ[1]? = some (some (.ref p0))) (e0 : H p0 = some (.lst (M.map fun c => V.bl (g c)))) (hx : XI H a C) (T : XcC b K C)
    (hg : ∀ c ∈ L, kitOne K (.ref C) (c.u K) = some (g c)) (hm : M.length ≤ 500) (hl : L.length ≤ 500)
    (q : ∀ p H', H p = none → Same H H' → H' p = some (.lst ((M ++ L).map fun c => V.bl (g c))) → Q (.ref p) H') : tOp rCat (tVar 1) (tLst (tIs K L)) σ H Q := by
  refine ⟨_, h1, is_read h0 hx T (L := L) hg ⟨by rw [List.length_map]; exact Nat.le_of_lt (small1000 (by omega)), fun p hp => ?_⟩⟩
  refine ⟨p0, p, _, _, rfl, rfl, same_new hp _ _ e0, upd_same, ?_, fun p2 hp2 => ?_⟩
  · rw [List.length_map, List.length_map]
    exact Nat.le_of_lt (small1000 (by omega))
  · refine q p2 _ ((same_new hp).free hp2) ((same_new hp).trans (same_new hp2)) ?_
    rw [upd_same, List.map_append]
theorem asg_catI {L M : List CE} {t : TS} {D : Ends} {g : CE → Bool} {p0 : Addr} (h0 : σ[0]? = some (some (.ref a))) (h1 : σ[1]? = some (some (.ref p0))) (e0 : H p0 = some (.lst (M.map fun c => V.bl (g c)))) (hx : XI H a C) (T : XcC b K C)
    (hg : ∀ c ∈ L, kitOne K (.ref C) (c.u K) = some (g c)) (hm : M.length ≤ 500) (hl : L.length ≤ 500)
    (q : ∀ p H', H p = none → Same H H' → H' p = some (.lst ((M ++ L).map fun c => V.bl (g c))) → t D (σ.set 1 (some (.ref p))) H') : tSeq (tAsg (tOp rCat (tVar 1) (tLst (tIs K L))) (gName 1)) t D σ H :=
  cat_is (Q := fun v H' => t D (σ.set 1 (some v)) H') h0 h1 e0 hx T hg hm hl q
theorem ret_catI {L M : List CE} {D : Ends} {g : CE → Bool} {p0 : Addr} (h0 : σ[0]? = some (some (.ref a))) (h1 : σ[1]? = some (some (.ref p0))) (e0 : H p0 = some (.lst (M.map fun c => V.bl (g c)))) (hx : XI H a C) (T : XcC b K C)
    (hg : ∀ c ∈ L, kitOne K (.ref C) (c.u K) = some (g c)) (hm : M.length ≤ 500) (hl : L.length ≤ 500)
    (q : ∀ p H', H p = none → Same H H' → H' p = some (.lst ((M ++ L).map fun c => V.bl (g c))) → D.rt (.ref p) H') : tRet (tOp rCat (tVar 1) (tLst (tIs K L))) D σ H :=
  cat_is (Q := D.rt) h0 h1 e0 hx T hg hm hl q
end
/-- a def that asks isinstance of these classes -/
def spIs (K : PySem.W.Frag) (L : List CE) : Sp := fun vs H Q _ => ∃ (a C : Addr) (b : XB) (g : CE → Bool), vs = [.ref a] ∧ XI H a C ∧ XcC b K C ∧ (∀ c ∈ L, kitOne K (.ref C) (c.u K) = some (g c)) ∧
  ∀ p H', H p = none → Same H H' → H' p = some (.lst (L.map fun c => V.bl (g c))) → Q (.ref p) H'
end Vx
/-! ## G12 -/
set_option Elab.async false
set_option linter.all false
set_option maxRecDepth 100000
set_option maxHeartbeats 4000000
namespace Vx
open PySem PySem.Spec PyProof.Rows L2 He
open PySem.W PySem.Calls
/-- the classes' attributes are read as they were kept -/
def Rdy (K : PySem.W.Frag) (f : Str) (L : List (Addr × Str)) : Prop := ∀ p ∈ L, p.2 = f ∧ (∃ b, XcC b K p.1) ∧ findIn K (.ref p.1) f = some none
theorem Rdy.app {K : PySem.W.Frag} {f : Str} {L M : List (Addr × Str)} (h : Rdy K f L) (g : Rdy K f M) : Rdy K f (L ++ M) := fun p hp => by
  rcases List.mem_append.mp hp with q | q
  · exact h p q
  · exact g p q
theorem Rdy.sub {K : PySem.W.Frag} {f : Str} {L M : List (Addr × Str)} (h : Rdy K f L) (s : ∀ p ∈ M, p ∈ L) : Rdy K f M := fun p hp => h p (s p hp)
theorem rep_snoc {α : Type} (n : Nat) (y : α) : List.replicate n y ++ [y] = List.replicate (n + 1) y := by
  rw [List.replicate_succ']
/-- e.f, the written part named (within a comprehension) -/
theorem pe_xa {X : Cx} {K : PySem.W.Frag} {n : Str} {e : Expr} {te : TE} {pos : Pos} (he : PE X e te) (hK : X.K = K := by rfl) (hb : attributeBase e n X.env (eval e X.env) = eval e X.env := by rfl) : PE X (.Attribute e n pos) (tXf K n te) := by
  subst hK
  exact pe_xf he hb
section
variable {K : PySem.W.Frag} {σ : L2.St} {H : Hp}
/-- [e.f for e in errors] -/
theorem attr_lc {p : Addr} {as : List Addr} {L : List (Addr × Str)} {y : V} {f : Str} {j : Nat} {vs : List Nat} {Q : VK} (hp : SqL K H p (as.map V.ref)) (r : XOs H y as L) (g : Rdy K f L) (hl : L.length ≤ 1000)
    (hw : ∀ x, wipe ((wipe σ vs).set j (some x)) vs = wipe σ vs) (hj : ∀ x, ((wipe σ vs).set j (some x))[j]? = some (some x))
    (q : ∀ D H', H D = none → Same H H' → H' D = some (.lst (List.replicate as.length y)) → Q (.ref D) H') : tLc (iList K (tC (.ref p))) (gName j) tYes (tXf K f (tVar j)) vs σ H Q := by
  refine ⟨p, rfl, ⟨_, hp⟩, fun D hD => lc_list (K := K) (a := p) (xs := as.map V.ref) (fun i H' => H D = none ∧ Same H H' ∧ H' D = some (.lst (List.replicate i y))) ⟨hD, same_new hD, upd_same⟩
    (fun i H' _ z => z.2.1.seq hp) (fun i x H' hi z => ⟨hw x, ?_⟩) fun H' z => ?_⟩
  · obtain ⟨z1, z2, z3⟩ := z
    rw [List.getElem?_map] at hi
    obtain ⟨a, ha, rfl⟩ := Option.map_eq_some_iff.mp hi
    obtain ⟨c, hc, x⟩ := paired_at r ha
    obtain ⟨rfl, ⟨b, T⟩, no⟩ := g c (List.mem_of_getElem? hc)
    have hi2 : i < L.length := (List.getElem?_eq_some_iff.mp hc).1
    refine ⟨_, hj _, b, a, c.1, _, y, rfl, x.mono z2, T, no, ?_, List.replicate i y, z3, ?_, z1, fun e o he => ?_, ?_⟩
    · rw [lookup_put, if_pos rfl]
    · rw [List.length_replicate]
      exact small1000 (by omega)
    · rw [upd_ne (ne_of_none he z1)]
      exact z2 e o he
    · rw [upd_same, rep_snoc]
  · refine q D H' z.1 z.2.1 ?_
    rw [z.2.2, List.length_map]
end
end Vx
/-! ## G13 -/
set_option Elab.async false
set_option linter.all false
set_option maxRecDepth 100000
set_option maxHeartbeats 4000000
namespace Vx
open PySem PySem.Spec PyProof.Rows L2 He
theorem sIx_nat (n d k : Nat) (h : k ≤ n) : HT.sIx n d (some (k : Int)) = k := by
  rw [HT.sIx_nat, Nat.min_eq_left h]
theorem cut_to {xs : List V} {k : Nat} (h : k ≤ xs.length) : cutV xs none (some (k : Int)) = xs.take k := by
  unfold cutV
  rw [sIx_nat _ _ _ h]
  rfl
theorem cut_from {xs : List V} {k : Nat} (h : k ≤ xs.length) : cutV xs (some (k : Int)) none = xs.drop k := by
  unfold cutV
  rw [sIx_nat _ _ _ h]
  show (xs.drop k).take (xs.length - k) = xs.drop k
  rw [List.take_of_length_le]
  rw [List.length_drop]
  omega
theorem cut_mid {xs : List V} {k m : Nat} (h : k ≤ xs.length) (h2 : m ≤ xs.length) : cutV xs (some (k : Int)) (some (m : Int)) = (xs.drop k).take (m - k) := by
  unfold cutV
  rw [sIx_nat _ _ _ h, sIx_nat _ _ _ h2]
/-! ### one step into a reading -/
section
variable {σ : L2.St} {H : Hp} {D : Ends} {t u : TS} {te ta tb : TE} {i : Nat} {r : R2} {Q : VK} {tc td : TT} {rb : List V → Hp → VK → Prop} {tas : TA} {G : Bool → Hp → Prop}
theorem in_set (h : te σ H fun v H1 => t D (σ.set i (some v)) H1) : tSeq (tAsg te (gName i)) t D σ H := h
theorem in_op (h : ta σ H fun x H1 => tb σ H1 fun y H2 => r x y H2 Q) : tOp r ta tb σ H Q := h
theorem in_ret (h : te σ H D.rt) : tRet te D σ H := h
theorem in_if (h : tc σ H fun b H1 => if b = true then t { D with nx := u D } σ H1 else u D σ H1) : tSeq (tIfS tc t tNext) u D σ H := h
theorem in_or (h : tc σ H fun c H1 => if c = true then G true H1 else td σ H1 G) : tOr tc td σ H G := h
theorem in_test (h : te σ H fun x H' => ∃ k, x = .bl k ∧ G k H') : tTest te σ H G := h
theorem in_cons {QL : List V → Hp → Prop} (h : te σ H fun x H1 => tas σ H1 fun xs H2 => QL (x :: xs) H2) : tCons te tas σ H QL := h
theorem in_cb (h : tas σ H fun vs H1 => rb vs H1 Q) : tCB rb tas σ H Q := h
end
section
variable {K : PySem.W.Frag} {σ : L2.St} {H : Hp}
theorem attr_any {tl : TE} {L : List (Addr × Str)} {y : V} {f : Str} {j : Nat} {vs : List Nat} {Q : VK} (htl : ∀ R : VK, (∀ p as H1, Same H H1 → SqL K H1 p (as.map V.ref) → XOs H1 y as L → R (.ref p) H1) → tl σ H R)
    (g : Rdy K f L) (hl : L.length ≤ 1000) (hw : ∀ x, wipe ((wipe σ vs).set j (some x)) vs = wipe σ vs) (hj : ∀ x, ((wipe σ vs).set j (some x))[j]? = some (some x))
    (q : ∀ D H', H D = none → Same H H' → H' D = some (.lst (List.replicate L.length y)) → Q (.ref D) H') : tLc (iList K tl) (gName j) tYes (tXf K f (tVar j)) vs σ H Q :=
  htl _ fun p as H1 s hp r => attr_lc (Q := Q) hp r g hl hw hj fun D H' n s' e => q D H' (s.free n) (s.trans s') (by rw [e, paired_len r])
theorem attr_v {i : Nat} {p : Addr} {as : List Addr} {L : List (Addr × Str)} {y : V} {f : Str} {j : Nat} {vs : List Nat} {Q : VK} (hv : σ[i]? = some (some (.ref p))) (hp : SqL K H p (as.map V.ref))
    (r : XOs H y as L) (g : Rdy K f L) (hl : L.length ≤ 1000) (hw : ∀ x, wipe ((wipe σ vs).set j (some x)) vs = wipe σ vs) (hj : ∀ x, ((wipe σ vs).set j (some x))[j]? = some (some x))
    (q : ∀ D H', H D = none → Same H H' → H' D = some (.lst (List.replicate L.length y)) → Q (.ref D) H') : tLc (iList K (tVar i)) (gName j) tYes (tXf K f (tVar j)) vs σ H Q :=
  attr_any (fun R k => ⟨_, hv, k p as H (Same.refl H) hp r⟩) g hl hw hj q
end
/-! ### sizes of what is shown -/
theorem shown_sum {N : Nat} : ∀ {ds : List PyData}, (∀ d ∈ ds, Sm N d) → ((PyData.shownAll ds).map (·.length)).sum ≤ ds.length * N ∧ (PyData.shownAll ds).length = ds.length ∧ PyData.showableAll ds = true ∧ PyData.depthAll ds ≤ 20
  | [], _ => ⟨Nat.zero_le _, rfl, rfl, Nat.zero_le _⟩
  | d :: ds, h => by
    obtain ⟨h1, h2, h3, h4⟩ := shown_sum fun e he => h e (List.mem_cons_of_mem _ he)
    obtain ⟨a, b, c⟩ := h d (List.mem_cons_self ..)
    refine ⟨?_, ?_, ?_, ?_⟩
    · show d.shown.length + ((PyData.shownAll ds).map (·.length)).sum ≤ (ds.length + 1) * N
      rw [Nat.add_mul]
      omega
    · show (PyData.shownAll ds).length + 1 = ds.length + 1
      rw [h2]
    · show (d.showable && PyData.showableAll ds) = true
      rw [a, h3]
      rfl
    · show max d.depth (PyData.depthAll ds) ≤ 20
      omega
/-- data that may be shown -/
def Show (d : PyData) : Prop := d.showable = true ∧ d.depth ≤ 50 ∧ d.shown.length ≤ sizeLine
theorem show_list {N : Nat} {ds : List PyData} (h : ∀ d ∈ ds, Sm N d) (hl : ds.length * (N + 2) + 2 ≤ 100000) : Show (.list ds) := by
  obtain ⟨h1, h2, h3, h4⟩ := shown_sum h
  refine ⟨by simpa only [PyData.showable] using h3, by simp only [PyData.depth]; omega, ?_⟩
  simp only [PyData.shown]
  have q := textFrom_len_le (PyData.shownAll ds) 0 "["
  have e : (listText (PyData.shownAll ds)).length = (textFrom 0 "[" (PyData.shownAll ds)).length + 1 := by
    show (textFrom 0 "[" (PyData.shownAll ds) ++ "]").length = _
    rw [strLen_append]
    rfl
  have e2 : (("[" : Str)).length = 1 := by decide +kernel
  rw [e2, h2] at q
  rw [Nat.mul_add] at hl
  have e3 : 100000 ≤ sizeLine := by decide
  omega
/-- at as: errors, each with a value of its own -/
abbrev XOv (H : Hp) : List Addr → List ((Addr × Str) × V) → Prop := Paired fun a q => XO H a q.1.1 [(q.1.2, q.2)]
theorem XOv.mono {H H' : Hp} (s : Same H H') : ∀ {as : List Addr} {L : List ((Addr × Str) × V)}, XOv H as L → XOv H' as L
  | _, _, .nil => .nil
  | _, _, .cons a r => .cons (a.mono s) (XOv.mono s r)
section
variable {K : PySem.W.Frag} {σ : L2.St} {H : Hp}
theorem attr_val {i : Nat} {p : Addr} {as : List Addr} {L : List ((Addr × Str) × V)} {f : Str} {j : Nat} {vs : List Nat} {Q : VK} (hv : σ[i]? = some (some (.ref p))) (hp : SqL K H p (as.map V.ref)) (r : XOv H as L)
    (g : ∀ q ∈ L, q.1.2 = f ∧ (∃ b, XcC b K q.1.1) ∧ PySem.W.findIn K (.ref q.1.1) f = some none) (hl : L.length ≤ 1000)
    (hw : ∀ x, wipe ((wipe σ vs).set j (some x)) vs = wipe σ vs) (hj : ∀ x, ((wipe σ vs).set j (some x))[j]? = some (some x))
    (q : ∀ D H', H D = none → Same H H' → H' D = some (.lst (L.map Prod.snd)) → Q (.ref D) H') : tLc (iList K (tVar i)) (gName j) tYes (tXf K f (tVar j)) vs σ H Q := by
  refine ⟨_, hv, p, rfl, ⟨_, hp⟩, fun D hD => lc_list (K := K) (a := p) (xs := as.map V.ref) (fun i H' => H D = none ∧ Same H H' ∧ H' D = some (.lst ((L.map Prod.snd).take i))) ⟨hD, same_new hD, upd_same⟩
    (fun i H' _ z => z.2.1.seq hp) (fun i x H' hi z => ⟨hw x, ?_⟩) fun H' z => ?_⟩
  · obtain ⟨z1, z2, z3⟩ := z
    rw [List.getElem?_map] at hi
    obtain ⟨a, ha, rfl⟩ := Option.map_eq_some_iff.mp hi
    obtain ⟨c, hc, x⟩ := paired_at r ha
    obtain ⟨rfl, ⟨b, T⟩, no⟩ := g c (List.mem_of_getElem? hc)
    have hi2 : i < L.length := (List.getElem?_eq_some_iff.mp hc).1
    refine ⟨_, hj _, b, a, c.1.1, _, c.2, rfl, x.mono z2, T, no, ?_, _, z3, ?_, z1, fun e o he => ?_, ?_⟩
    · rw [lookup_put, if_pos rfl]
    · rw [List.length_take]
      exact small1000 (by omega)
    · rw [upd_ne (ne_of_none he z1)]
      exact z2 e o he
    · rw [upd_same, List.take_add_one, List.getElem?_map, hc]
      rfl
  · refine q D H' z.1 z.2.1 ?_
    rw [z.2.2, List.length_map, paired_len r, List.take_of_length_le]
    rw [List.length_map]
    exact Nat.le_refl _
end
/-- repr of two lists of equal data -/
theorem not_dec {a b : Str} (h : a = b) : (!decide (V.str a = V.str b)) = false := by
  rw [h, decide_eq_true rfl]
  rfl
end Vx
/-! ## G14 -/
set_option Elab.async false
set_option linter.all false
set_option maxRecDepth 100000
set_option maxHeartbeats 4000000
namespace Vx
open PySem PySem.Spec PyProof.Rows L2 He
open PySem.W PySem.Calls
section
variable {K : PySem.W.Frag} {σ : L2.St} {H : Hp}
/-- [elt for j in range(n)], elt changing nothing -/
theorem rng_lc {n : Nat} {j : Nat} {vs : List Nat} {te : TE} {Q : VK} (v : Nat → V) (ht : ∀ (i : Nat) H1 (R : VK), i < n → R (v i) H1 → te ((wipe σ vs).set j (some (.int (0 + (i : Nat))))) H1 R) (hn : n ≤ 1000)
    (hw : ∀ x, wipe ((wipe σ vs).set j (some x)) vs = wipe σ vs) (q : ∀ D H', H D = none → Same H H' → H' D = some (.lst ((List.range n).map v)) → Q (.ref D) H') :
    tLc (iRng1 (tCons (tC (.int (n : Int))) tNil)) (gName j) tYes te vs σ H Q := by
  refine ⟨(n : Int), rfl, by omega, by omega, fun D hD => lc_range (lo := 0) (n := n) (fun i H' => H D = none ∧ Same H H' ∧ H' D = some (.lst ((List.range i).map v))) ⟨hD, same_new hD, upd_same⟩
    (fun i H' hi z => ⟨hw _, ht i H' _ hi ⟨_, z.2.2, ?_, z.1, fun e o he => ?_, ?_⟩⟩) fun H' z => q D H' z.1 z.2.1 z.2.2⟩
  · rw [List.length_map, List.length_range]
    exact small1000 (by omega)
  · rw [upd_ne (ne_of_none he z.1)]
    exact z.2.1 e o he
  · rw [upd_same, List.range_succ, List.map_append]
    rfl
/-- [len(x) for x in lists] -/
theorem len_lc {i : Nat} {p : Addr} {bs : List Addr} {ns : List Nat} {j : Nat} {vs : List Nat} {Q : VK} (hv : σ[i]? = some (some (.ref p))) (hp : SqL K H p (bs.map V.ref)) (r : Paired (fun b n => ∃ xs, H b = some (.lst xs) ∧ xs.length = n) bs ns) (hl : ns.length ≤ 1000)
    (hw : ∀ x, wipe ((wipe σ vs).set j (some x)) vs = wipe σ vs) (hj : ∀ x, ((wipe σ vs).set j (some x))[j]? = some (some x))
    (q : ∀ D H', H D = none → Same H H' → H' D = some (.lst (ns.map fun (n : Nat) => V.int (n : Int))) → Q (.ref D) H') : tLc (iList K (tVar i)) (gName j) tYes (tCB (Evl.rLenS K) (tCons (tVar j) tNil)) vs σ H Q := by
  refine ⟨_, hv, p, rfl, ⟨_, hp⟩, fun D hD => lc_list (K := K) (a := p) (xs := bs.map V.ref) (fun i H' => H D = none ∧ Same H H' ∧ H' D = some (.lst ((ns.map fun (n : Nat) => V.int (n : Int)).take i))) ⟨hD, same_new hD, upd_same⟩
    (fun i H' _ z => z.2.1.seq hp) (fun i x H' hi z => ⟨hw x, ?_⟩) fun H' z => ?_⟩
  · obtain ⟨z1, z2, z3⟩ := z
    rw [List.getElem?_map] at hi
    obtain ⟨b, hb, rfl⟩ := Option.map_eq_some_iff.mp hi
    obtain ⟨n, hn, xs, hx, rfl⟩ := paired_at r hb
    have hi2 : i < ns.length := (List.getElem?_eq_some_iff.mp hn).1
    refine ⟨_, hj _, b, xs, rfl, .inl (SqL.of (z2 _ _ hx)), _, z3, ?_, z1, fun e o he => ?_, ?_⟩
    · rw [List.length_take]
      exact small1000 (by omega)
    · rw [upd_ne (ne_of_none he z1)]
      exact z2 e o he
    · rw [upd_same, List.take_add_one, List.getElem?_map, hn]
      rfl
  · refine q D H' z.1 z.2.1 ?_
    rw [z.2.2, List.length_map, paired_len r, List.take_of_length_le]
    rw [List.length_map]
    exact Nat.le_refl _
end
theorem map_kit {K : PySem.W.Frag} {C : Addr} {L : List CE} {gs : Nat → Bool} (h : ∀ j c, L[j]? = some c → kitOne K (.ref C) (c.u K) = some (gs j)) :
    (L.map fun c => V.bl ((kitOne K (.ref C) (c.u K)).getD false)) = (List.range L.length).map fun j => V.bl (gs j) := by
  refine List.ext_getElem? fun j => ?_
  rw [List.getElem?_map, List.getElem?_map]
  cases e : L[j]? with
  | none =>
    have hj : L.length ≤ j := List.getElem?_eq_none_iff.mp e
    rw [List.getElem?_eq_none_iff.mpr (by rw [List.length_range]; exact hj)]
    rfl
  | some c =>
    have hj : j < L.length := (List.getElem?_eq_some_iff.mp e).1
    rw [List.getElem?_range hj, Option.map_some, Option.map_some, h j c e]
    rfl
/-- lists of truths -/
theorem dp_bools {K : PySem.W.Frag} {H : Hp} : ∀ bs : List Bool, DpAll K H (bs.map V.bl) (bs.map PyData.bool)
  | [] => .nil
  | b :: bs => .cons (.bl b) (dp_bools bs)
theorem lay_bools : ∀ bs : List Bool, PyData.canLayAll0 (bs.map PyData.bool) = true
  | [] => by simp only [List.map_nil, PyData.canLayAll0]
  | b :: bs => by
    simp only [List.map_cons, PyData.canLayAll0, lay_bools bs, PyData.canLay0, Bool.and_self]
theorem dp_ints {K : PySem.W.Frag} {H : Hp} : ∀ ns : List Int, DpAll K H (ns.map V.int) (ns.map PyData.int)
  | [] => .nil
  | n :: ns => .cons (.int n) (dp_ints ns)
end Vx
/-! ## G15 -/
set_option Elab.async false
set_option linter.all false
set_option maxRecDepth 100000
set_option maxHeartbeats 4000000
namespace Vx
open PySem PySem.Spec PyProof.Rows L2 He
theorem call_lenK {X : Cx} {K : PySem.W.Frag} (hK : X.K = K) : CallR X (.builtin "len") (Evl.rLenS K) := by
  subst hK
  exact call_len_seq
theorem dec_nat (i n : Nat) : decide (V.int (0 + (i : Int)) = V.int (n : Int)) = decide (i = n) := by
  by_cases h : i = n
  · subst h
    rw [decide_eq_true rfl]
    exact decide_eq_true (by rw [Int.zero_add])
  · rw [decide_eq_false h]
    refine decide_eq_false fun e => h ?_
    have q := V.int.inj e
    omega
theorem dec_mod (i n : Nat) : decide (V.int ((0 + (i : Int)) % 4) = V.int (n : Int)) = decide (i % 4 = n) := by
  have q : (0 + (i : Int)) % 4 = ((i % 4 : Nat) : Int) := by omega
  rw [q, ← dec_nat, Int.zero_add]
theorem depth_bools : ∀ bs : List Bool, PyData.depthAll (bs.map PyData.bool) = 0
  | [] => rfl
  | _ :: r => by simp [PyData.depthAll, PyData.depth, depth_bools r]
theorem shaped_bools (bs : List Bool) : SeqAt.shaped (.list (bs.map PyData.bool)) = true := by
  simp [SeqAt.shaped, PyData.canLay0, PyData.depth, lay_bools, depth_bools]
theorem dp_ints2 {K : PySem.W.Frag} {H : Hp} : ∀ ns : List Int, DpAll K H (ns.map V.int) (ns.map PyData.int) := dp_ints
section
variable {K : PySem.W.Frag} {H : Hp} {p q : Addr} {Q : VK}
theorem ne_bools {bs : List Bool} (e1 : H p = some (.lst (bs.map V.bl))) (e2 : H q = some (.lst (bs.map V.bl))) (k : Q (.bl false) H) : rNeD K (.ref p) (.ref q) H Q := by
  refine ⟨.list (bs.map PyData.bool), .list (bs.map PyData.bool), .lst (SqL.of e1) (dp_bools bs), .lst (SqL.of e2) (dp_bools bs), shaped_bools bs, shaped_bools bs, ?_⟩
  rw [SeqAt.eqv_refl _ (ba (shaped_bools bs)).1]
  exact k
theorem ne_ints {ns : List Int} (e1 : H p = some (.lst (ns.map V.int))) (e2 : H q = some (.lst (ns.map V.int))) (k : Q (.bl false) H) : rNeD K (.ref p) (.ref q) H Q := by
  refine ⟨.list (ns.map PyData.int), .list (ns.map PyData.int), .lst (SqL.of e1) (dp_ints ns), .lst (SqL.of e2) (dp_ints ns), PySem.W.ke_shaped_ints ns, PySem.W.ke_shaped_ints ns, ?_⟩
  rw [SeqAt.eqv_refl _ (ba (PySem.W.ke_shaped_ints ns)).1]
  exact k
end
theorem paired_map {α β γ : Type} {F : α → β → Prop} {G : α → γ → Prop} {f : β → γ} : ∀ {as : List α} {L : List β}, Paired F as L → (∀ a b, F a b → G a (f b)) → Paired G as (L.map f)
  | _, _, .nil, _ => .nil
  | _, _, .cons h r, g => .cons (g _ _ h) (paired_map r g)
theorem paired_imp {α β : Type} {F G : α → β → Prop} : ∀ {as : List α} {L : List β}, Paired F as L → (∀ a b, F a b → G a b) → Paired G as L
  | _, _, .nil, _ => .nil
  | _, _, .cons h r, g => .cons (g _ _ h) (paired_imp r g)
/-- errors of these kinds, however kept -/
abbrev XIs (H : Hp) : List Addr → List Addr → Prop := Paired fun a C => XI H a C
theorem XIs.mono {H H' : Hp} (s : Same H H') {as L : List Addr} (h : XIs H as L) : XIs H' as L := paired_imp h fun _ _ x => x.mono s
theorem xis_of {H : Hp} {y : V} {as : List Addr} {L : List (Addr × Str)} (h : XOs H y as L) : XIs H as (L.map Prod.fst) := paired_map h fun _ _ x => .inr ⟨_, x⟩
theorem xis_bare {H : Hp} {as : List Addr} {L : List Addr} (h : Paired (fun a C => H a = some (exo a C none)) as L) : XIs H as L := paired_imp h fun _ _ x => .inl x
end Vx
/-! ## G16 -/
set_option Elab.async false
set_option linter.all false
set_option maxRecDepth 100000
set_option maxHeartbeats 4000000
namespace Vx
open PySem PySem.Spec PyProof.Rows L2 He
def tyS : PyData → String
  | .none => "NoneType"
  | .bool _ => "bool"
  | .int _ => "int"
  | .str _ => "str"
  | .list _ => "list"
  | .tuple _ => "tuple"
  | .dict _ => "dict"
abbrev tysA : List String := ["NoneType", "bool", "int", "str", "list", "tuple", "dict"]
theorem tyS_mem (d : PyData) : tyS d ∈ tysA := by
  cases d <;> simp [tyS]
section
variable {K : PySem.W.Frag} {H : Hp}
theorem tyx_da : ∀ {x : V} {d : PyData}, Da K H x d → TyX K H x (.type (tyS d))
  | _, _, .non => .base .non
  | _, _, .bl b => .base (.bl b)
  | _, _, .int i => .base (.int i)
  | _, _, .str z => .base (.str z)
  | _, _, .lst h _ => by
    rcases h with h | ⟨o, its, n, e, c, _⟩
    · rcases h with h | ⟨o, h⟩
      · exact .base (.lst h)
      · exact .base (.frz h)
    · exact .kList e c
  | _, _, .tup h _ => by
    rcases h with h | ⟨o, its, n, e, c, _⟩
    · rcases h with h | ⟨o, h⟩
      · exact .base (.tup h)
      · exact .fTuple h
    · exact .kTuple e c
  | _, _, .dK h _ => .base (.dK h)
  | _, _, .dT h _ => .base (.dT h)
end
def isT (a t : String) : Bool := a == t || (a == "bool" && t == "int")
abbrev isD (d : PyData) (t : String) : Bool := isT (tyS d) t
theorem kitT : ∀ t ∈ (["int", "bool", "str", "tuple", "list"] : List String), ∀ a ∈ tysA, kitB a t = some (isT a t) := by decide +kernel
def rIsD (K : PySem.W.Frag) : List V → Hp → VK → Prop := fun xs H Q => ∃ (x : V) (d : PyData) (t : String), xs = [x, .ty t] ∧ Da K H x d ∧ t ∈ (["int", "bool", "str", "tuple", "list"] : List String) ∧ Q (.bl (isD d t)) H
theorem call_isD {X : Cx} {K : PySem.W.Frag} (hK : X.K = K) : CallR X (.builtin "isinstance") (rIsD K) := by
  subst hK
  intro pins s σ H xs us Q I r h
  obtain ⟨x, d, t, rfl, hd, ht, q⟩ := h
  exact call_isi pins s σ H _ us Q I r ⟨x, .ty t, _, _, _, rfl, .ty t, tyx_da hd, kit_ty (kitT t ht _ (tyS_mem d)), q⟩
def rIsDT (K : PySem.W.Frag) : List V → Hp → VK → Prop := fun xs H Q => ∃ (x : V) (d : PyData) (tp : Addr), xs = [x, .ref tp] ∧ H tp = some (.tup [.ty "list", .ty "tuple"]) ∧ Da K H x d ∧ Q (.bl (isD d "list" || isD d "tuple")) H
theorem call_isDT {X : Cx} {K : PySem.W.Frag} (hK : X.K = K) : CallR X (.builtin "isinstance") (rIsDT K) := by
  subst hK
  intro pins s σ H xs us Q I r h
  obtain ⟨x, d, tp, rfl, e, hd, q⟩ := h
  have k1 : PySem.W.kitOne X.K (.type (tyS d)) (.type "list") = some (isD d "list") := kit_ty (kitT "list" (by decide) _ (tyS_mem d))
  have k2 : PySem.W.kitOne X.K (.type (tyS d)) (.type "tuple") = some (isD d "tuple") := kit_ty (kitT "tuple" (by decide) _ (tyS_mem d))
  refine call_isiT pins s σ H _ us Q I r ⟨x, tp, [.ty "list", .ty "tuple"], _, [.type "list", .type "tuple"], _, rfl, e, .cons (.ty _) (.cons (.ty _) .nil), tyx_da hd, ?_, q⟩
  refine kitAny_cons k1 (fun z => ?_) (fun z => by rw [z]; rfl)
  rw [z, Bool.false_or]
  refine kitAny_cons k2 (fun z2 => ?_) (fun z2 => z2)
  rw [z2]
  exact kitAny_nil
/-- x is not a truth -/
theorem op_isnot_int {X : Cx} : OpR X (compareOp .IsNot) (fun x y H Q => ∃ i b, x = .int i ∧ y = .bl b ∧ Q (.bl true) H) := by
  intro pins s σ H x y v u Q I rx ry h
  obtain ⟨i, b, rfl, rfl, q⟩ := h
  obtain ⟨t, rfl⟩ := rx
  cases (show u = Value.bool b from ry)
  exact wpAny_isNot_other rfl (fun z => nomatch z) ⟨.bl true, H, I, rfl, q⟩
/-! ### names -/
def small : List Nat := ("abcdefghijklmnopqrstuvwxyz" : Str).cps.toList
def nm (z : Str) : Bool := decide (1 ≤ z.length) && (decide (z.length ≤ 8) && z.cps.toList.all fun c => decide (c ∈ small))
theorem lowT : ∀ c < 128, (Unicode.isAlpha c = true → (Unicode.isUpper c || Unicode.isTitle c) = false → c ∈ small) ∧ (c ∈ small → Unicode.isAlpha c = true ∧ Unicode.isLower c = true ∧ (Unicode.isUpper c || Unicode.isTitle c) = false) := by decide +kernel
theorem small_lt : ∀ c ∈ small, c < 128 := by decide +kernel
theorem name_eq {z : Str} (h : 1 ≤ z.length) : (Txt.isascii z && (Txt.isalpha z && Txt.islower z)) = z.cps.toList.all fun c => decide (c ∈ small) := by
  rw [Bool.eq_iff_iff]
  unfold Txt.isascii Txt.isalpha Txt.islower
  simp only [Bool.and_eq_true, List.all_eq_true, decide_eq_true_eq, Array.all_eq_true', Array.any_eq_true', Bool.not_eq_true', Array.any_eq_false', ← Array.mem_toList_iff]
  constructor
  · rintro ⟨h1, ⟨_, h2⟩, _, h4⟩ c hc
    exact (lowT c (h1 c hc)).1 (h2 c hc) (by simpa using h4 c hc)
  · intro h1
    refine ⟨fun c hc => small_lt c (h1 c hc), ⟨h, fun c hc => ((lowT c (small_lt c (h1 c hc))).2 (h1 c hc)).1⟩, ?_, fun c hc => ?_⟩
    · have hl : 0 < z.cps.toList.length := by
        rw [Array.length_toList]
        exact h
      obtain ⟨c, hc⟩ := List.exists_mem_of_length_pos hl
      exact ⟨c, hc, ((lowT c (small_lt c (h1 c hc))).2 (h1 c hc)).2.1⟩
    · have q := ((lowT c (small_lt c (h1 c hc))).2 (h1 c hc)).2.2
      simpa using q
end Vx
/-! ## G17 -/
set_option Elab.async false
set_option linter.all false
set_option maxRecDepth 100000
set_option maxHeartbeats 4000000
namespace Vx
open PySem PySem.Spec PyProof.Rows L2 He
mutual
/-- no long texts or lists in it -/
def okD : PyData → Bool
  | .str z => decide (z.length ≤ 100)
  | .list ds => decide (ds.length ≤ 100) && okAll ds
  | .tuple ds => decide (ds.length ≤ 100) && okAll ds
  | _ => true
def okAll : List PyData → Bool
  | [] => true
  | d :: ds => okD d && okAll ds
end
theorem okAll_at : ∀ {ds : List PyData} {i : Nat} {d : PyData}, okAll ds = true → ds[i]? = some d → okD d = true
  | [], _, _, _, e => by simp at e
  | z :: r, 0, d, h, e => by
    simp at e
    subst e
    rw [okAll] at h
    exact (ba h).1
  | z :: r, i + 1, d, h, e => by
    rw [okAll] at h
    exact okAll_at (i := i) (ba h).2 (by simpa using e)
/-- a def that asks of one value of data -/
def spP (K : PySem.W.Frag) (g : PyData → Bool) : Sp := fun vs H Q _ => ∃ x d, vs = [x] ∧ Da K H x d ∧ okD d = true ∧ ∀ H', Same H H' → Q (.bl (g d)) H'
section
variable {K : PySem.W.Frag} {σ : L2.St} {H : Hp}
theorem lcs_step {i : Nat} {H1 H4 : Hp} {D : Addr} {ys : List V} {y : V} (z1 : H1 D = none) (z2 : Same H1 H4) (z3 : H4 D = some (.lst ys)) (hy : ys.length < sizeLine) : ∃ acc, H4 D = some (.lst acc) ∧ acc.length < sizeLine ∧ Same H1 (upd H4 D (.lst (acc ++ [y]))) ∧ upd H4 D (.lst (acc ++ [y])) D = some (.lst (ys ++ [y])) := by
  refine ⟨ys, z3, hy, fun e o he => ?_, upd_same⟩
  rw [upd_ne (ne_of_none he z1)]
  exact z2 e o he
/-- [g(c) for c in z] -/
theorem str_lc {ts : TE} {z : Str} {j : Nat} {vs : List Nat} {te : TE} {Q : VK} (g : Nat → V) (hts : ∀ R : VK, R (.str z) H → ts σ H R) (hz : z.length ≤ 1000)
    (ht : ∀ c H1 (R : VK), R (g c) H1 → te ((wipe σ vs).set j (some (.str ⟨#[c]⟩))) H1 R)
    (hw : ∀ x, wipe ((wipe σ vs).set j (some x)) vs = wipe σ vs) (q : ∀ D H', H D = none → Same H H' → H' D = some (.lst (z.cps.toList.map g)) → Q (.ref D) H') :
    tLc (iStr ts) (gName j) tYes te vs σ H Q := by
  refine hts _ ⟨z, rfl, fun D hD => lc_it walk_str (fun i H' => H D = none ∧ Same H H' ∧ H' D = some (.lst ((z.cps.toList.map g).take i))) ⟨hD, same_new hD, upd_same⟩ (fun _ _ _ _ => trivial)
    (fun i x H1 H2 hi p y => ⟨hw _, ?_⟩) fun H' p => ?_⟩
  · obtain ⟨rfl, c, hc, rfl⟩ := y
    obtain ⟨z1, z2, z3⟩ := p
    refine ht c _ _ ?_
    have hl : z.cps.size ≤ 1000 := hz
    have e : (z.cps.toList.map g)[i]? = some (g c) := by
      rw [List.getElem?_map, Array.getElem?_toList, hc]
      rfl
    refine ⟨_, z3, ?_, z1, fun e o he => ?_, ?_⟩
    · rw [List.length_take]
      exact small1000 (by omega)
    · rw [upd_ne (ne_of_none he z1)]
      exact z2 e o he
    · rw [upd_same, List.take_add_one, e]
      rfl
  · refine q D H' p.1 p.2.1 ?_
    rw [p.2.2, List.take_of_length_le]
    rw [List.length_map, Array.length_toList]
    exact Nat.le_refl _
/-- [g(part) for part in xs], a list or a tuple of data -/
theorem das_step {xs : List V} {ds : List PyData} {D : Addr} {i : Nat} {x : V} {j : Nat} {vs : List Nat} {te : TE} {g : PyData → Bool} {H' : Hp} {N : Hp → Prop} (hx : xs[i]? = some x) (r : Das K H xs ds) (ok : okAll ds = true) (hl : ds.length ≤ 100)
    (ht : ∀ v d H1 (R : VK), Da K H1 v d → okD d = true → (∀ H2, Same H1 H2 → R (.bl (g d)) H2) → te ((wipe σ vs).set j (some v)) H1 R)
    (z : H D = none ∧ Same H H' ∧ H' D = some (.lst ((ds.map fun d => V.bl (g d)).take i)))
    (hN : ∀ H2, H D = none ∧ Same H H2 ∧ H2 D = some (.lst ((ds.map fun d => V.bl (g d)).take (i + 1))) → N H2) :
    te ((wipe σ vs).set j (some x)) H' fun y H4 => ∃ acc, H4 D = some (.lst acc) ∧ acc.length < sizeLine ∧ N (upd H4 D (.lst (acc ++ [y]))) := by
  obtain ⟨d, hd, da⟩ := Das.get r hx
  obtain ⟨z1, z2, z3⟩ := z
  have hi := (List.getElem?_eq_some_iff.mp hd).1
  refine ht x d H' _ (da.mono z2) (okAll_at ok hd) fun H2 s2 => ?_
  refine ⟨_, s2 _ _ z3, ?_, hN _ ⟨z1, fun e o he => ?_, ?_⟩⟩
  · rw [List.length_take]
    exact small1000 (by omega)
  · rw [upd_ne (ne_of_none he z1)]
    exact s2 _ _ (z2 e o he)
  · rw [upd_same, List.take_add_one, List.getElem?_map, hd]
    rfl
theorem das_end {ds : List PyData} {n : Nat} {g : PyData → Bool} (e : n = ds.length) : (ds.map fun d => V.bl (g d)).take n = (ds.map g).map V.bl := by
  rw [List.take_of_length_le (by rw [List.length_map, e]; exact Nat.le_refl _), List.map_map]
  rfl
theorem da_lcL {p : Addr} {xs : List V} {ds : List PyData} {j : Nat} {vs : List Nat} {tl te : TE} {Q : VK} (g : PyData → Bool) (hv : ∀ R : VK, R (.ref p) H → tl σ H R) (hp : SqL K H p xs) (r : Das K H xs ds) (ok : okAll ds = true) (hl : ds.length ≤ 100)
    (ht : ∀ v d H1 (R : VK), Da K H1 v d → okD d = true → (∀ H2, Same H1 H2 → R (.bl (g d)) H2) → te ((wipe σ vs).set j (some v)) H1 R)
    (hw : ∀ x, wipe ((wipe σ vs).set j (some x)) vs = wipe σ vs)
    (q : ∀ D H', H D = none → Same H H' → H' D = some (.lst ((ds.map g).map V.bl)) → Q (.ref D) H') : tLc (iList K tl) (gName j) tYes te vs σ H Q := by
  refine hv _ ⟨p, rfl, ⟨_, hp⟩, fun D hD => lc_list (K := K) (a := p) (xs := xs) (fun i H' => H D = none ∧ Same H H' ∧ H' D = some (.lst ((ds.map fun d => V.bl (g d)).take i))) ⟨hD, same_new hD, upd_same⟩
    (fun i H' _ z => z.2.1.seq hp) (fun i x H' hi z => ⟨hw x, das_step hi r ok hl ht z fun _ h => h⟩) fun H' z => q D H' z.1 z.2.1 (z.2.2.trans ?_)⟩
  rw [das_end r.len]
theorem da_lcT {p : Addr} {xs : List V} {ds : List PyData} {j : Nat} {vs : List Nat} {tl te : TE} {Q : VK} (g : PyData → Bool) (hv : ∀ R : VK, R (.ref p) H → tl σ H R) (hp : SqT K H p xs) (r : Das K H xs ds) (ok : okAll ds = true) (hl : ds.length ≤ 100)
    (ht : ∀ v d H1 (R : VK), Da K H1 v d → okD d = true → (∀ H2, Same H1 H2 → R (.bl (g d)) H2) → te ((wipe σ vs).set j (some v)) H1 R)
    (hw : ∀ x, wipe ((wipe σ vs).set j (some x)) vs = wipe σ vs)
    (q : ∀ D H', H D = none → Same H H' → H' D = some (.lst ((ds.map g).map V.bl)) → Q (.ref D) H') : tLc (iTup K tl) (gName j) tYes te vs σ H Q := by
  refine hv _ ⟨p, rfl, ⟨_, hp⟩, fun D hD => lc_tup (K := K) (a := p) (xs := xs) (fun i H' => H D = none ∧ Same H H' ∧ H' D = some (.lst ((ds.map fun d => V.bl (g d)).take i))) ⟨hD, same_new hD, upd_same⟩
    (fun i H' _ z => Vx.seqT z.2.1 hp) (fun i x H' hi z => ⟨hw x, das_step hi r ok hl ht z fun _ h => h⟩) fun H' z => q D H' z.1 z.2.1 (z.2.2.trans ?_)⟩
  rw [das_end r.len]
theorem all_map {ds : List PyData} {g : PyData → Bool} : (ds.map g).all id = ds.all g := by
  rw [List.all_map]
  rfl
end
end Vx
/-! ## G18 -/
set_option Elab.async false
set_option linter.all false
set_option maxRecDepth 100000
set_option maxHeartbeats 4000000
namespace Vx
open PySem PySem.Spec PyProof.Rows L2 He
def numD : PyData → Bool
  | .int _ => true
  | _ => false
def boolD : PyData → Bool
  | .bool _ => true
  | _ => false
def strD : PyData → Bool
  | .str _ => true
  | _ => false
def tupD : PyData → Bool
  | .tuple _ => true
  | _ => false
def lstD : PyData → Bool
  | .list _ => true
  | _ => false
def cntD : PyData → Bool
  | .int i => decide (0 ≤ i)
  | _ => false
def nameD : PyData → Bool
  | .str z => nm z
  | _ => false
def pairL : List PyData → Bool
  | [a, b] => nameD a && nameD b
  | _ => false
def pairD : PyData → Bool
  | .tuple ds => pairL ds
  | _ => false
def seqD : PyData → Bool
  | .list _ => true
  | .tuple _ => true
  | _ => false
def rowD : PyData → Bool
  | .list ds => ds.all pairD
  | .tuple ds => ds.all pairD
  | _ => false
theorem isI : ∀ d : PyData, isD d "int" = (numD d || boolD d)
  | .none => (by decide : isT "NoneType" "int" = false)
  | .bool _ => (by decide : isT "bool" "int" = true)
  | .int _ => (by decide : isT "int" "int" = true)
  | .str _ => (by decide : isT "str" "int" = false)
  | .list _ => (by decide : isT "list" "int" = false)
  | .tuple _ => (by decide : isT "tuple" "int" = false)
  | .dict _ => (by decide : isT "dict" "int" = false)
theorem isBo : ∀ d : PyData, isD d "bool" = boolD d
  | .none => (by decide : isT "NoneType" "bool" = false)
  | .bool _ => (by decide : isT "bool" "bool" = true)
  | .int _ => (by decide : isT "int" "bool" = false)
  | .str _ => (by decide : isT "str" "bool" = false)
  | .list _ => (by decide : isT "list" "bool" = false)
  | .tuple _ => (by decide : isT "tuple" "bool" = false)
  | .dict _ => (by decide : isT "dict" "bool" = false)
theorem isS : ∀ d : PyData, isD d "str" = strD d
  | .none => (by decide : isT "NoneType" "str" = false)
  | .bool _ => (by decide : isT "bool" "str" = false)
  | .int _ => (by decide : isT "int" "str" = false)
  | .str _ => (by decide : isT "str" "str" = true)
  | .list _ => (by decide : isT "list" "str" = false)
  | .tuple _ => (by decide : isT "tuple" "str" = false)
  | .dict _ => (by decide : isT "dict" "str" = false)
theorem isTu : ∀ d : PyData, isD d "tuple" = tupD d
  | .none => (by decide : isT "NoneType" "tuple" = false)
  | .bool _ => (by decide : isT "bool" "tuple" = false)
  | .int _ => (by decide : isT "int" "tuple" = false)
  | .str _ => (by decide : isT "str" "tuple" = false)
  | .list _ => (by decide : isT "list" "tuple" = false)
  | .tuple _ => (by decide : isT "tuple" "tuple" = true)
  | .dict _ => (by decide : isT "dict" "tuple" = false)
theorem isL : ∀ d : PyData, isD d "list" = lstD d
  | .none => (by decide : isT "NoneType" "list" = false)
  | .bool _ => (by decide : isT "bool" "list" = false)
  | .int _ => (by decide : isT "int" "list" = false)
  | .str _ => (by decide : isT "str" "list" = false)
  | .list _ => (by decide : isT "list" "list" = true)
  | .tuple _ => (by decide : isT "tuple" "list" = false)
  | .dict _ => (by decide : isT "dict" "list" = false)
theorem isLT (d : PyData) : (isD d "list" || isD d "tuple") = seqD d := by
  rw [isL, isTu]
  cases d <;> rfl
theorem okStr {z : Str} (h : okD (.str z) = true) : z.length ≤ 100 := by
  rw [okD] at h
  exact of_decide_eq_true h
theorem okLst {ds : List PyData} (h : okD (.list ds) = true) : ds.length ≤ 100 ∧ okAll ds = true := by
  rw [okD] at h
  exact ⟨of_decide_eq_true (ba h).1, (ba h).2⟩
theorem okTup {ds : List PyData} (h : okD (.tuple ds) = true) : ds.length ≤ 100 ∧ okAll ds = true := by
  rw [okD] at h
  exact ⟨of_decide_eq_true (ba h).1, (ba h).2⟩
section
variable {K : PySem.W.Frag} {H : Hp} {Q : VK} {te ta : TE} {σ : L2.St}
/-- isinstance(x, t) and .. -/
theorem in_and {c : Bool} (h : ta σ H fun x H1 => x = .bl c ∧ (if c = true then te σ H1 Q else Q (.bl false) H1)) (m : ∀ R S : VK, (∀ x H, R x H → S x H) → ta σ H R → ta σ H S) : tAndV ta te σ H Q :=
  m _ _ (fun x H1 q => ⟨c, q.1, q.2⟩) h
end
end Vx
/-! ## G19 -/
set_option Elab.async false
set_option linter.all false
set_option maxRecDepth 100000
set_option maxHeartbeats 4000000
namespace Vx
open PySem PySem.Spec PyProof.Rows L2 He
open PySem.W (keepIn)
/-- one value by keyword -/
def kw0 {α : Type} : List α → List α → List α
  | [], [b] => [b]
  | _, _ => []
theorem kw0_rel : ∀ {vs : List V} {us : List Value} {zs : List V} {ws : List Value}, Vals vs us → Vals zs ws → Vals (kw0 vs zs) (kw0 us ws)
  | _, _, _, _, .nil, .cons c .nil => .cons c .nil
  | _, _, _, _, .nil, .nil => .nil
  | _, _, _, _, .nil, .cons _ (.cons _ _) => .nil
  | _, _, _, _, .cons _ _, _ => .nil
/-- a def of one parameter, called by place and by name -/
structure CdK (P : Program) (w : World) (K : PySem.W.Frag) (mg : Str → Option Value) (base : Heap) (k : Nat) (x y : Str) (sp : Sp) : Prop where
  ex : ∃ (f : Addr) (fd : FuncData), FnG P w K mg base CX0 k f fd [y] sp ∧ mg x = some (.ref f) ∧ keepIn K (.ref f) = true ∧ Binds K fd [y] [] ∧ KBinds K fd [y] [y] kw0 kw0
section
variable {P : Program} {w : World} {K : PySem.W.Frag} {mg : Str → Option Value} {base : Heap} {k : Nat} {x y : Str} {sp : Sp} {st : Stmt} {N : List Str}
theorem CdK.cd (C : CdK P w K mg base k x y sp) : Cd P w K mg base k x [y] sp := by
  obtain ⟨f, fd, F, g, kf, b, _⟩ := C.ex
  exact ⟨f, fd, F, g, kf, b⟩
theorem cd_mkK (F : At K mg x st) (S : FnScope N [y] (defScope st)) (len : ∀ vs H Q E, sp vs H Q E → vs.length = [y].length)
    (hb : ∀ (kV doc pm : Value) (an : Option Addr) (cdv ct : Value) (us : List Value), us.length = [y].length → bindArgs (PySem.W.fnOf x x (defArgs st) (defBody st) (defScope st) .none kV doc pm an cdv ct) ⟨us, []⟩ = pure ([y].zip us))
    (hk : ∀ (kV doc pm : Value) (an : Option Addr) (cdv ct : Value) (u : Value), bindArgs (PySem.W.fnOf x x (defArgs st) (defBody st) (defScope st) .none kV doc pm an cdv ct) ⟨[], [(y, u)]⟩ = pure [(y, u)])
    (hbody : ∀ (f : Addr) (cdv : Value) (A : Around) (outer : List Env) (s : Shared) (H : Hp) (vs : List V) (Q : VK) (E : XK),
      Room k (A.deeper (envOfC x (defScope st) s.heap.objs.size f cdv)) → Gd (A.deeper (envOfC x (defScope st) s.heap.objs.size f cdv)) → sp vs H Q E →
      ∃ t, PSs (cxOf CX0 P w K mg base N x (defScope st) f cdv A outer s H E).nox (defBody st) t ∧ t { nx := fun _ H' => Q .non H', rt := Q } (start N vs) H) :
    CdK P w K mg base (k + 1) x y sp := by
  obtain ⟨f, fd, F, gf⟩ := F.ex
  refine ⟨f, fd, okG F S len (fun cdv A outer s H vs Q E hr hG h => ?_), gf, F.kp, F.binds hb, ?_⟩
  · obtain ⟨t, h1, h2⟩ := hbody f cdv A outer s H vs Q E hr hG h
    exact ⟨t, h1.nox, h2⟩
  · obtain ⟨oc, od, kV, doc, pm, an, cdv, ct, osl, rfl, lk, hcd⟩ := F.ex
    refine ⟨fun s us ws _ hl => ?_, kw0_rel⟩
    match us, ws, hl with
    | [], [v], _ => exact .of_eq (hk kV doc pm an cdv ct v)
end
section
variable {X : Cx} {k : Nat} {x y : Str} {sp : Sp} {p pos kp : Pos} {e : Expr} {te : TE}
/-- f(y = e) -/
theorem pe_cdK (C : CdK X.prog X.w X.K X.mg X.base k x y sp) (hr : Room k X.A) (hG : Gd X.A) (hg : Gl X x) (he : PE X e te)
    (hdb : (x == ("__debug__" : Str)) = false := by decide) (hall : (backToKw pos (keywordEach [⟨some y, e, kp⟩] X.env)).all (·.1.isSome) = true := by rfl)
    (hks : (backToKw pos (keywordEach [⟨some y, e, kp⟩] X.env)).filterMap (·.1) = [y] := by rfl)
    (hpl : ((backTo pos (starEach [] X.env)).any (·.1) || (backToKw pos (keywordEach [⟨some y, e, kp⟩] X.env)).any (·.1.isNone)) = false := by rfl) :
    PE X (.Call (.Name x p) [] [⟨some y, e, kp⟩] pos) (fun σ H Q => te σ H fun v H1 => sp [v] H1 Q E0) := by
  obtain ⟨f, fd, F, gf, kf, b, kb⟩ := C.ex
  refine ⟨fun pins s σ H Q I h => wpAny_Call_Name_kw (ld_glob I hg gf ?_ hdb)⟩
  refine PySem.W.callWith_KW0 (h₀ := X.base) I.ok.mod.kin kf hall ?_ hpl
  refine thn ((pk_cons he pk_nil).run pos pins s σ H (one1 fun v H1 => sp [v] H1 Q E0) I h) fun ws s1 z => ?_
  obtain ⟨vs, H1, I1, r1, q1⟩ := z
  rw [hks]
  match vs, q1 with
  | [v], q1 =>
    cases r1 with
    | cons rv rn =>
      cases rn
      rename_i u
      refine ⟨I1.kIn, wpAny_call (codeAny_mono (F.go X.A X.stack s1 H1 ⟨[], [(y, u)]⟩ [u] [v] Q E0 hr hG I1.env0 (kb.to s1 [] [u] I1.kIn rfl) (.cons rv .nil) q1) (fun r s' z => ?_))⟩
      cases r with
      | error er => exact pass0 pins σ H1 s1 er s' I1 z
      | ok fl =>
        cases fl with
        | ret u => exact I1.after z
        | next => exact z.elim
        | brk => exact z.elim
        | cont => exact z.elim
end
end Vx
/-! ## G20 -/
set_option Elab.async false
set_option linter.all false
set_option maxRecDepth 100000
set_option maxHeartbeats 4000000
namespace Vx
open PySem PySem.Spec PyProof.Rows L2 He
/-- {k: v}, k a tuple of ints and texts -/
def tDispT (tk tv : TE) : TE := fun σ H Q => ∀ p, H p = none → tk σ (upd H p (.dT [])) fun x H1 => tv σ H1 fun y H2 => H2 p = some (.dT []) ∧
  ∃ (k : List L2.Key) (b : Addr), x = .ref b ∧ H2 b = some (.tup (k.map kV)) ∧ Q (.ref p) (upd H2 p (.dT [(k, y)]))
def onePair (n : Addr) (Q : VK) : List (V × V) → Hp → Prop
  | [(x, y)], H2 => H2 n = some (.dT []) ∧ ∃ (k : List L2.Key) (b : Addr), x = .ref b ∧ H2 b = some (.tup (k.map kV)) ∧ Q (.ref n) (upd H2 n (.dT [(k, y)]))
  | _, _ => False
theorem pe_dispT {X : Cx} {pos : Pos} {k v : Expr} {tk tv : TE} (hu : X.A.units + 64 < cLine) (hk : PE X k tk) (hv : PE X v tv) : PE X (.Dict [some k] [v] pos) (tDispT tk tv) := by
  refine ⟨fun pins s σ H Q I q => ?_⟩
  have hn := I.hok.fresh (Nat.le_refl s.heap.objs.size)
  have I1 := I.laid (a := s.heap.objs.size) (o := .dT []) (h' := s.heap.push { cls := .type "dict", data := .dict #[] }) (t' := s.toks) (fun _ _ q => Heap.get?_push_of_some _ q) (Nat.le_refl _) (dt_empty s.heap I.big)
  rw [arm_eval_Dict, zip_pairTrees [some k] [v] X.env pos rfl rfl, dictDisplay_pairs (pairTrees [some k] [v] X.env pos) (fun z => nomatch z) (by show 1 < 17; decide)]
  refine wpAny_bind (wpAny_standAt (wpAny_bind (wpAny_subDictH (knd := tupleKind (mixKind X.prog X.w)) (Q := fun d s' => wpAny (model X.prog X.w) X.A (pure (Value.ref d)) (EP X pins σ Q) X.xe s') ?_ (by show 1 ≤ 15; decide)
    (thn ((pps_cons hk hv pps_nil).run pins _ σ _ (onePair s.heap.objs.size Q)
      I1 ?_) fun ws s2 z => ?_))))
  · show X.A.units < cLine
    omega
  · exact q _ hn
  · obtain ⟨ps, H2, I2, rel, q1⟩ := z
    match ps, q1 with
    | [(x, y)], q1 =>
    obtain ⟨e, ks, b, rfl, eb, q2⟩ := q1
    cases rel with
    | cons r rn =>
      cases rn
      obtain ⟨r1, r2⟩ := r
      rename_i wv
      obtain ⟨u, r⟩ := wv
      cases (show u = Value.ref b from r1)
      obtain ⟨z, hd, xs, rx, dd⟩ := dt_of I2.hok e
      cases rx
      refine ⟨[(ks, b, r)], ⟨rfl, rfl, key_of I2.hok eb, trivial⟩, dd, fun h' tk dd' hs => wpAny_pure ⟨.ref s.heap.objs.size, _, ?_, rfl, q2⟩⟩
      obtain ⟨q, es, ep, hq, h2, h3, h4, _, h5⟩ := dd'
      refine d_write I2 (by rw [e]; exact True.intro) hs ⟨q, hq⟩ ⟨by show 1 ≤ sizeLine; decide, hd, [(ks, b, r)], .cons ⟨rfl, ?_, r2⟩ .nil, q, es, ep, hq, h2, h3, h4, h5⟩
      rw [upd_ne (ne_of eb e (fun z => nomatch z))]
      exact eb
end Vx
/-! ## G21 -/
set_option Elab.async false
set_option linter.all false
set_option maxRecDepth 100000
set_option maxHeartbeats 4000000
namespace Vx
open PySem PySem.Spec PyProof.Rows L2 He
/-- z * 0, z * 1 -/
def rM01 : R2 := fun x y H Q => ∃ (z : Str) (n : Int), x = .str z ∧ y = .int n ∧ ((n = 0 ∧ Q (.str Str.empty) H) ∨ (n = 1 ∧ Q (.str z) H))
theorem op_mul01 {X : Cx} : OpR X (binaryOp .Mult) rM01 := by
  intro pins s σ H x y v u Q I rx ry h
  obtain ⟨z, n, rfl, rfl, h⟩ := h
  obtain ⟨t, rfl⟩ := rx
  obtain ⟨t', rfl⟩ := ry
  rcases h with ⟨rfl, q⟩ | ⟨rfl, q⟩
  · exact P.mul_str_none (by decide) (by decide) ⟨.str Str.empty, H, I.tok _, ⟨_, rfl⟩, q⟩
  · refine P.mul_str (by decide) (fun _ h => by simp at h) (fun _ h => by simp at h) ?_
    rw [if_neg (by decide), if_pos (by simp)]
    exact ⟨.str z, H, I, ⟨t, rfl⟩, q⟩
theorem mul01 (z : Str) {d : Int} (h : d = 0 ∨ d = 1) : ∃ z' : Str, (z' = Str.empty ∨ z' = z) ∧ ∀ (Q : VK) (H : Hp), Q (.str z') H → rM01 (.str z) (.int d) H Q := by
  rcases h with h | h
  · exact ⟨Str.empty, .inl rfl, fun Q H q => ⟨z, d, rfl, rfl, .inl ⟨h, q⟩⟩⟩
  · exact ⟨z, .inr rfl, fun Q H q => ⟨z, d, rfl, rfl, .inr ⟨h, q⟩⟩⟩
abbrev Asc (z : Str) : Prop := ∀ c ∈ z.cps.toList, c < 128
theorem asc_app {a b : Str} (ha : Asc a) (hb : Asc b) : Asc (a ++ b) := fun c hc => by
  rw [PySem.W.KT.app_list] at hc
  rcases List.mem_append.mp hc with h | h
  · exact ha c h
  · exact hb c h
/-- signs joined -/
theorem asc_join {cs : List Nat} (h : ∀ c ∈ cs, c < 128) : Asc (Txt.join (Str.ofString "") (cs.map fun c => ⟨#[c]⟩)) ∧ (Txt.join (Str.ofString "") (cs.map fun c => (⟨#[c]⟩ : Str))).length = cs.length := by
  refine ⟨fun c hc => ?_, ?_⟩
  · have e : Txt.join (Str.ofString "") (cs.map fun c => (⟨#[c]⟩ : Str)) = Str.join (Str.ofString "") (cs.map fun c => (⟨#[c]⟩ : Str)) := StrLaws.glued_eq_join _ _
    rw [e] at hc
    rcases (mem_join _ c _).mp hc with ⟨t, ht, hc⟩ | ⟨_, hc⟩
    · obtain ⟨d, hd, rfl⟩ := List.mem_map.mp ht
      have q : c = d := by simpa using hc
      rw [q]
      exact h d hd
    · exact nomatch (show c ∈ ([] : List Nat) from hc)
  · rw [PySem.W.KT.join_ones _ (fun a ha => by obtain ⟨d, _, rfl⟩ := List.mem_map.mp ha; rfl), List.length_map]
theorem ones_sum : ∀ cs : List Nat, ((cs.map fun c => (⟨#[c]⟩ : Str)).map (·.length)).sum = cs.length
  | [] => rfl
  | c :: cs => by
    rw [List.map_cons, List.map_cons, List.sum_cons, ones_sum cs, List.length_cons]
    show 1 + cs.length = cs.length + 1
    omega
/-- what is written at an address that was free -/
theorem Stp.putD {p D : Addr} {H H4 : Hp} {o : HO} (z : Stp p H H4) (hD : H D = none) (n : D ≠ p) : Stp p H (upd H4 D o) := by
  refine ⟨?_, fun a u e => ?_⟩
  · obtain ⟨a, b, e, r⟩ := z.pot
    exact ⟨a, b, (upd_ne n.symm).trans e, r⟩
  · obtain ⟨na, ea⟩ := off_some e
    have q := z.k a u e
    rw [off_ne na] at q
    rw [off_ne na, upd_ne (ne_of_none ea hD)]
    exact q
/-- a text, one of whose signs is chosen -/
def spPickS : Sp := fun vs H Q _ => ∃ (p : Addr) (z : Str), vs = [.ref p, .str z] ∧ Pot p H ∧ 1 ≤ z.length ∧ z.length ≤ 1000 ∧ ∀ (c : Nat) H', Stp p H H' → c ∈ z.cps.toList → Q (.str ⟨#[c]⟩) H'
def spWord : Sp := fun vs H Q _ => ∃ p : Addr, vs = [.ref p] ∧ Pot p H ∧ ∀ (z : Str) H', Stp p H H' → z.length ≤ 9 → Asc z → Q (.str z) H'
end Vx
/-! ## G22 -/
set_option Elab.async false
set_option linter.all false
set_option maxRecDepth 100000
set_option maxHeartbeats 4000000
namespace Vx
open PySem PySem.Spec PyProof.Rows L2 He
/-- small data of depth k -/
def G (k : Nat) (d : PyData) : Prop := okD d = true ∧ d.leavesShort 40 = true ∧ d.showable = true ∧ d.depth ≤ k ∧ d.weight ≤ 120 * 4 ^ k
theorem G.up {k : Nat} {d : PyData} (g : G k d) : G (k + 1) d := by
  obtain ⟨h1, h2, h3, h4, h5⟩ := g
  refine ⟨h1, h2, h3, by omega, ?_⟩
  rw [Nat.pow_succ]
  omega
theorem G_non : G 0 .none := ⟨rfl, rfl, rfl, Nat.le_refl _, Nat.zero_le _⟩
theorem G_bl (b : Bool) : G 0 (.bool b) := ⟨rfl, rfl, rfl, Nat.le_refl _, Nat.zero_le _⟩
theorem G_str {z : Str} (h : Asc z) (hl : z.length ≤ 100) : G 0 (.str z) := by
  refine ⟨?_, ?_, rfl, Nat.le_refl _, ?_⟩
  · rw [okD]
    exact decide_eq_true hl
  · simp only [PyData.leavesShort, List.all_eq_true, decide_eq_true_eq]
    intro c hc
    exact Nat.lt_of_lt_of_le (h c hc) (by decide)
  · show z.length ≤ 120 * 4 ^ 0
    omega
theorem G_int {i : Int} (h : i.natAbs < 10 ^ 31) : G 0 (.int i) := by
  have hl : i.natAbs.log2 < 104 := by
    by_cases z : i.natAbs = 0
    · rw [z]
      decide
    · exact (Nat.log2_lt z).2 (Nat.lt_of_lt_of_le h (by decide))
  refine ⟨rfl, ?_, ?_, Nat.le_refl _, ?_⟩
  · have q := int_text_length_le10 (k := 31) (by decide) h
    simp only [PyData.leavesShort, PyData.shown, decide_eq_true_eq]
    refine decide_eq_true ?_
    rw [PySem.ofString_length]
    omega
  · simp only [PyData.showable, decide_eq_true_eq]
    omega
  · simp only [PyData.weight]
    split <;> omega
theorem allG {k : Nat} : ∀ {ds : List PyData}, (∀ d ∈ ds, G k d) → okAll ds = true ∧ PyData.leavesShortAll 40 ds = true ∧ PyData.showableAll ds = true ∧ PyData.depthAll ds ≤ k ∧ PyData.weightAll ds ≤ ds.length * (120 * 4 ^ k + 1)
  | [], _ => ⟨rfl, rfl, rfl, Nat.zero_le _, Nat.zero_le _⟩
  | d :: ds, h => by
    obtain ⟨a1, a2, a3, a4, a5⟩ := allG fun e he => h e (List.mem_cons_of_mem _ he)
    obtain ⟨b1, b2, b3, b4, b5⟩ := h d (List.mem_cons_self ..)
    refine ⟨?_, ?_, ?_, ?_, ?_⟩
    · rw [okAll, a1, b1]
      rfl
    · rw [PyData.leavesShortAll, a2, b2]
      rfl
    · rw [PyData.showableAll, a3, b3]
      rfl
    · rw [PyData.depthAll]
      omega
    · rw [PyData.weightAll, List.length_cons, Nat.add_mul]
      omega
theorem G_lst {k : Nat} {ds : List PyData} (h : ∀ d ∈ ds, G k d) (hl : ds.length ≤ 3) : G (k + 1) (.list ds) := by
  obtain ⟨a1, a2, a3, a4, a5⟩ := allG h
  refine ⟨?_, ?_, ?_, ?_, ?_⟩
  · rw [okD, a1, decide_eq_true (by omega)]
    rfl
  · simpa only [PyData.leavesShort] using a2
  · simpa only [PyData.showable] using a3
  · simp only [PyData.depth]
    omega
  · simp only [PyData.weight]
    have q : ds.length * (120 * 4 ^ k + 1) ≤ 3 * (120 * 4 ^ k + 1) := Nat.mul_le_mul_right _ hl
    have q2 : 0 < 4 ^ k := Nat.pow_pos (by decide)
    rw [Nat.pow_succ]
    omega
theorem G_tup {k : Nat} {ds : List PyData} (h : ∀ d ∈ ds, G k d) (hl : ds.length ≤ 3) : G (k + 1) (.tuple ds) := by
  obtain ⟨a1, a2, a3, a4, a5⟩ := allG h
  refine ⟨?_, ?_, ?_, ?_, ?_⟩
  · rw [okD, a1, decide_eq_true (by omega)]
    rfl
  · simpa only [PyData.leavesShort] using a2
  · simpa only [PyData.showable] using a3
  · simp only [PyData.depth]
    omega
  · simp only [PyData.weight]
    have q : ds.length * (120 * 4 ^ k + 1) ≤ 3 * (120 * 4 ^ k + 1) := Nat.mul_le_mul_right _ hl
    have q2 : 0 < 4 ^ k := Nat.pow_pos (by decide)
    rw [Nat.pow_succ]
    omega
theorem G_dict0 : G 1 (.dict []) := ⟨rfl, rfl, rfl, Nat.le_refl _, Nat.zero_le _⟩
theorem G_dict1 {k : Nat} {a b : PyData} (ha : G k a) (hb : G k b) : G (k + 1) (.dict [(a, b)]) := by
  obtain ⟨a1, a2, a3, a4, a5⟩ := ha
  obtain ⟨b1, b2, b3, b4, b5⟩ := hb
  refine ⟨rfl, ?_, ?_, ?_, ?_⟩
  · simp only [PyData.leavesShort, PyData.leavesShortKv, a2, b2, Bool.and_self]
  · simp only [PyData.showable, PyData.showableKv, a3, b3, Bool.and_self]
  · simp only [PyData.depth, PyData.depthKv]
    omega
  · simp only [PyData.weight, PyData.weightKv]
    have q2 : 0 < 4 ^ k := Nat.pow_pos (by decide)
    rw [Nat.pow_succ]
    omega
theorem G_menu {ds : List PyData} (h : ∀ d ∈ ds, G 2 d) (hl : ds.length ≤ 60) : Show (.list ds) := by
  obtain ⟨a1, a2, a3, a4, a5⟩ := allG h
  refine ⟨by simpa only [PyData.showable] using a3, by simp only [PyData.depth]; omega, ?_⟩
  have q := PyData.shown_le 40 (by decide) (.list ds) (by simpa only [PyData.leavesShort] using a2)
  have q2 : ds.length * (120 * 4 ^ 2 + 1) ≤ 60 * (120 * 4 ^ 2 + 1) := Nat.mul_le_mul_right _ hl
  have q3 : (PyData.list ds).weight = PyData.weightAll ds := by simp only [PyData.weight]
  rw [q3] at q
  have q4 : 10000000 ≤ sizeLine := by decide
  omega
/-- x is such data -/
def El (K : PySem.W.Frag) (H : Hp) (k : Nat) (x : V) : Prop := ∃ d, Da K H x d ∧ G k d
section
variable {K : PySem.W.Frag} {H H' : Hp} {k : Nat} {x : V}
theorem El.mono (s : Same H H') (h : El K H k x) : El K H' k x := let ⟨d, a, g⟩ := h; ⟨d, a.mono s, g⟩
theorem El.up (h : El K H k x) : El K H (k + 1) x := let ⟨d, a, g⟩ := h; ⟨d, a, g.up⟩
theorem El.non : El K H 0 .non := ⟨_, .non, G_non⟩
theorem El.bl (b : Bool) : El K H 0 (.bl b) := ⟨_, .bl b, G_bl b⟩
theorem El.int {i : Int} (h : i.natAbs < 10 ^ 31) : El K H 0 (.int i) := ⟨_, .int i, G_int h⟩
theorem El.str {z : Str} (h : Asc z) (hl : z.length ≤ 100) : El K H 0 (.str z) := ⟨_, .str z, G_str h hl⟩
theorem els_das : ∀ {xs : List V}, (∀ x ∈ xs, El K H k x) → ∃ ds, Das K H xs ds ∧ (∀ d ∈ ds, G k d) ∧ ds.length = xs.length
  | [], _ => ⟨[], .nil, (fun _ h => nomatch h), rfl⟩
  | x :: xs, h => by
    obtain ⟨d, a, g⟩ := h x (List.mem_cons_self ..)
    obtain ⟨ds, as, gs, l⟩ := els_das fun y hy => h y (List.mem_cons_of_mem _ hy)
    exact ⟨d :: ds, .cons a as, List.forall_mem_cons.2 ⟨g, gs⟩, by rw [List.length_cons, List.length_cons, l]⟩
theorem El.lst {a : Addr} {xs : List V} (e : H a = some (.lst xs)) (h : ∀ x ∈ xs, El K H k x) (hl : xs.length ≤ 3) : El K H (k + 1) (.ref a) := by
  obtain ⟨ds, as, gs, l⟩ := els_das h
  exact ⟨_, .lst (SqL.of e) as, G_lst gs (by omega)⟩
theorem El.tup {a : Addr} {xs : List V} (e : H a = some (.tup xs)) (h : ∀ x ∈ xs, El K H k x) (hl : xs.length ≤ 3) : El K H (k + 1) (.ref a) := by
  obtain ⟨ds, as, gs, l⟩ := els_das h
  exact ⟨_, .tup (SqT.of e) as, G_tup gs (by omega)⟩
theorem El.dict0 {a : Addr} (e : H a = some (.dK [])) : El K H 1 (.ref a) := ⟨_, .dK e .nil, G_dict0⟩
theorem El.dict2 {a : Addr} {z y : Str} {v : V} (e : H a = some (.dT [([.inr z, .inr y], v)])) (hz : Asc z) (hy : Asc y) (lz : z.length ≤ 100) (ly : y.length ≤ 100) (hv : El K H 1 v) : El K H 2 (.ref a) := by
  obtain ⟨d, a, g⟩ := hv
  exact ⟨_, .dT e (.cons a .nil), G_dict1 (G_tup (List.forall_mem_cons.2 ⟨G_str hz lz, List.forall_mem_cons.2 ⟨G_str hy ly, fun _ h => nomatch h⟩⟩) (by show 2 ≤ 3; decide)) g⟩
end
/-- the menu -/
def spMenu (K : PySem.W.Frag) : Sp := fun vs H Q _ => ∃ p : Addr, vs = [.ref p] ∧ Pot p H ∧ ∀ (m : Addr) (xs : List V) H', Stp p H H' → off p H' m = some (.lst xs) → (∀ x ∈ xs, El K (off p H') 2 x) → xs.length ≤ 60 → Q (.ref m) H'
end Vx
/-! ## G23 -/
set_option Elab.async false
set_option linter.all false
set_option maxRecDepth 100000
set_option maxHeartbeats 4000000
namespace Vx
open PySem PySem.Spec PyProof.Rows L2 He
section
variable {K : PySem.W.Frag} {p : Addr} {H0 : Hp} {σ : L2.St}
/-- te makes small data of depth k, changing nothing that stands -/
def Mk (K : PySem.W.Frag) (p : Addr) (H0 : Hp) (σ : L2.St) (k : Nat) (te : TE) : Prop :=
  ∀ H (R : VK), Same H0 H → Pot p H → (∀ x H', Same H H' → El K (off p H') k x → R x H') → te σ H R
def MkL (K : PySem.W.Frag) (p : Addr) (H0 : Hp) (σ : L2.St) (k n : Nat) (tas : TA) : Prop :=
  ∀ H (R : List V → Hp → Prop), Same H0 H → Pot p H → (∀ xs H', Same H H' → (∀ x ∈ xs, El K (off p H') k x) → xs.length = n → R xs H') → tas σ H R
theorem Mk.up {k : Nat} {te : TE} (h : Mk K p H0 σ k te) : Mk K p H0 σ (k + 1) te := fun H R s P q => h H R s P fun x H' s' e => q x H' s' e.up
theorem mkl_nil {k : Nat} : MkL K p H0 σ k 0 tNil := fun H R s P q => q [] H (Same.refl H) (fun _ h => nomatch h) rfl
theorem mkl_cons {k n : Nat} {te : TE} {tas : TA} (h : Mk K p H0 σ k te) (hs : MkL K p H0 σ k n tas) : MkL K p H0 σ k (n + 1) (tCons te tas) := fun H R s P q =>
  h H _ s P fun x H1 s1 e => hs H1 _ (s.trans s1) (P.keep s1) fun xs H2 s2 es l => q (x :: xs) H2 (s1.trans s2) (List.forall_mem_cons.2 ⟨e.mono (same_off s2), es⟩) (by rw [List.length_cons, l])
theorem mk_c {k : Nat} {v : V} (h : ∀ H, El K H k v) : Mk K p H0 σ k (tC v) := fun H R s P q => q v H (Same.refl H) (h _)
theorem mk_var {k i : Nat} {v : V} (hv : σ[i]? = some (some v)) (h : El K (off p H0) k v) : Mk K p H0 σ k (tVar i) := fun H R s P q => ⟨v, hv, q v H (Same.refl H) (h.mono (same_off s))⟩
theorem mk_lst {k n : Nat} {tas : TA} (h : MkL K p H0 σ k n tas) (hn : n ≤ 3) : Mk K p H0 σ (k + 1) (tLst tas) := fun H R s P q =>
  h H _ s P fun xs H1 s1 es l => ⟨by rw [l]; exact Nat.le_of_lt (small1000 (by omega)), fun a ha => q _ _ (s1.trans (same_new ha))
    (El.lst ((off_ne ((P.keep s1).new ha)).trans upd_same) (fun x hx => (es x hx).mono (same_off (same_new ha))) (by omega))⟩
theorem mk_tup {k n : Nat} {tas : TA} (h : MkL K p H0 σ k n tas) (hn : n ≤ 3) : Mk K p H0 σ (k + 1) (tTup tas) := fun H R s P q =>
  h H _ s P fun xs H1 s1 es l => ⟨by rw [l]; exact Nat.le_of_lt (small1000 (by omega)), fun a ha => q _ _ (s1.trans (same_new ha))
    (El.tup ((off_ne ((P.keep s1).new ha)).trans upd_same) (fun x hx => (es x hx).mono (same_off (same_new ha))) (by omega))⟩
theorem mk_lst0 {k : Nat} : Mk K p H0 σ (k + 1) (tLst tNil) := mk_lst mkl_nil (by decide)
theorem mk_lst1 {k : Nat} {a : TE} (h : Mk K p H0 σ k a) : Mk K p H0 σ (k + 1) (tLst (tCons a tNil)) := mk_lst (mkl_cons h mkl_nil) (by decide)
theorem mk_lst2 {k : Nat} {a b : TE} (h : Mk K p H0 σ k a) (h2 : Mk K p H0 σ k b) : Mk K p H0 σ (k + 1) (tLst (tCons a (tCons b tNil))) := mk_lst (mkl_cons h (mkl_cons h2 mkl_nil)) (by decide)
theorem mk_lst3 {k : Nat} {a b c : TE} (h : Mk K p H0 σ k a) (h2 : Mk K p H0 σ k b) (h3 : Mk K p H0 σ k c) : Mk K p H0 σ (k + 1) (tLst (tCons a (tCons b (tCons c tNil)))) := mk_lst (mkl_cons h (mkl_cons h2 (mkl_cons h3 mkl_nil))) (by decide)
theorem mk_tup0 {k : Nat} : Mk K p H0 σ (k + 1) (tTup tNil) := mk_tup mkl_nil (by decide)
theorem mk_tup1 {k : Nat} {a : TE} (h : Mk K p H0 σ k a) : Mk K p H0 σ (k + 1) (tTup (tCons a tNil)) := mk_tup (mkl_cons h mkl_nil) (by decide)
theorem mk_tup2 {k : Nat} {a b : TE} (h : Mk K p H0 σ k a) (h2 : Mk K p H0 σ k b) : Mk K p H0 σ (k + 1) (tTup (tCons a (tCons b tNil))) := mk_tup (mkl_cons h (mkl_cons h2 mkl_nil)) (by decide)
theorem mk_tup3 {k : Nat} {a b c : TE} (h : Mk K p H0 σ k a) (h2 : Mk K p H0 σ k b) (h3 : Mk K p H0 σ k c) : Mk K p H0 σ (k + 1) (tTup (tCons a (tCons b (tCons c tNil)))) := mk_tup (mkl_cons h (mkl_cons h2 (mkl_cons h3 mkl_nil))) (by decide)
theorem mk_dnew : Mk K p H0 σ 1 tDNewK := fun H R s P q => fun a ha => q _ _ (same_new ha) (El.dict0 ((off_ne (P.new ha)).trans upd_same))
/-- {pair: pair}, the pair in a slot -/
theorem mk_dispT {i : Nat} {b : Addr} {z y : Str} (hv : σ[i]? = some (some (.ref b))) (e : H0 b = some (.tup [.str z, .str y])) (az : Asc z) (ay : Asc y) (lz : z.length ≤ 100) (ly : y.length ≤ 100) (h : El K (off p H0) 1 (.ref b)) :
    Mk K p H0 σ 2 (tDispT (tVar i) (tVar i)) := fun H R s P q => fun a ha => by
  have e1 : upd H a (.dT []) b = some (.tup [.str z, .str y]) := (same_new ha) _ _ (s _ _ e)
  refine ⟨_, hv, _, hv, upd_same, [.inr z, .inr y], b, rfl, e1, ?_⟩
  have sa : Same H (upd (upd H a (.dT [])) a (.dT [([.inr z, .inr y], .ref b)])) := fun c o ec => by
    have n := ne_of_none ec ha
    rw [upd_ne n, upd_ne n]
    exact ec
  exact q _ _ sa (El.dict2 ((off_ne (P.new ha)).trans upd_same) az ay lz ly (h.mono (same_off (s.trans sa))))
theorem mk_pow {i j : Int} (h0 : CPow i j) (h : (i ^ j.toNat).natAbs < 10 ^ 31) : Mk K p H0 σ 0 (tOp (rI CPow fun i j => V.int (i ^ j.toNat)) (tC (.int i)) (tC (.int j))) := fun H R s P q =>
  ⟨i, j, rfl, rfl, h0, q _ H (Same.refl H) (El.int h)⟩
theorem mk_neg {i : Int} (h : (-i).natAbs < 10 ^ 31) : Mk K p H0 σ 0 (tUn (rU fun i => V.int (-i)) (tC (.int i))) := fun H R s P q => ⟨i, rfl, q _ H (Same.refl H) (El.int h)⟩
theorem mk_sub0 {i : Nat} {g : Int} (hv : σ[i]? = some (some (.int g))) (h : (0 - g).natAbs < 10 ^ 31) : Mk K p H0 σ 0 (tOp (rI0 fun i j => V.int (i - j)) (tC (.int 0)) (tVar i)) := fun H R s P q =>
  ⟨_, hv, _, _, rfl, rfl, q _ H (Same.refl H) (El.int h)⟩
/-- [e] * 3 -/
theorem mk_rep3 {k : Nat} {te : TE} (h : Mk K p H0 σ k te) : Mk K p H0 σ (k + 1) (tOp rRep (tLst (tCons te tNil)) (tC (.int 3))) := fun H R s P q =>
  h H _ s P fun x H1 s1 ex => ⟨by show 1 ≤ sizeLine; decide, fun a ha => ⟨a, _, _, rfl, rfl, upd_same, by decide, by decide, (by show 1 * 3 ≤ sizeLine; decide), fun b hb =>
    q _ _ (s1.trans ((same_new ha).trans (same_new hb))) (El.lst (xs := [x, x, x]) ((off_ne (((P.keep s1).keep (same_new ha)).new hb)).trans upd_same)
      (fun y hy => by
        have e : y = x := by simpa using hy
        rw [e]
        exact ex.mono (same_off ((same_new ha).trans (same_new hb)))) (by show 3 ≤ 3; decide))⟩⟩
/-- found = [..] -/
theorem lst_mk {n : Nat} {tas : TA} {Q : VK} (P : Pot p H0) (h : MkL K p H0 σ 2 n tas) (hl : n ≤ 60)
    (q : ∀ a ys H', Same H0 H' → H' a = some (.lst ys) → H0 a = none → (∀ x ∈ ys, El K (off p H') 2 x) → ys.length = n → Q (.ref a) H') : tLst tas σ H0 Q := by
  refine h H0 _ (Same.refl _) P fun ys H1 s1 ey l => ⟨by rw [l]; exact Nat.le_of_lt (small1000 (by omega)), fun a ha => ?_⟩
  exact q a ys _ (s1.trans (same_new ha)) upd_same (s1.free ha) (fun x hx => (ey x hx).mono (same_off (same_new ha))) l
/-- found = found + [..] -/
theorem cat_mk {n : Nat} {tas : TA} {m : Addr} {xs : List V} {i : Nat} {Q : VK} (hv : σ[i]? = some (some (.ref m))) (e : H0 m = some (.lst xs)) (P : Pot p H0) (es : ∀ x ∈ xs, El K (off p H0) 2 x) (h : MkL K p H0 σ 2 n tas) (hl : xs.length + n ≤ 60)
    (q : ∀ a ys H', Same H0 H' → H' a = some (.lst ys) → H0 a = none → (∀ x ∈ ys, El K (off p H') 2 x) → ys.length = xs.length + n → Q (.ref a) H') : tOp rCat (tVar i) (tLst tas) σ H0 Q := by
  refine ⟨_, hv, h H0 _ (Same.refl _) P fun ys H1 s1 ey l => ⟨by rw [l]; exact Nat.le_of_lt (small1000 (by omega)), fun a ha => ?_⟩⟩
  refine ⟨m, a, xs, ys, rfl, rfl, (same_new ha) _ _ (s1 _ _ e), upd_same, Nat.le_of_lt (small1000 (by omega)), fun b hb => ?_⟩
  have s2 := (same_new ha (o := .lst ys)).trans (same_new hb (o := .lst (xs ++ ys)))
  refine q b (xs ++ ys) _ (s1.trans s2) upd_same (s1.free ((same_new ha).free hb)) (fun x hx => ?_) (by rw [List.length_append, l])
  rcases List.mem_append.mp hx with h | h
  · exact (es x h).mono (same_off (s1.trans s2))
  · exact (ey x h).mono (same_off s2)
end
end Vx
/-! ## G24 -/
set_option Elab.async false
set_option linter.all false
set_option maxRecDepth 100000
set_option maxHeartbeats 4000000
namespace Vx
open PySem PySem.Spec PyProof.Rows L2 He
/-- a list or a tuple, walked -/
def iSeq (K : PySem.W.Frag) (tl : TE) : TI := fun σ H R => tl σ H fun x H1 => ∃ a, x = .ref a ∧ (((∃ xs, SqL K H1 a xs) ∧ R (Itl K a) H1) ∨ ((∃ xs, SqT K H1 a xs) ∧ R (Itt K a) H1))
theorem pi_seq {X : Cx} {tg l : Expr} {tl : TE} (hl : PE X l tl) : PI X tg l (iSeq X.K tl) := ⟨fun pins s0 σ H0 R I0 hyp => by
  refine thn (hl.run pins s0 σ H0 _ I0 hyp) fun val s2 ⟨y, H2, I2, ry, cont⟩ => ?_
  obtain ⟨adr, rfl, cont⟩ := cont
  cases ry
  rcases cont with ⟨⟨ys, hs⟩, fin⟩ | ⟨⟨ys, hs⟩, fin⟩
  · obtain ⟨itm, rel, isl, _⟩ := I2.list hs
    refine wpAny_pyIter_list isl.isList ⟨_, [s2.heap.objs.size], _, _, H2, rfl, I2.kept (t' := s2.toks) (fun _ _ z => Heap.get?_push_of_some _ z), turn_list adr _, ⟨_, Heap.get?_push_size _ rfl, rfl, rfl⟩, fun c hc => ?_, fin⟩
    obtain rfl : c = s2.heap.objs.size := by simpa using hc
    exact I2.fpOk (Nat.le_refl _) (I2.hok.fresh (Nat.le_refl _))
  · obtain ⟨itm, rel, ist, _⟩ := I2.tuple hs
    refine wpAny_pyIter_tuple (show s2.heap.IsTuple adr itm.toArray from ist) ⟨_, [s2.heap.objs.size], _, _, H2, rfl, I2.kept (t' := s2.toks) (fun _ _ z => Heap.get?_push_of_some _ z), turn_tuple adr _, ⟨_, Heap.get?_push_size _ rfl, rfl, rfl⟩, fun c hc => ?_, fin⟩
    obtain rfl : c = s2.heap.objs.size := by simpa using hc
    exact I2.fpOk (Nat.le_refl _) (I2.hok.fresh (Nat.le_refl _))⟩
theorem pi_seqK {X : Cx} {K : PySem.W.Frag} {tg l : Expr} {tl : TE} (hK : X.K = K) (hl : PE X l tl) : PI X tg l (iSeq K tl) := by
  subst hK
  exact pi_seq hl
section
variable {K : PySem.W.Frag} {σ : L2.St} {H : Hp}
/-- [g(part) for part in x], x a list or a tuple of data -/
theorem da_lcS {x : V} {d : PyData} {j : Nat} {vs : List Nat} {tl te : TE} {Q : VK} (g : PyData → Bool) (hv : ∀ R : VK, R x H → tl σ H R) (hd : Da K H x d) (ok : okD d = true) (sq : seqD d = true)
    (ht : ∀ v d H1 (R : VK), Da K H1 v d → okD d = true → (∀ H2, Same H1 H2 → R (.bl (g d)) H2) → te ((wipe σ vs).set j (some v)) H1 R)
    (hw : ∀ x, wipe ((wipe σ vs).set j (some x)) vs = wipe σ vs)
    (q : ∀ D H' ds, H D = none → Same H H' → (d = .list ds ∨ d = .tuple ds) → H' D = some (.lst ((ds.map g).map V.bl)) → Q (.ref D) H') : tLc (iSeq K tl) (gName j) tYes te vs σ H Q := by
  cases hd with
  | non => cases sq
  | bl _ => cases sq
  | int _ => cases sq
  | str _ => cases sq
  | dK _ _ => cases sq
  | dT _ _ => cases sq
  | @lst a xs ds hp r =>
    refine hv _ ⟨a, rfl, .inl ⟨⟨_, hp⟩, fun D hD => lc_list (K := K) (a := a) (xs := xs) (fun i H' => H D = none ∧ Same H H' ∧ H' D = some (.lst ((ds.map fun d => V.bl (g d)).take i))) ⟨hD, same_new hD, upd_same⟩
      (fun i H' _ z => z.2.1.seq hp) (fun i x H' hi z => ⟨hw x, das_step hi r (okLst ok).2 (okLst ok).1 ht z fun _ h => h⟩) fun H' z => q D H' ds z.1 z.2.1 (.inl rfl) (z.2.2.trans ?_)⟩⟩
    rw [das_end r.len]
  | @tup a xs ds hp r =>
    refine hv _ ⟨a, rfl, .inr ⟨⟨_, hp⟩, fun D hD => lc_tup (K := K) (a := a) (xs := xs) (fun i H' => H D = none ∧ Same H H' ∧ H' D = some (.lst ((ds.map fun d => V.bl (g d)).take i))) ⟨hD, same_new hD, upd_same⟩
      (fun i H' _ z => Vx.seqT z.2.1 hp) (fun i x H' hi z => ⟨hw x, das_step hi r (okTup ok).2 (okTup ok).1 ht z fun _ h => h⟩) fun H' z => q D H' ds z.1 z.2.1 (.inr rfl) (z.2.2.trans ?_)⟩⟩
    rw [das_end r.len]
theorem show_bools (bs : List Bool) (h : bs.length ≤ 60) : Show (.list (bs.map PyData.bool)) :=
  G_menu (fun d hd => by obtain ⟨b, _, rfl⟩ := List.mem_map.mp hd; exact (G_bl b).up.up) (by rw [List.length_map]; exact h)
theorem das_bools : ∀ bs : List Bool, Das K H (bs.map V.bl) (bs.map PyData.bool)
  | [] => .nil
  | b :: bs => .cons (.bl b) (das_bools bs)
/-- isinstance(x, (list, tuple)) and all([pair(part) for part in x]) -/
theorem all_pair {i j : Nat} {vs : List Nat} {x : V} {d : PyData} {te : TE} {Q : VK} (hv : ∀ H : Hp, ∀ R : VK, R x H → tVar i σ H R) (hd : Da K H x d) (ok : okD d = true)
    (ht : ∀ v d H1 (R : VK), Da K H1 v d → okD d = true → (∀ H2, Same H1 H2 → R (.bl (pairD d)) H2) → te ((wipe σ vs).set j (some v)) H1 R)
    (hw : ∀ x, wipe ((wipe σ vs).set j (some x)) vs = wipe σ vs) (q : ∀ H', Same H H' → Q (.bl (rowD d)) H') :
    tAndV (tCB (rIsDT K) (tCons (tVar i) (tCons (tTup (tCons (tC (.ty "list")) (tCons (tC (.ty "tuple")) tNil))) tNil))) (tCB (rAll K) (tCons (tLc (iSeq K (tVar i)) (gName j) tYes te vs) tNil)) σ H Q := by
  refine hv _ _ ⟨by show 2 ≤ sizeLine; decide, fun a ha => ⟨x, d, a, rfl, upd_same, hd.mono (same_new ha), _, rfl, ?_⟩⟩
  rw [isLT]
  cases e : seqD d with
  | false =>
    refine iteF ?_
    have e2 : rowD d = false := by
      cases d <;> first | rfl | cases e
    rw [← e2]
    exact q _ (same_new ha)
  | true =>
    refine iteT (in_cb (in_cons ?_))
    refine da_lcS (K := K) pairD (hv _) (hd.mono (same_new ha)) ok e ht hw fun D H2 ds n2 s2 ed e2 => ?_
    refine ⟨D, _, rfl, SqL.of e2, ?_⟩
    rw [all_map]
    have e3 : rowD d = ds.all pairD := by
      rcases ed with rfl | rfl <;> rfl
    rw [← e3]
    exact q _ ((same_new ha).trans s2)
/-- number(x) and x >= 0 -/
theorem cnt_ev {i : Nat} {x : V} {d : PyData} {Q : VK} (hv : ∀ H : Hp, ∀ R : VK, R x H → tVar i σ H R) (hd : Da K H x d) (ok : okD d = true) (q : ∀ H', Same H H' → Q (.bl (cntD d)) H') :
    tAndV (tCall (spP K numD) [] E0 (tCons (tVar i) tNil)) (tOp (rI0 fun i j => V.bl (decide (j ≤ i))) (tVar i) (tC (.int 0))) σ H Q := by
  refine hv _ _ ⟨x, d, rfl, hd, ok, fun H1 s1 => ⟨_, rfl, ?_⟩⟩
  have q1 := q H1 s1
  cases hd with
  | int i => exact iteT (hv _ _ ⟨_, _, rfl, rfl, q1⟩)
  | non => exact iteF q1
  | bl _ => exact iteF q1
  | str _ => exact iteF q1
  | lst _ _ => exact iteF q1
  | tup _ _ => exact iteF q1
  | dK _ _ => exact iteF q1
  | dT _ _ => exact iteF q1
end
end Vx
/-! ## G25 -/
set_option Elab.async false
set_option linter.all false
set_option maxRecDepth 100000
set_option maxHeartbeats 4000000
namespace Vx
open PySem PySem.Spec PyProof.Rows L2
section
variable {P : Program} {w : World} {K : PySem.W.Frag} {mg mb : Str → Option Value} {k : Nat} {fa a : Addr} {fd : FuncData} {x : Str} {sp : Sp} {t : Shared} {us : List Value} {zs : List Int}
/-- the call of the law at an abstract heap that tracks at most the script -/
theorem callAt (inK : K.In t.heap) (gN : t.heap.Ns mainGlobals mg) (bN : t.heap.Ns builtinsNs mb) (bOk : ∀ y : Str, y ≠ "__name__" → mb y = bootBuiltins y) (noL : t.heap.NoLimit) (noG : t.gens = #[])
    (scr : t.heap.get? a = some { cls := .type "list", data := .seq us.toArray }) (room : Room k callerA) (fn : ∀ base : Heap, K.In base → base.Ns mainGlobals mg → FnG P w K mg base CX0 k fa fd [x] sp)
    (bnd : ∀ (s : Shared) (u : Value), BindsTo s fd ⟨[u], []⟩ [(x, u)]) {H : Hp} (prom : sp [.ref a] H (fun v _ => v = .bl true) fun _ _ _ => False) (good : HOk P w H t.heap)
    (onl : ∀ b u, H b = some u → b = a ∧ ∃ o xs, u = .frz o (.lst xs)) (offK : (H a).isSome = true → K.lookup a = none) :
    codeAny (model P w) callerA (.call (.ref fa) ⟨[.ref a], []⟩) (fun r s' => r = .ok (.ret (.bool true)) ∧ OldK t.heap s'.heap ∧ s'.os = t.os ∧ AllBare s'.gens) t := by
  -- what is not the script stands in the hidden heap too
  have keepD : ∀ {b : Addr} {o : Obj} {es : Array DictEntry} {n : Nat}, t.heap.get? b = some o → o.data = .dict es n → (hidT t.heap H).get? b = some o := by
    intro b o es n eo ed
    refine hidT_get eo ?_
    rcases hb : H b with _ | u
    · rfl
    · obtain ⟨rfl, _⟩ := onl b u hb
      rw [scr] at eo
      cases eo
      exact nomatch (show Data.seq us.toArray _ = Data.dict es n from ed)
  have keepN : ∀ {b : Addr} {m : Str → Option Value}, t.heap.Ns b m → (hidT t.heap H).Ns b m := by
    rintro b m ⟨o, es, n, h1, h2, h3⟩
    exact ⟨o, es, n, keepD h1 h2, h2, h3⟩
  have keepK : K.In (hidT t.heap H) := by
    intro b o eb
    refine hidT_get (inK b o eb) ?_
    rcases hb : H b with _ | u
    · rfl
    · obtain ⟨rfl, _⟩ := onl b u hb
      rw [offK (by rw [hb]; rfl)] at eb
      cases eb
  obtain ⟨ml, l1, l2⟩ := noL
  have env : Env0 P w K mg (hidT t.heap H) callerA [] t H :=
    ⟨rfl, ⟨keepK, keepN gN, ⟨mb, keepN bN, bOk⟩, ml, keepN l1, l2⟩, fun _ _ e => of_hidT e, Nat.le_of_eq (hidT_size _ _), trivial, (fun _ hb => nomatch hb), good, .of_eq noG⟩
  have go := (fn _ keepK (keepN gN)).go callerA [] t H ⟨[.ref a], []⟩ [.ref a] [.ref a] _ _ room rfl env (bnd t (.ref a)) (.cons rfl .nil) prom
  refine codeAny_mono go ?_
  rintro (er | fl) s2 out
  · exact out.elim
  · rcases fl with _ | _ | _ | u
    all_goals first | exact out.elim | skip
    obtain ⟨v, H2, sameOs, bare, kept, good2, rv, hv⟩ := out
    cases (show v = .bl true from hv)
    cases (show u = Value.bool true from rv)
    refine ⟨rfl, OldK.of_keep fun b o eb => ?_, sameOs, bare⟩
    rcases hb : H b with _ | u
    · exact kept.keep b o eb hb (fun z => nomatch (show b ∈ ([] : List Addr) from z)) (fun z => nomatch z)
    · obtain ⟨_, ob, xs, rfl⟩ := onl b u hb
      have q1 := (good b _ hb).1
      have q2 := (good2 b _ (kept.frzs b ob _ hb)).1
      rw [eb] at q1
      cases q1
      exact q2
/-- the script, tracked as it stands -/
def trk (o : Obj) (xs : List V) (a : Addr) : Hp := fun b => if b = a then some (.frz o (.lst xs)) else none
theorem callG (inK : K.In t.heap) (gN : t.heap.Ns mainGlobals mg) (bN : t.heap.Ns builtinsNs mb) (bOk : ∀ y : Str, y ≠ "__name__" → mb y = bootBuiltins y) (noL : t.heap.NoLimit) (noG : t.gens = #[])
    (scr : t.heap.get? a = some { cls := .type "list", data := .seq us.toArray }) (ii : IntsAre us zs) (few : zs.length ≤ sizeLine) (room : Room k callerA)
    (fn : ∀ base : Heap, K.In base → base.Ns mainGlobals mg → FnG P w K mg base CX0 k fa fd [x] sp) (bnd : ∀ (s : Shared) (u : Value), BindsTo s fd ⟨[u], []⟩ [(x, u)])
    (prom : ∀ H : Hp, SqL K H a (zs.map V.int) → sp [.ref a] H (fun v _ => v = .bl true) fun _ _ _ => False) :
    codeAny (model P w) callerA (.call (.ref fa) ⟨[.ref a], []⟩) (fun r s' => r = .ok (.ret (.bool true)) ∧ OldK t.heap s'.heap ∧ s'.os = t.os ∧ AllBare s'.gens) t := by
  have rel := vals_ints ii
  have len := ii.length
  rcases hk : K.lookup a with _ | o
  · have at_ : trk { cls := .type "list", data := .seq us.toArray } (zs.map V.int) a a = some (.frz { cls := .type "list", data := .seq us.toArray } (.lst (zs.map V.int))) := if_pos rfl
    refine callAt (H := trk { cls := .type "list", data := .seq us.toArray } (zs.map V.int) a) inK gN bN bOk noL noG scr room fn bnd (prom _ (.inl (.inr ⟨_, at_⟩))) ?_ ?_ fun _ => hk
    · intro b u eu
      by_cases hb : b = a
      · subst hb
        cases at_.symm.trans eu
        exact ⟨scr, by rw [List.length_map]; exact few, us, _, rel, scr⟩
      · cases (if_neg hb).symm.trans eu
    · intro b u eu
      by_cases hb : b = a
      · subst hb
        cases at_.symm.trans eu
        exact ⟨rfl, _, _, rfl⟩
      · cases (if_neg hb).symm.trans eu
  · have eo := inK a o hk
    rw [scr] at eo
    cases eo
    exact callAt (H := fun _ => none) inK gN bN bOk noL noG scr room fn bnd (prom _ (.inr ⟨_, us.toArray, _, hk, rfl, rfl, rfl, by rw [List.size_toArray, len]; exact few, by simpa using rel⟩))
      (fun _ _ z => nomatch z) (fun _ _ z => nomatch z) fun z => nomatch z
end
/-- the end of a law whose def keeps its promise where no repr is open -/
theorem walkG {l : PySem.W.OpenLaw} {n k : Nat} {q : Program} {loose : List Str} {XP : (Str → Option Value) → Heap → Prop} {YP : World → Heap → Prop} {d : DefRec} {x : Str} (most : l.most = some n) (n2 : n ≤ sizeLine) (nodf : d.params.defaults = []) (room : Room k callerA)
    (F : ∀ (w : World) (mg : Str → Option Value) (fa : Addr) (h : Heap), YP w h → h.Ns mainGlobals mg → mg d.name = some (.ref fa) → ∃ (K : PySem.W.Frag) (fd : FuncData) (sp : Sp), K.In h ∧ (∀ (s : Shared) (u : Value), BindsTo s fd ⟨[u], []⟩ [(x, u)]) ∧
      (∀ (H : Hp) (a : Addr) (zs : List Int), zs.length ≤ n → SqL K H a (zs.map V.int) → sp [.ref a] H (fun v _ => v = .bl true) fun _ _ _ => False) ∧ ∀ base : Heap, K.In base → base.Ns mainGlobals mg → FnG l.prog w K mg base CX0 k fa fd [x] sp) :
    PySem.W.WalkO q loose XP YP l.row.toRowW d [] (fun f vs => PySem.call f vs) := by
  refine Att.attach_call most nodf fun w t0 t mg mb fa o pm cd doc a us zs G Y ho hd hcd hmg scr ii len noG => ?_
  obtain ⟨K, fd, sp, inK, bnd, prom, fn⟩ := F w mg fa _ Y G.T.g hmg
  exact callG inK G.T.g G.T.b G.T.builtins G.T.nolimit noG scr ii (Nat.le_trans len n2) room fn bnd fun H hS => prom H a zs len hS
end Vx
/-! ## G26 -/
set_option Elab.async false
set_option linter.all false
set_option maxRecDepth 100000
set_option maxHeartbeats 4000000
namespace Vx
open PySem PySem.Spec PyProof.Rows L2 He
open PySem.W (keepIn findIn subIn typeIn hasDictIn mroIn specialIn takesIn)
/-! ### a def of the text whose promise holds whatever is open around; CX: what it may let out -/
structure Co (P : Program) (w : World) (K : PySem.W.Frag) (mg : Str → Option Value) (base : Heap) (CX : CXT) (k : Nat) (x : Str) (ps : List Str) (sp : Sp) : Prop where
  ex : ∃ (f : Addr) (fd : FuncData), FnOk P w K mg base CX k f fd ps sp ∧ mg x = some (.ref f) ∧ keepIn K (.ref f) = true ∧ Binds K fd ps []
section
variable {P : Program} {w : World} {K : PySem.W.Frag} {mg : Str → Option Value} {base : Heap} {CX : CXT} {k : Nat} {x : Str} {ps : List Str} {sp : Sp} {st : Stmt} {N : List Str}
theorem co_mk (F : At K mg x st) (S : FnScope N ps (defScope st)) (len : ∀ vs H Q E, sp vs H Q E → vs.length = ps.length)
    (hb : ∀ (kV doc pm : Value) (an : Option Addr) (cdv ct : Value) (us : List Value), us.length = ps.length → bindArgs (PySem.W.fnOf x x (defArgs st) (defBody st) (defScope st) .none kV doc pm an cdv ct) ⟨us, []⟩ = pure (ps.zip us))
    (hbody : ∀ (f : Addr) (cdv : Value) (A : Around) (outer : List Env) (s : Shared) (H : Hp) (vs : List V) (Q : VK) (E : XK),
      Room k (A.deeper (envOfC x (defScope st) s.heap.objs.size f cdv)) → sp vs H Q E →
      ∃ t, PSs (cxOf CX0 P w K mg base N x (defScope st) f cdv A outer s H E).nox (defBody st) t ∧ t { nx := fun _ H' => Q .non H', rt := Q } (start N vs) H) :
    Co P w K mg base CX0 (k + 1) x ps sp := by
  obtain ⟨f, fd, F, gf⟩ := F.ex
  exact ⟨f, fd, F.ok S len fun cdv A outer s H vs Q E hr h => hbody f cdv A outer s H vs Q E hr h, gf, F.kp, F.binds hb⟩
theorem co_mkX (F : At K mg x st) (S : FnScope N ps (defScope st)) (len : ∀ vs H Q E, sp vs H Q E → vs.length = ps.length)
    (hb : ∀ (kV doc pm : Value) (an : Option Addr) (cdv ct : Value) (us : List Value), us.length = ps.length → bindArgs (PySem.W.fnOf x x (defArgs st) (defBody st) (defScope st) .none kV doc pm an cdv ct) ⟨us, []⟩ = pure (ps.zip us))
    (hbody : ∀ (f : Addr) (cdv : Value) (A : Around) (outer : List Env) (s : Shared) (H : Hp) (vs : List V) (Q : VK) (E : XK),
      Room k (A.deeper (envOfC x (defScope st) s.heap.objs.size f cdv)) → sp vs H Q E →
      ∃ t, PSs (cxOf (L2.CX P w) P w K mg base N x (defScope st) f cdv A outer s H E) (defBody st) t ∧ t { nx := fun _ H' => Q .non H', rt := Q } (start N vs) H) :
    Co P w K mg base (L2.CX P w) (k + 1) x ps sp := by
  obtain ⟨f, fd, F, gf⟩ := F.ex
  exact ⟨f, fd, F.okX S len fun cdv A outer s H vs Q E hr h => hbody f cdv A outer s H vs Q E hr h, gf, F.kp, F.binds hb⟩
theorem Co.cd (C : Co P w K mg base CX0 k x ps sp) : Cd P w K mg base k x ps sp := by
  obtain ⟨f, fd, F, r⟩ := C.ex
  exact ⟨f, fd, FnG.of F, r⟩
end
section
variable {X : Cx} {CX : CXT} {k : Nat} {x : Str} {ps : List Str} {sp : Sp} {E : XK} {p pos apos : Pos} {e o : Expr} {es : List Expr} {t : TA} {ta : TE} {m : Str} {C g q : Addr} {mc : Value} {pl : Sem Bool}
/-- f(e, ..) -/
theorem pe_coX (C : Co X.prog X.w X.K X.mg X.base CX k x ps sp) (hx : Passes CX X E) (hr : Room k X.A) (hg : Gl X x) (ha : PA X (e :: es) t)
    (hdb : (x == ("__debug__" : Str)) = false := by decide) (he : starEach (e :: es) X.env = (false, eval e X.env) :: starEach es X.env := by rfl)
    (hpl : (backTo pos (starEach es X.env)).any (·.1) = false := by rfl) : PE X (.Call (.Name x p) (e :: es) [] pos) (tCall sp [] E t) := by
  obtain ⟨f, fd, F, gf, kf, b⟩ := C.ex
  exact pe_call F hr hg gf kf b .nil hx ha hdb he hpl
theorem pe_co (C : Co X.prog X.w X.K X.mg X.base CX0 k x ps sp) (hr : Room k X.A) (hg : Gl X x) (ha : PA X (e :: es) t)
    (hdb : (x == ("__debug__" : Str)) = false := by decide) (he : starEach (e :: es) X.env = (false, eval e X.env) :: starEach es X.env := by rfl)
    (hpl : (backTo pos (starEach es X.env)).any (·.1) = false := by rfl) : PE X (.Call (.Name x p) (e :: es) [] pos) (tCall sp [] E0 t) := pe_coX C pass0 hr hg ha hdb he hpl

/-! ### a staticmethod, read off its class -/
structure CSta (K : PySem.W.Frag) (C : Addr) (mc : Value) (m : Str) (q g : Addr) : Prop where
  at_ : PySem.W.findCls K (.ref C) mc m = some (.get (.builtin "staticmethod.__get__") (.ref q) .none (.ref C))
  rc : ∃ rest, PySem.W.recIn K q "staticmethod" = some (.ref g :: rest)
  kp : keepIn K (.ref g) = true
def tSta (C : Addr) (sp : Sp) (E : XK) (ta : TE) (t : TA) : TE := fun σ H Q => ta σ H fun x H1 => x = .ref C ∧ t σ H1 fun vs H2 => sp vs H2 Q E
theorem getsta_ok {pins : List (Addr × Obj)} {σ : L2.St} {H : Hp} {s : Shared} {A : Around} {E : Value → Shared → Prop} {b : Bool} {Q : Value → Shared → Prop} (I : Inv X pins σ H s) (r : ClX.CRead X.K C mc) (c : CSta X.K C mc m q g)
    (h : ∀ s', Inv X pins σ H s' → Q (.ref g) s') : wpAny (model X.prog X.w) A (getAttr (.ref C) m b) Q E s := by
  obtain ⟨rest, hp⟩ := c.rc
  exact PySem.W.cls_bind I.kIn r.rd c.at_ (wpAny_call (PySem.W.sm_get (s := { s with toks := s.toks + 1 }) I.kIn hp (PySem.W.handed_on rfl (h _ (I.tok _)))))
theorem pe_sta {fd : FuncData} (he : PE X o ta) (r : ClX.CRead X.K C mc) (c : CSta X.K C mc m q g) (F : FnOk X.prog X.w X.K X.mg X.base CX k g fd ps sp) (hb : Binds X.K fd ps []) (hx : Passes CX X E) (hr : Room k X.A) (ha : PA X (e :: es) t)
    (hst : starEach (e :: es) X.env = (false, eval e X.env) :: starEach es X.env := by rfl) (hpl : (backTo pos (starEach es X.env)).any (·.1) = false := by rfl)
    (ht : eval (.Call (.Attribute o m apos) (e :: es) [] pos) X.env = (do
      let ov ← eval o X.env
      standAt apos.atName
      let (f, first) ← holding [ov] (getMethod ov m pl)
      callWith pos f first (backTo pos (starEach (e :: es) X.env)) (backToKw pos (keywordEach [] X.env))) := by rfl) :
    PE X (.Call (.Attribute o m apos) (e :: es) [] pos) (tSta C sp E ta t) := by
  refine ⟨fun pins s σ H Q I h => ?_⟩
  refine PySem.W.methodCall_KW (pl := pl) (thn (he.run pins s σ H _ I h) fun u s1 ⟨x, H1, I1, rx, ex, q⟩ => ?_) ht
  subst ex
  obtain rfl : u = Value.ref C := rx
  refine PySem.W.method_cls I1.kIn r.ga (getsta_ok I1 r c fun s2 I2 => ?_)
  refine PySem.W.callWith_K (h₀ := X.base) I2.ok.mod.kin c.kp (thn (ha.run pos _ s2 σ H1 _ I2 q) fun us s3 ⟨vs, H2, I3, rv, q2⟩ => ⟨I3.kIn, ?_⟩) hst hpl
  exact run_fn F hr hb .nil hx I3 rv (by rw [List.append_nil]; exact q2)
end

/-! ### an own error, raised -/
section
variable {b : XB} {X : Cx} {e : Expr} {es : List Expr} {ta : TA} {f x : Str} {p pos pos2 : Pos} {C fI : Addr}
/-- C(e) where it is raised: its dict is an error's dict -/
def tRX (C : Addr) (f : Str) (ta : TA) : L2.St → Hp → XK → Prop := fun σ H Q => ta σ H fun vs H1 => ∃ y, vs = [y] ∧ ∀ d, H1 d = none → Q (.ref C) (some d) (upd H1 d (.xd [(f, y)]))
theorem pmk_x {k : Nat} {fd : FuncData} (T : XcC b X.K C) (no : findIn X.K (.ref C) f = some none) (iC : findIn X.K (.ref C) "__init__" = some (some (.ref fI))) (tI : typeIn X.K (.ref fI) = some (.type "function"))
    (F1 : FnOk X.prog X.w X.K X.mg X.base CX0 k fI fd ["self", f] (spX1 b X.K f)) (hr : Room (k + 1) X.A) (hb : KBinds X.K fd ["self", f] [] (fun us _ => us) (fun vs _ => vs)) (hg : Gl X x) (hm : X.mg x = some (.ref C)) (ha : PA X (e :: es) ta)
    (db : (x == ("__debug__" : Str)) = false := by decide) (st : starEach (e :: es) X.env = (false, eval e X.env) :: starEach es X.env := by rfl) (pl : (backTo pos (starEach es X.env)).any (·.1) = false := by rfl) :
    PMk X (.Call (.Name x p) (e :: es) [] pos) (tRX C f ta) := by
  intro pins s σ H Q I q
  obtain ⟨nm, qn, N, bs, bm, sn, sub, ab, col, dd, k0, k1, k2, k3, k5, inK, tail⟩ := T.cls
  refine wpAny_Call_Name_kw (ld_glob I hg hm (PySem.W.callWith_K (h₀ := X.base) I.ok.mod.kin T.kC (thn (ha.run pos pins s σ H _ I q) fun us s1 out => ?_) st pl) db)
  obtain ⟨vs, H1, I1, r1, y, rfl, q1⟩ := out
  refine ⟨I1.kIn, ?_⟩
  obtain ⟨hp, gs, dr, tk, os⟩ := s1
  -- the new error's place and heap
  generalize hh : (hp.push (PySem.W.kdv_tup us)).push (PySem.HandSPX.excO C hp.objs.size) = hn
  have keep : ∀ c o, hp.get? c = some o → hn.get? c = some o := fun c o z => by
    rw [← hh]
    exact Heap.get?_push_of_some _ (Heap.get?_push_of_some _ z)
  have new : hn.get? (hp.objs.size + 1) = some (PySem.HandSPX.excO C hp.objs.size) := by
    rw [← hh]
    heap_get
  have far : hp.objs.size ≤ hp.objs.size + 1 := Nat.le_succ _
  have none1 : H1 (hp.objs.size + 1) = none := I1.hok.fresh far
  have I2 := I1.laid (t' := tk) (o := exo (hp.objs.size + 1) C none) keep far (exo_ok new)
  have rel : Vals [V.ref (hp.objs.size + 1), y] (Value.ref (hp.objs.size + 1) :: us) := .cons rfl r1
  have one : us.length ≤ sizeLine := by
    rw [← r1.length]
    show 1 ≤ sizeLine
    decide
  have prom : spX1 b X.K f [.ref (hp.objs.size + 1), y] (upd H1 (hp.objs.size + 1) (exo (hp.objs.size + 1) C none)) (fun v H2 => v = .non ∧ ∃ d, H1 d = none ∧ d ≠ hp.objs.size + 1 ∧
      H2 = upd (upd (upd H1 (hp.objs.size + 1) (exo (hp.objs.size + 1) C none)) d (exd d [(f, y)])) (hp.objs.size + 1) (exo (hp.objs.size + 1) C (some d))) (fun _ _ _ => False) :=
    ⟨_, C, y, rfl, T, no, upd_same, fun d hd ne => ⟨rfl, d, (upd_ne ne).symm.trans hd, ne, rfl⟩⟩
  have ini := F1.run _ X.stack _ _ ⟨Value.ref (hp.objs.size + 1) :: us, []⟩ (Value.ref (hp.objs.size + 1) :: us) _ _ (fun _ _ _ => False) (hr.make C us []) (I2.env0.make C us []) (hb.to _ _ [] I2.kIn rel.length.symm) rel prom
  subst hh
  refine wpAny_call (xcall (kw := []) b.F (fun Y => PySem.W.excTail_contains Y bm tail) (I1.kIn _ _ inK) (PySem.W.looks_findIn I1.kIn iC) (fun self => PySem.W.bind_fn I1.kIn self tI) one (codeAny_mono ini fun r s2 out => ?_))
  rcases r with er | fl
  · exact (show False from out).elim
  · rcases fl with _ | _ | _ | u
    all_goals first | exact False.elim out | skip
    obtain ⟨v, H2, same, bare, un, good, rv, rfl, d, none2, ne, e2⟩ := out
    have atA : H2 (hp.objs.size + 1) = some (exo (hp.objs.size + 1) C (some d)) := by rw [e2, upd_same]
    have atD : H2 d = some (exd d [(f, y)]) := by rw [e2, upd_ne ne, upd_same]
    obtain ⟨h2, g2, d2, t2, os2⟩ := s2
    refine ⟨rv, mk_end (raises_own T.exC T.tyC) I1 far keep un good same bare atA atD none2 ?_⟩
    have back : upd (del H2 (hp.objs.size + 1)) d (.xd [(f, y)]) = upd H1 d (.xd [(f, y)]) := by
      funext c
      by_cases c1 : c = d
      · rw [c1, upd_same, upd_same]
      · rw [upd_ne c1, upd_ne c1]
        by_cases c2 : c = hp.objs.size + 1
        · rw [c2, del_same, none1]
        · rw [del_ne c2, e2, upd_ne c2, upd_ne c1, upd_ne c2]
    rw [back]
    exact q1 d none2
theorem ps_rx {c : Str} (T : ErrC X.prog X.w X.K X.mg X.base b c f C) (hr : Room 2 X.A) {W : WX} (hc : X.calm = true) (tk : Takes X W) (hg : Gl X c) (ha : PA X [e] ta)
    (hdb : (c == ("__debug__" : Str)) = false := by decide) (he : starEach [e] X.env = (false, eval e X.env) :: starEach [] X.env := by rfl) (hpl : (backTo pos (starEach [] X.env)).any (·.1) = false := by rfl) :
    PS X (.Raise (some (.Call (.Name c p) [e] [] pos)) none pos2) (fun _ σ H => tRX C f ta σ H fun cls d H' => W cls d σ H') := by
  obtain ⟨fI, fd, iC, tI, F1, hb, _⟩ := T.ini
  exact ps_raise hc tk (pmk_x T.T T.no iC tI F1 hr hb hg T.hm ha hdb he hpl)
end
end Vx
/-! ## G27 -/
set_option Elab.async false
set_option linter.all false
set_option maxRecDepth 100000
set_option maxHeartbeats 5000000
namespace Vx
open PySem PySem.Spec PyProof.Rows L2 He
open PySem.W (keepIn findIn subIn typeIn hasDictIn mroIn specialIn takesIn)
/-! ### try: .. except x as n: .. except y as n: .. -/
abbrev Clause := Value × (Addr → Value → Option Addr → TS)
/-- behind a suite its name stands for nothing -/
def goneEnds (i : Nat) (D : Ends) : Ends := { nx := fun τ K => D.nx (τ.set i none) K, rt := D.rt, bk := fun τ K => D.bk (τ.set i none) K, ct := fun τ K => D.ct (τ.set i none) K }
/-- what the clauses wish of an error of the body, from the first on; their name is in slot i -/
def wClauses (K : PySem.W.Frag) (i : Nat) (Wout : WX) (D : Ends) : List Clause → WX
  | [] => Wout
  | q :: qs => fun cls d τ H => ∃ yes, PySem.W.exmOne K cls q.1 = some yes ∧ (yes = false → wClauses K i Wout D qs cls d τ H) ∧ (yes = true → ∀ a, H a = none → q.2 a cls d (goneEnds i D) (τ.set i (some (.ref a))) H)
/-- one clause by its suite -/
structure ClauseOk (X : Cx) (n : Str) (h : ExceptHandler) (q : Clause) : Prop where
  ex : ∃ (x : Str) (first : Stmt) (more : List Stmt) (p1 p2 : Pos), h = .ExceptHandler (some (.Name x p1)) (some n) (first :: more) p2 ∧ Names X x q.1 ∧
    ∀ (a : Addr) (oe : Obj) (cls : Value) (d : Option Addr) (pn : List (Addr × Obj)), Zc cls d oe → (∃ vs, oe.data = .fields vs) → PSs (X.suite a ((a, oe) :: pn)) (first :: more) (q.2 a cls d)
section
variable {X : Cx} {pins : List (Addr × Obj)} {n : Str} {i : Nat}
/-- the error a in the air over the ground B, all else as the invariant says -/
structure Aloft (X : Cx) (pins : List (Addr × Obj)) (τ : L2.St) (H : Hp) (a : Addr) (cls : Value) (d : Option Addr) (s0 : Shared) (B : Heap) (s : Shared) : Prop where
  inv : Inv X pins τ H s0
  ground : ∀ b o, s0.heap.get? b = some o → b ∉ frs X.stack → B.get? b = some o
  fly : HandSPX.FlyingZ B (X.env :: X.outer) a (Zc cls d) s.heap
  up : s0.heap.UpToSlots s.heap
  free : H a = none
  os : s.os = s0.os
  bare : AllBare s.gens
variable {τ : L2.St} {H : Hp} {a : Addr} {cls : Value} {d : Option Addr} {s0 s : Shared} {B : Heap}
theorem Aloft.now (F : Aloft X pins τ H a cls d s0 B s) : Inv X pins τ H s := F.inv.landed F.ground F.fly.1 F.up F.os F.bare
theorem Aloft.off (F : Aloft X pins τ H a cls d s0 B s) (hf : X.env.frame = some X.env.locals) : a ≠ X.env.locals ∧ a ∉ X.fs := by
  obtain ⟨oa, va, ga, _, da⟩ := F.fly.there
  have far : a ∉ frs (X.env :: X.outer) := fun bad => by
    obtain ⟨_, ob, gb, other⟩ := F.fly.2.2.1.mem bad
    cases ga.symm.trans gb
    exact other _ da
  refine ⟨fun same => far (List.mem_filterMap.mpr ⟨X.env, List.mem_cons_self .., hf.trans (by rw [same])⟩), fun bad => ?_⟩
  obtain ⟨env, henv, q⟩ := List.mem_filterMap.mp bad
  exact far (List.mem_filterMap.mpr ⟨env, List.mem_cons_of_mem _ henv, q⟩)
/-- no clause is left: it goes on -/
theorem Aloft.onward {Wout : WX} {Q : Flow → Shared → Prop} (F : Aloft X pins τ H a cls d s0 B s) (hs : X.stack = X.env :: X.outer) (hf : X.env.frame = some X.env.locals) (tk : Takes X Wout) (w : Wout cls d τ H) :
    wpAny (model X.prog X.w) X.A (handleBy (.ref a) X.env []) Q X.xe s := by
  have fly := F.fly
  obtain ⟨_, _, _, oa, va, T, _, _, ga, _, da, at1, _⟩ := id fly
  have last : wpAny (model X.prog X.w) X.A (setFlight (.ref a) X.env.frame) (fun _ s' => wpAny (model X.prog X.w) X.A (throw (.ref a) : Sem Flow) Q X.xe s') X.xe s := by
    rw [hf]
    exact HandSPX.setFlight_upZ fly fun h' held up' => wpAny_throw (tk _ _ ⟨a, B, s0, pins, τ, H, cls, d, rfl, F.inv, F.ground, F.up.trans up', .inr (.inr (by rw [hs]; exact held)), F.free, F.os, F.bare, w⟩)
  refine wpAny_handleBy_nil ?_
  unfold PySem.passOn
  refine wpAny_bind (wpAny_field ga da at1 ?_)
  have some_ : ¬ ((Value.ref T == Value.none) = true) := by simp
  rw [if_neg some_]
  first
    | exact wpAny_bind last
    | exact wpAny_bind (wpAny_pure (wpAny_bind last))
theorem Aloft.suite (F : Aloft X pins τ H a cls d s0 B s) (hf : X.env.frame = some X.env.locals) : ∃ oa, Zc cls d oa ∧ (∃ vs, oa.data = .fields vs) ∧ Inv (X.suite a ((a, oa) :: (X.pn ++ pins))) [] τ H s := by
  obtain ⟨oa, va, ga, za, da⟩ := F.fly.there
  obtain ⟨f1, f2⟩ := F.off hf
  exact ⟨oa, za, ⟨va, da⟩, F.now.suite ga da F.free f1 f2⟩
/-- the clauses, one after the other -/
theorem Aloft.clauses {Wout : WX} {D : Ends} (hs : X.stack = X.env :: X.outer) (hf : X.env.frame = some X.env.locals) (nd : X.N.Nodup) (hi : X.N[i]? = some n) (ln : X.env.kindOf n = some .local) (tk : Takes X Wout) :
    ∀ {hds : List ExceptHandler} {qs : List Clause}, Paired (ClauseOk X n) hds qs → Aloft X pins τ H a cls d s0 B s → wClauses X.K i Wout D qs cls d τ H →
      wpAny (model X.prog X.w) X.A (handleBy (.ref a) X.env hds) (SP X pins D) X.xe s
  | _, _, .nil, F, w => F.onward hs hf tk w
  | _, _, .cons (b := q) ok rest, F, w => by
    obtain ⟨x, first, more, p1, p2, rfl, nm, run⟩ := ok.ex
    obtain ⟨yes, hyes, wno, wyes⟩ := w
    obtain ⟨oa, za, fa, S⟩ := F.suite hf
    have good := F.inv.ok
    have ask : ∀ {Q' : Value → Shared → Prop} {E' : Value → Shared → Prop}, Q' q.1 s → wpAny (model X.prog X.w) (X.A.mark (some (.ref a))) (eval (.Name x p1) X.env) Q' E' s := fun {Q' E'} hq => by
      obtain ⟨g1, g2, g3 | ⟨g3, g4, g5⟩⟩ := nm
      · exact ld_glob (X := X.suite a ((a, oa) :: (X.pn ++ pins))) S g1 g3 hq g2
      · exact ld_blt (X := X.suite a ((a, oa) :: (X.pn ++ pins))) S g1 g3 g4 hq g5 g2
    have tyA : PySem.W.Looks (model X.prog X.w) s.heap (typeOf (.ref a)) cls := fun A' Q' E' s' keep hq => by
      obtain ⟨o', _, g', z', _⟩ := F.fly.there
      exact wpAny_typeOf_ref (keep _ _ g') (by rw [z'.1]; exact hq)
    refine wpAny_handleBy_cons (codeAny_handlers_test (ask ((PySem.W.exm_one F.now.kIn tyA hyes).here ?_))) (fun z => nomatch z)
    cases yes with
    | false => exact Aloft.clauses hs hf nd hi ln tk rest F (wno rfl)
    | true =>
      refine codeAny_handlers_suite_as (HandSPX.lands_againZ F.fly fun h' fly' up' => ?_)
      have F' : Aloft X pins τ H a cls d s0 B { s with heap := h' } := ⟨F.inv, F.ground, fly', F.up.trans up', F.free, F.os, F.bare⟩
      obtain ⟨ob, zb, fb, S'⟩ := F'.suite hf
      refine store_ok (X := X.suite a ((a, ob) :: (X.pn ++ pins))) (v := .ref a) S' nd hi (.inl ln) rfl (fun s1 S1 => ?_) (.inr ln)
      refine wpAny_mono ((run a ob cls d (X.pn ++ pins) zb fb).run [] s1 _ H _ S1 (wyes rfl a F.free)) (fun fl s2 out => ?_) (fun _ _ bad => bad.elim)
      have leave : ∀ {τ2 : L2.St} {H2 : Hp} {R : Shared → Prop}, Inv (X.suite a ((a, ob) :: (X.pn ++ pins))) [] τ2 H2 s2 → (∀ s3, Inv X pins (τ2.set i none) H2 s3 → R s3) →
          wpAny (model X.prog X.w) X.A (do bindName X.env n .none; unbindBehindTheSuite X.env n p2) (fun _ s3 => R s3) X.xe s2 := fun S2 r => gone_ok (S2.unsuite good) nd hi ln r
      rcases fl with _ | _ | _ | u
      · obtain ⟨τ2, H2, S2, q2⟩ := out
        exact leave S2 fun s3 J => ⟨_, _, J, q2⟩
      · obtain ⟨τ2, H2, S2, q2⟩ := out
        exact leave S2 fun s3 J => ⟨_, _, J, q2⟩
      · obtain ⟨τ2, H2, S2, q2⟩ := out
        exact leave S2 fun s3 J => ⟨_, _, J, q2⟩
      · obtain ⟨v2, τ2, H2, S2, r2, q2⟩ := out
        exact leave S2 fun s3 J => ⟨_, _, _, J, r2, q2⟩
/-- the whole statement -/
theorem ps_clauses {body : List Stmt} {h₀ : ExceptHandler} {hds : List ExceptHandler} {qs : List Clause} {pos : Pos} {tb : WX → TS} {Wout : WX} (hs : X.stack = X.env :: X.outer) (hf : X.env.frame = some X.env.locals) (nd : X.N.Nodup)
    (hi : X.N[i]? = some n) (ln : X.env.kindOf n = some .local) (tk : Takes X Wout)
    (hb : ∀ (W : WX) (pn : List (Addr × Obj)) (xe : Value → Shared → Prop), Takes (X.tr pn xe) W → PassesOwn (model X.prog X.w) X.A X.env xe → PSs (X.tr pn xe) body (tb W))
    (cl : Paired (ClauseOk X n) (h₀ :: hds) qs) : PS X (.Try body (h₀ :: hds) [] [] pos) (fun D σ H => tb (wClauses X.K i Wout D qs) D σ H) := by
  refine ⟨fun pins s σ H D I q => ?_⟩
  have good := I.ok
  have frames : X.A.frames = some (X.env :: X.outer) := good.frames.trans (congrArg some hs)
  let seen : Value → Shared → Prop := fun e s₁ => wpAny (model X.prog X.w) X.A (noteFrame e X.env) (fun _ s₂ => wpAny (model X.prog X.w) X.A (setFlight e none) (fun _ s₃ => wpAny (model X.prog X.w) X.A (handleBy e X.env (h₀ :: hds)) (SP X pins D) X.xe s₃) X.xe s₂) X.xe s₁
  have takes : Takes (X.tr (X.pn ++ pins) seen) (wClauses X.K i Wout D qs) := fun u s' air => by
    obtain ⟨a, B, s0, pins', τ, H', cls, d, rfl, J, ground, up, sky, free, os, bare, w⟩ := air
    have sky2 : Sky B (X.env :: X.outer) a (Zc cls d) X.env.locals s'.heap := hs ▸ sky
    exact Sky.land Zc.steady frames hf sky2 fun h' fly up' => Aloft.clauses hs hf nd hi ln tk cl ⟨J.ofTry good, ground, fly, up.trans up', free, os, bare⟩ w
  refine wpAny_Try_except (wpAny_mono ((hb _ _ seen takes PassesOwn.looking).run [] s σ H D (I.toTry _) q) (fun fl s1 out => ?_) fun _ _ z => z)
  rcases fl with _ | _ | _ | u
  · obtain ⟨τ, H', J, r⟩ := out
    exact wpAny_execs_nil ⟨τ, H', J.ofTry good, r⟩
  · obtain ⟨τ, H', J, r⟩ := out
    exact ⟨τ, H', J.ofTry good, r⟩
  · obtain ⟨τ, H', J, r⟩ := out
    exact ⟨τ, H', J.ofTry good, r⟩
  · obtain ⟨v, τ, H', J, rv, r⟩ := out
    exact ⟨v, τ, H', J.ofTry good, rv, r⟩
end

/-! ### the caught error's field, its kind -/
/-- the reading of e.f: the error at a, caught -/
def tXsf (a : Addr) (cls : Value) (d : Option Addr) (K : PySem.W.Frag) (f : Str) (te : TE) : TE := fun σ H Q => te σ H fun x H1 => x = .ref a ∧ ∃ (b : XB) (C dd : Addr) (fs : List (Str × V)) (v : V), cls = .ref C ∧ XcC b K C ∧ findIn K (.ref C) f = some none ∧ d = some dd ∧ H1 dd = some (.xd fs) ∧ fs.lookup f = some v ∧ Q v H1
section
variable {X : Cx} {a : Addr} {oe : Obj} {cls : Value} {d : Option Addr} {pn : List (Addr × Obj)}
theorem suite_inst {pins : List (Addr × Obj)} {σ : L2.St} {H : Hp} {s : Shared} {C dd : Addr} {fs : List (Str × V)} (I : Inv (X.suite a ((a, oe) :: pn)) pins σ H s) (hz : Zc (.ref C) (some dd) oe) (hf : ∃ vs, oe.data = .fields vs) (ea : H dd = some (.xd fs)) :
    ∃ (od : Obj) (mA : Str → Option Value), PySem.W.InstAt s.heap a oe C (some od) ∧ (∀ n, PySem.W.lookIn n od = some (mA n)) ∧ ∀ g, RelO (fs.lookup g) (mA g) := by
  obtain ⟨vs, hv⟩ := hf
  obtain ⟨mA, ns, rel⟩ : ∃ mA, s.heap.Ns1 dd mA ∧ ∀ g, RelO (fs.lookup g) (mA g) := I.hok dd _ ea
  obtain ⟨od, hod, look⟩ := lookIn_ns ns
  refine ⟨od, mA, ⟨(I.pin (a, oe) (List.mem_append_left _ (List.mem_cons_self ..))).1, hz.1, ?_, ?_⟩, look, rel⟩
  · unfold PySem.W.notCls
    rw [hv] <;> rfl
  · rw [hz.2]
    exact hod
theorem pe_xsf {e : Expr} {te : TE} {pos : Pos} {n : Str} (hz : Zc cls d oe) (hf : ∃ vs, oe.data = .fields vs) (he : PE (X.suite a ((a, oe) :: pn)) e te) (hb : attributeBase e n X.env (eval e X.env) = eval e X.env := by rfl) :
    PE (X.suite a ((a, oe) :: pn)) (.Attribute e n pos) (tXsf a cls d X.K n te) := by
  refine ⟨fun pins s σ H Q I q => attr_of hb (thn (he.run pins s σ H _ I q) fun u s1 out => ?_)⟩
  obtain ⟨x, H1, I1, rx, ex, b, C, dd, fs, v, ec, T, no, ed, ea, lk, q1⟩ := out
  subst ex ec ed
  cases rx
  obtain ⟨od, mA, J, look, rel⟩ := suite_inst I1 hz hf ea
  obtain ⟨u, hu, ru⟩ := RelO.some_of (v := v) (o := mA n) (by rw [← lk]; exact rel n)
  exact HandSPX.exc_get I1.kIn J T.ga T.gg T.exC (PySem.W.findObj_own T.hdC no rfl (by rw [look, hu])) (handed_of ru) ⟨v, H1, I1.tok _, ru, q1⟩
/-- isinstance(e, c), e the caught error -/
def rIsS (a : Addr) (cls : Value) (d : Option Addr) (K : PySem.W.Frag) : List V → Hp → VK → Prop := fun xs H Q => ∃ (b : XB) (C dd : Addr) (fs : List (Str × V)) (c : V) (cv : Value) (r : Bool), xs = [.ref a, c] ∧ cls = .ref C ∧ XcC b K C ∧ d = some dd ∧ H dd = some (.xd fs) ∧ (∀ u, RelV c u → u = cv) ∧
  PySem.W.kitOne K (.ref C) cv = some r ∧ Q (.bl r) H
theorem call_isS (G : XcG X.K) (hz : Zc cls d oe) (hf : ∃ vs, oe.data = .fields vs) : CallR (X.suite a ((a, oe) :: pn)) (.builtin "isinstance") (rIsS a cls d X.K) := by
  intro pins s σ H xs us Q I rel q
  obtain ⟨b, C, dd, fs, c, cv, ans, ex, ec, T, ed, ea, only, kit, q⟩ := q
  subst ex ec ed
  obtain ⟨u, u2, rfl, r1, r2⟩ := vals2 rel
  cases r1
  obtain rfl := only _ r2
  obtain ⟨od, _, J, _, _⟩ := suite_inst I hz hf ea
  exact PySem.W.kia_one (xkit G T) I.kIn J kit (fun z => nomatch z) fun tk => ⟨.bl ans, H, I.kept (t' := tk) fun _ _ z => z, rfl, q⟩
end
end Vx
/-! ## G28 -/
set_option Elab.async false
set_option linter.all false
set_option maxRecDepth 100000
set_option maxHeartbeats 4000000
namespace Vx
open PySem PySem.Spec PyProof.Rows L2 He
/-! ### sorted of data -/
theorem each_of {α β : Type} {R : α → β → Prop} : ∀ {as : List α} {bs : List β}, Paired R as bs → PySem.W.EachIs R as bs
  | _, _, .nil => .nil
  | _, _, .cons h r => .cons h (each_of r)
theorem of_each {α β : Type} {R : α → β → Prop} : ∀ {as : List α} {bs : List β}, PySem.W.EachIs R as bs → Paired R as bs
  | _, _, .nil => .nil
  | _, _, .cons h r => .cons h (of_each r)
theorem each_vals {β : Type} {val : β → V} : ∀ {bs : List β} {us : List Value}, Vals (bs.map val) us → PySem.W.EachIs (fun v b => RelV (val b) v) us bs
  | [], _, .nil => .nil
  | _ :: _, _, .cons h r => .cons h (each_vals r)
theorem vals_each {β : Type} {val : β → V} : ∀ {bs : List β} {us : List Value}, PySem.W.EachIs (fun v b => RelV (val b) v) us bs → Vals (bs.map val) us
  | _, _, .nil => .nil
  | _, _, .cons h r => .cons h (vals_each r)
/-- sorted(xs), xs a list of data: the new list, told by what its items are -/
def rSortB (K : PySem.W.Frag) : List V → Hp → VK → Prop := fun vs H Q => ∃ (a : Addr) (β : Type) (bs : List β) (enc : β → PyData) (val : β → V), vs = [V.ref a] ∧ SqL K H a (bs.map val) ∧ (∀ b ∈ bs, Da K H (val b) (enc b)) ∧
  PySem.W.AllAlike (bs.map enc) ∧ PySem.W.Sortable (bs.map enc) ∧ (∀ b ∈ bs, (enc b).depth ≤ 20) ∧ ∀ p, H p = none → Q (.ref p) (upd H p (.lst ((bs.mergeSort (PySem.W.dataLe false enc)).map val)))
theorem cr_sortB {X : Cx} (hu : X.A.units + 64 < cLine) : CallR X (.builtin "sorted") (rSortB X.K) := by
  intro pins s σ H vs us Q I r h
  obtain ⟨a, β, bs, enc, val, rfl, hs, hd, hal, hk, hdp, q⟩ := h
  obtain ⟨its, rv, hl, hz⟩ := I.list hs
  obtain ⟨u, rfl, ru⟩ := vals1 r
  obtain rfl : u = Value.ref a := ru
  have ev := each_vals rv
  have er : ∀ {bs : List β} {us : List Value}, (∀ b ∈ bs, Da X.K H (val b) (enc b)) → PySem.W.EachIs (fun v b => RelV (val b) v) us bs → PySem.W.EachIs (fun v b => ∃ as, Reads s.heap v (enc b) as) us bs := by
    intro bs us h e
    induction e with
    | nil => exact .nil
    | cons h1 _ ih => exact .cons (Da.reads I (h _ (List.mem_cons_self ..)) h1) (ih fun b hb => h b (List.mem_cons_of_mem _ hb))
  have hlen : bs.length ≤ sizeLine := by rw [List.length_map] at hz; exact hz
  refine PySem.W.sorted_data (R := fun v b => RelV (val b) v) hl.isList ev (er hd ev) hal hk hlen (fun b hb => ?_) fun out ho he => ?_
  · have := hdp b hb
    omega
  · obtain ⟨ep, he'⟩ := PyProof.Rows.sortedAll_at s.heap its out.toArray
    refine ⟨.ref _, upd H (s.heap.objs.size + 1) (.lst ((bs.mergeSort (PySem.W.dataLe false enc)).map val)), I.laid (t' := s.toks) (fun _ _ => PyProof.Rows.sortedAll_old) (Nat.le_succ _) ⟨?_, out, ep, vals_each he, he'⟩, rfl, q _ (I.hok.fresh (Nat.le_succ _))⟩
    rw [List.length_map, (List.mergeSort_perm _ _).length_eq]
    exact hlen

/-! ### enumerate of a tuple -/
theorem enumT_made (l : Addr) (items : Array Value) (n : Nat) (dct : Option Addr) (sl : Array (Option Value)) :
    Meets (Builtin.«enumerate.__new__» ⟨[.type "enumerate", .ref l], []⟩) (fun _ R s => s.heap.get? l = some { cls := .type "tuple", dict := dct, data := .seq items n, slots := sl } ∧
      R (.ok (.ret (.ref (s.heap.push { cls := .type "tuple_iterator", data := .fields #[.ref l, .int 0 0] }).objs.size)))
        { s with heap := (s.heap.push { cls := .type "tuple_iterator", data := .fields #[.ref l, .int 0 0] }).push { cls := .type "enumerate", data := .fields #[.none, .bool false, .ref s.heap.objs.size, rawInt 0, .none, .none] } }) :=
  .of_wp fun prog w A R s ⟨at_, q⟩ => by
    obtain ⟨hp, gs, dr, tk, os⟩ := s
    have sub1 := sub_enumerate
    have isT : Heap.IsTuple (Shared.heap ⟨hp, gs, dr, tk, os⟩) l items := ⟨_, at_, rfl, n, rfl⟩
    wp_walk using AutoSeq1.wpAny_loadPart' at_
    refine wpAny_stack_any fun _ => wpAny_pure ?_
    split
    · rename_i c' _ _ _ _ _
      generalize (c' == Value.type "enumerate") = same
      cases same <;> (wp_walk using AutoSeq1.wpAny_loadPart' at_, wpAny_pyIter_tuple isT; exact ⟨_, rfl, q⟩)
    · wp_walk using AutoSeq1.wpAny_loadPart' at_, wpAny_pyIter_tuple isT
      exact ⟨_, rfl, q⟩
/-- the tuple at a, as xs, each item in a new pair -/
def Itet (K : PySem.W.Frag) (a : Addr) (xs : List V) : It :=
  ⟨fun i H => SqT K H a xs ∧ i < xs.length, fun i H v H' => ∃ T x, v = .ref T ∧ H T = none ∧ H' = upd H T (.tup [.int (i : Nat), x]) ∧ xs[i]? = some x, fun i H => SqT K H a xs ∧ xs.length ≤ i⟩
structure EnT (a e it : Addr) (i : Nat) (h : Heap) : Prop where
  en : ∃ old, IsEnum h e it (i : Int) old
  ti : h.IsTupleIter it a i
  n1 : e ≠ it
  n2 : a ≠ it
  n3 : a ≠ e
theorem EnT.lt {a e it : Addr} {i : Nat} {h : Heap} (q : EnT a e it i h) : e < h.objs.size ∧ it < h.objs.size := by
  obtain ⟨old, z⟩ := q.en
  obtain ⟨_, y, _⟩ := q.ti
  exact ⟨Heap.lt_size z, Heap.lt_size y⟩
theorem turn_enT {P : Program} {w : World} {K : PySem.W.Frag} {elts : List Expr} {kk : Nat} {tpos : Pos} (a e it : Addr) (xs : List V) : Turn P w K (.Tuple elts kk tpos) (Itet K a xs) [e, it] e (EnT a e it) where
  mem := List.mem_cons_self ..
  obj := fun i h st b hb => by
    rcases List.mem_cons.mp hb with rfl | hb
    · obtain ⟨old, z⟩ := st.en
      exact ⟨_, z, fun _ bad => nomatch bad⟩
    · cases List.mem_singleton.mp hb
      obtain ⟨o, z, _, dt⟩ := st.ti
      exact ⟨o, z, fun _ bad => by rw [dt] at bad; cases bad⟩
  keep := fun i h h' st k => by
    obtain ⟨old, z⟩ := st.en
    obtain ⟨o, y, r⟩ := st.ti
    exact ⟨⟨old, k _ (List.mem_cons_self ..) _ z⟩, ⟨o, k _ (List.mem_cons_of_mem _ (List.mem_cons_self ..)) _ y, r⟩, st.n1, st.n2, st.n3⟩
  item := by
    rintro X rfl rfl rfl calm i pins s σ H E I fp st ⟨sq, lt⟩
    obtain ⟨old, en⟩ := st.en
    obtain ⟨its, rel, isT, _⟩ := I.tuple sq
    obtain ⟨u, atU, ru⟩ := rel.get (List.getElem?_eq_getElem lt)
    have isT' : s.heap.IsTuple a its.toArray := isT
    have small : i < its.toArray.size := by
      rw [List.size_toArray, ← rel.length]
      exact lt
    refine wpAny_pyNext_enum_itemD (Draws.tuple (A := X.A.in1) (show X.A.in1.handled = none from I.ok.hd calm) it a st.n2 its.toArray) en ⟨st.ti, isT'⟩ small st.n1 (fun bad => ?_) fun u' h1 tk pu out next pair size rest => ?_
    · rcases List.mem_cons.mp bad with z | z
      · exact st.n1 z
      · exact st.n3 (List.mem_singleton.mp z).symm
    have same : u' = u := by
      have z : its.toArray[i]? = some u := by simpa using atU
      exact Option.some.inj (pu.symm.trans z)
    subst same
    refine ⟨_, rfl, wpAny_letOwnedTupleGo_enum (s := { s with heap := h1, toks := tk + 1 }) out fun h2 en2 but => ?_⟩
    have fresh : H s.heap.objs.size = none := I.hok.fresh (Nat.le_refl _)
    have old2 : ∀ b o, b ∉ [e, it] → s.heap.get? b = some o → h2.get? b = some o := fun b o hb z => by
      have b1 : b ≠ e := fun y => hb (y ▸ List.mem_cons_self ..)
      have b2 : b ≠ it := fun y => hb (y ▸ List.mem_cons_of_mem _ (List.mem_cons_self ..))
      exact (but.2 b b1).trans (rest b o b1 b2 z)
    have pair2 : h2.get? s.heap.objs.size = some { cls := .type "tuple", data := .seq #[.int i tk, u'] } := (but.2 _ (Nat.ne_of_gt st.lt.1)).trans pair
    have J := I.turnedNew (ch := [e, it]) (t' := tk + 1) (h' := h2) (ob := .tup [.int (i : Nat), xs[i]]) old2 fp (Nat.le_refl _) ⟨by show 2 ≤ sizeLine; decide, [.int i tk, u'], .cons ⟨_, rfl⟩ (.cons ru .nil), ⟨_, pair2, rfl, _, rfl⟩⟩
    refine ⟨.ref s.heap.objs.size, _, J, rfl, ⟨_, xs[i], rfl, fresh, rfl, List.getElem?_eq_getElem lt⟩, ⟨⟨u', ?_⟩, ?_, st.n1, st.n2, st.n3⟩, fun b hb => ?_⟩
    · rw [Int.natCast_succ]
      exact en2
    · obtain ⟨o, y, r⟩ := next.1
      exact ⟨o, (but.2 it st.n1.symm).trans y, r⟩
    · have low : b < s.heap.objs.size := by
        rcases List.mem_cons.mp hb with rfl | hb
        · exact st.lt.1
        · cases List.mem_singleton.mp hb
          exact st.lt.2
      rw [upd_ne (Nat.ne_of_lt low)]
      exact (fp b hb).1
  done := by
    rintro X rfl rfl rfl calm i pins s σ H E I fp st ⟨sq, le⟩
    obtain ⟨old, en⟩ := st.en
    obtain ⟨its, rel, isT, _⟩ := I.tuple sq
    have isT' : s.heap.IsTuple a its.toArray := isT
    have over : its.toArray[i]? = none := by
      rw [Array.getElem?_eq_none_iff, List.size_toArray, ← rel.length]
      exact le
    obtain ⟨g0, g1, g2, g3, g4, g5⟩ := fp it (List.mem_cons_of_mem _ (List.mem_cons_self ..))
    have ty : s.TypeIs (.ref e) "enumerate" := ⟨_, en, rfl⟩
    unfold pyNext
    refine wpAny_bind (wpAny_attempt (wpAny_callSpecial?_slot (name := Str.ofString "__next__") ty F.slot_enumerate_next (wpAny_call_entry F.slot_enumerate_next ty F.entry_enumerate_next ?_ (F.args_enumerate_next_1 _))))
    show wpAny _ _ (field (.ref e) 2 >>= _) _ _ _
    refine wpAny_bind (wpAny_field en rfl (x := .ref it) rfl (wpAny_bind (wpAny_nextOf_tuple_end (I.ok.hd calm) st.ti isT' over fun h' x but ⟨o, z, c⟩ => ?_)))
    exact wpAny_bind (wpAny_isInstance (T := "StopIteration") (b := true) ⟨o, z, c⟩ isSubtype_stop (wpAny_pure ⟨rfl, I.turned (t' := s.toks) (fun b o hb y => but b o hb y) g0 g1 g3 g4 g5⟩))
  self := fun A i s Q E st q => by
    obtain ⟨old, en⟩ := st.en
    exact wpAny_pyIter_enum en q
/-- enumerate(e), e a list or a tuple -/
def iEnS (K : PySem.W.Frag) (ta : TA) : TI := fun σ H R => ta σ H fun vs H1 => ∃ a xs, vs = [.ref a] ∧ ((SqL K H1 a xs ∧ R (Ite K a) H1) ∨ (SqT K H1 a xs ∧ R (Itet K a xs) H1))
theorem pi_enS {X : Cx} {e : Expr} {ta : TA} {p pos tpos : Pos} {elts : List Expr} {kk : Nat} (hg : Gl X "enumerate") (hm : X.mg "enumerate" = none) (ha : PA X [e] ta) (st : starEach [e] X.env = [(false, eval e X.env)] := by rfl) :
    PI X (.Tuple elts kk tpos) (.Call (.Name "enumerate" p) [e] [] pos) (iEnS X.K ta) := by
  refine ⟨fun pins s σ H R I q => ?_⟩
  refine Call_ (ld_blt I hg hm boot_enumerate (PyProof.Rows.callWith_type1 (thn (ha.run pos pins s σ H _ I q) fun us s1 out => ?_) st rfl))
  obtain ⟨vs, H1, I1, rel, a, xs, rfl, q⟩ := out
  obtain ⟨u, rfl, ru⟩ := vals1 rel
  cases ru
  have far : s1.heap.objs.size ≤ s1.heap.objs.size + 1 := Nat.le_succ _
  have fp : ∀ (h' : Heap) (J : Inv X pins σ H1 { s1 with heap := h' }), ∀ b ∈ [s1.heap.objs.size + 1, s1.heap.objs.size], FpOk X pins H1 b := fun h' J b hb => by
    have low : s1.heap.objs.size ≤ b := by
      rcases List.mem_cons.mp hb with rfl | hb
      · exact far
      · exact Nat.le_of_eq (List.mem_singleton.mp hb).symm
    exact I1.fpOk low (I1.hok.fresh low)
  rcases q with ⟨sq, q⟩ | ⟨sq, q⟩
  · obtain ⟨its, rv, isL, _⟩ := I1.list sq
    refine call_enumerate_list isL.isList fun h' en it size keep => wpAny_pyIter_enum en ?_
    have J : Inv X pins σ H1 { s1 with heap := h' } := I1.kept (t' := s1.toks) keep
    exact ⟨_, _, _, _, H1, rfl, J, turn_enum a _ _, ⟨⟨.none, en⟩, it, Nat.succ_ne_self _⟩, fp h' J, q⟩
  · obtain ⟨its, rv, ⟨⟨c, dct, dt, sl⟩, at_, hc, n, hd⟩, _⟩ := I1.tuple sq
    cases (show c = .type "tuple" from hc)
    cases (show dt = .seq its.toArray n from hd)
    have low : a < s1.heap.objs.size := Heap.lt_size at_
    refine callType_new F.called_enumerate (by decide) (F.typeCall_enumerate_1 _) (F.newCall_enumerate_1 _) (fun obj => F.args_object_init_2 obj _) F.entry_enumerate_new (enumT_made a _ n dct sl) ⟨at_, ?_⟩
    have size : (s1.heap.push { cls := .type "tuple_iterator", data := .fields #[.ref a, .int 0 0] }).objs.size = s1.heap.objs.size + 1 := Heap.size_push ..
    show _ ∧ _
    rw [size]
    have en := Heap.get?_push_size (s1.heap.push { cls := .type "tuple_iterator", data := .fields #[.ref a, .int 0 0] }) (o := { cls := .type "enumerate", data := .fields #[.none, .bool false, .ref s1.heap.objs.size, rawInt 0, .none, .none] }) rfl
    rw [size] at en
    refine ⟨⟨_, en, rfl⟩, wpAny_pyIter_enum en ?_⟩
    have J := I1.kept (t' := s1.toks) (h' := (s1.heap.push { cls := .type "tuple_iterator", data := .fields #[.ref a, .int 0 0] }).push { cls := .type "enumerate", data := .fields #[.none, .bool false, .ref s1.heap.objs.size, rawInt 0, .none, .none] }) fun b o z => Heap.get?_push_of_some _ (Heap.get?_push_of_some _ z)
    exact ⟨_, _, _, _, H1, rfl, J, turn_enT a _ _ xs, ⟨⟨.none, en⟩, ⟨_, Heap.get?_push_of_some _ (Heap.get?_push_size _ rfl), rfl, rfl⟩, Nat.succ_ne_self _, Nat.ne_of_lt low, Nat.ne_of_lt (Nat.lt_succ_of_lt low)⟩, fp _ J, q⟩
end Vx
/-! ## K16h -/
set_option Elab.async false
set_option linter.all false
set_option maxRecDepth 100000
set_option maxHeartbeats 4000000
namespace K16
open PySem PySem.Spec PyProof.Rows L2 He Vx
def top (i : Nat) : Stmt := PySem.Challenge.pw_aheadbehind_k16_whole_boxes_numbered_and.main.body.getD i (.Pass ⟨0, 0, 0, 0⟩)
def clsB : Stmt → List Stmt
  | .ClassDef _ _ _ b _ _ _ _ _ _ _ => b
  | _ => []
def met (i j : Nat) : Stmt := (clsB (top i)).getD j (.Pass ⟨0, 0, 0, 0⟩)
abbrev s_wall : Stmt := top 0
theorem sc_wall : FnScope ["k"] ["k"] (defScope s_wall) := ⟨rfl, rfl, rfl, by decide +kernel, rfl, by decide +kernel, by decide +kernel⟩
abbrev s_is_integer : Stmt := top 2
theorem sc_is_integer : FnScope ["value"] ["value"] (defScope s_is_integer) := ⟨rfl, rfl, rfl, by decide +kernel, rfl, by decide +kernel, by decide +kernel⟩
abbrev s_is_name : Stmt := top 3
theorem sc_is_name : FnScope ["value"] ["value"] (defScope s_is_name) := ⟨rfl, rfl, rfl, by decide +kernel, rfl, by decide +kernel, by decide +kernel⟩
abbrev s_is_list : Stmt := top 4
theorem sc_is_list : FnScope ["value"] ["value"] (defScope s_is_list) := ⟨rfl, rfl, rfl, by decide +kernel, rfl, by decide +kernel, by decide +kernel⟩
abbrev s_is_state : Stmt := top 5
theorem sc_is_state : FnScope ["states", "value"] ["states", "value"] (defScope s_is_state) := ⟨rfl, rfl, rfl, by decide +kernel, rfl, by decide +kernel, by decide +kernel⟩
abbrev s_first_wrong : Stmt := top 17
theorem sc_first_wrong : FnScope ["values", "right", "seen", "position", "value"] ["values", "right"] (defScope s_first_wrong) := ⟨rfl, rfl, rfl, by decide +kernel, rfl, by decide +kernel, by decide +kernel⟩
abbrev s_check_state : Stmt := top 18
theorem sc_check_state : FnScope ["states", "state"] ["states", "state"] (defScope s_check_state) := ⟨rfl, rfl, rfl, by decide +kernel, rfl, by decide +kernel, by decide +kernel⟩
abbrev s_check_parts : Stmt := top 21
theorem sc_check_parts : FnScope ["states", "starts", "steps"] ["states", "starts", "steps"] (defScope s_check_parts) := ⟨rfl, rfl, rfl, by decide +kernel, rfl, by decide +kernel, by decide +kernel⟩
abbrev s_check_limits : Stmt := top 22
theorem sc_check_limits : FnScope ["states", "steps"] ["states", "steps"] (defScope s_check_limits) := ⟨rfl, rfl, rfl, by decide +kernel, rfl, by decide +kernel, by decide +kernel⟩
abbrev s_check_starts : Stmt := top 23
theorem sc_check_starts : FnScope ["states", "starts", "position", "start"] ["states", "starts"] (defScope s_check_starts) := ⟨rfl, rfl, rfl, by decide +kernel, rfl, by decide +kernel, by decide +kernel⟩
abbrev s_check_steps : Stmt := top 24
theorem sc_check_steps : FnScope ["states", "steps", "position", "step"] ["states", "steps"] (defScope s_check_steps) := ⟨rfl, rfl, rfl, by decide +kernel, rfl, by decide +kernel, by decide +kernel⟩
abbrev s_is_order : Stmt := top 25
theorem sc_is_order : FnScope ["states", "value", "state"] ["states", "value"] (defScope s_is_order) := ⟨rfl, rfl, rfl, by decide +kernel, rfl, by decide +kernel, by decide +kernel⟩
abbrev s_ends_of : Stmt := top 26
theorem sc_ends_of : FnScope ["links", "ends", "link"] ["links"] (defScope s_ends_of) := ⟨rfl, rfl, rfl, by decide +kernel, rfl, by decide +kernel, by decide +kernel⟩
abbrev s_reached : Stmt := top 27
theorem sc_reached : FnScope ["ends", "states", "found", "state", "waiting", "to"] ["ends", "states"] (defScope s_reached) := ⟨rfl, rfl, rfl, by decide +kernel, rfl, by decide +kernel, by decide +kernel⟩
abbrev s_made_box : Stmt := top 28
theorem sc_made_box : FnScope ["states", "starts", "steps", "box"] ["states", "starts", "steps"] (defScope s_made_box) := ⟨rfl, rfl, rfl, by decide +kernel, rfl, by decide +kernel, by decide +kernel⟩
abbrev s_renumbered : Stmt := top 29
theorem sc_renumbered : FnScope ["box", "kept", "numbers", "number", "state", "starts", "steps", "start", "call", "answer", "to"] ["box", "kept"] (defScope s_renumbered) := ⟨rfl, rfl, rfl, by decide +kernel, rfl, by decide +kernel, by decide +kernel⟩
abbrev s_law_pot : Stmt := top 31
theorem sc_law_pot : FnScope ["_law_script", "_law_k", "_law_cell"] ["_law_script", "_law_k"] (defScope s_law_pot) := ⟨rfl, rfl, rfl, by decide +kernel, rfl, by decide +kernel, by decide +kernel⟩
abbrev s_law_draw : Stmt := top 32
theorem sc_law_draw : FnScope ["_law_pot_here", "_law_many", "_law_digit"] ["_law_pot_here", "_law_many"] (defScope s_law_draw) := ⟨rfl, rfl, rfl, by decide +kernel, rfl, by decide +kernel, by decide +kernel⟩
abbrev s_law_pick : Stmt := top 33
theorem sc_law_pick : FnScope ["_law_pot_here", "_law_menu_here"] ["_law_pot_here", "_law_menu_here"] (defScope s_law_pick) := ⟨rfl, rfl, rfl, by decide +kernel, rfl, by decide +kernel, by decide +kernel⟩
abbrev s_law_mixed : Stmt := top 34
theorem sc_law_mixed : FnScope ["_law_pot_here", "_law_menu_here", "_law_pack", "_law_turn"] ["_law_pot_here", "_law_menu_here"] (defScope s_law_mixed) := ⟨rfl, rfl, rfl, by decide +kernel, rfl, by decide +kernel, by decide +kernel⟩
abbrev s_law_menu : Stmt := top 35
theorem sc_law_menu : FnScope ["_law_pot_here", "_law_menu_here", "_law_first"] ["_law_pot_here"] (defScope s_law_menu) := ⟨rfl, rfl, rfl, by decide +kernel, rfl, by decide +kernel, by decide +kernel⟩
abbrev s_law_deal : Stmt := top 36
theorem sc_law_deal : FnScope ["_law_pot_here", "_law_most", "_law_wide", "_law_menu_here", "_law_many", "_law_moves", "_law_turn", "_law_call", "_law_answer", "_law_move", "_law_firsts"] ["_law_pot_here", "_law_most", "_law_wide"] (defScope s_law_deal) := ⟨rfl, rfl, rfl, by decide +kernel, rfl, by decide +kernel, by decide +kernel⟩
abbrev s_law_made : Stmt := top 37
theorem sc_law_made : FnScope ["_law_deal_here"] ["_law_deal_here"] (defScope s_law_made) := ⟨rfl, rfl, rfl, by decide +kernel, rfl, by decide +kernel, by decide +kernel⟩
abbrev s_law_shown : Stmt := top 38
theorem sc_law_shown : FnScope ["_law_made_here", "_law_found", "_law_at"] ["_law_made_here"] (defScope s_law_shown) := ⟨rfl, rfl, rfl, by decide +kernel, rfl, by decide +kernel, by decide +kernel⟩
abbrev s_law_is : Stmt := top 39
theorem sc_law_is : FnScope ["_law_made_here", "_law_deal_here", "_law_due"] ["_law_made_here", "_law_deal_here"] (defScope s_law_is) := ⟨rfl, rfl, rfl, by decide +kernel, rfl, by decide +kernel, by decide +kernel⟩
abbrev s_law_numbered : Stmt := top 40
theorem sc_law_numbered : FnScope ["_law_deal_here", "_law_order_now", "_law_moves", "_law_near", "_law_call", "_law_answer", "_law_goal", "_law_firsts", "_law_first"] ["_law_deal_here", "_law_order_now"] (defScope s_law_numbered) := ⟨rfl, rfl, rfl, by decide +kernel, rfl, by decide +kernel, by decide +kernel⟩
abbrev s_law_turned : Stmt := top 41
theorem sc_law_turned : FnScope ["_law_deal_here", "_law_moves", "_law_near", "_law_call", "_law_answer", "_law_goal"] ["_law_deal_here"] (defScope s_law_turned) := ⟨rfl, rfl, rfl, by decide +kernel, rfl, by decide +kernel, by decide +kernel⟩
abbrev s_law_orders_right : Stmt := top 42
theorem sc_law_orders_right : FnScope ["_law_deal_here", "_law_made_here", "_law_first", "_law_second", "_law_kept", "_law_due", "_law_handed", "_law_near", "_law_back", "_law_come", "_law_state", "_law_at"] ["_law_deal_here", "_law_made_here", "_law_first", "_law_second"] (defScope s_law_orders_right) := ⟨rfl, rfl, rfl, by decide +kernel, rfl, by decide +kernel, by decide +kernel⟩
abbrev s_law_turns_right : Stmt := top 43
theorem sc_law_turns_right : FnScope ["_law_deal_here", "_law_made_here", "_law_first", "_law_due", "_law_near", "_law_at", "_law_coming", "_law_here", "_law_call", "_law_answer", "_law_goal"] ["_law_deal_here", "_law_made_here", "_law_first"] (defScope s_law_turns_right) := ⟨rfl, rfl, rfl, by decide +kernel, rfl, by decide +kernel, by decide +kernel⟩
abbrev s_law_right : Stmt := top 44
theorem sc_law_right : FnScope ["_law_pot_here", "_law_deal_here", "_law_made_here", "_law_shown_here", "_law_turn", "_law_first", "_law_second", "_law_told"] ["_law_pot_here"] (defScope s_law_right) := ⟨rfl, rfl, rfl, by decide +kernel, rfl, by decide +kernel, by decide +kernel⟩
abbrev s_law : Stmt := top 45
theorem sc_law : FnScope ["_law_script", "_law_k"] ["_law_script"] (defScope s_law) := ⟨rfl, rfl, rfl, by decide +kernel, rfl, by decide +kernel, by decide +kernel⟩
abbrev s_Box___init__ : Stmt := met 20 2
theorem sc_Box___init__ : FnScope ["self", "states", "starts", "steps"] ["self", "states", "starts", "steps"] (defScope s_Box___init__) := ⟨rfl, rfl, rfl, by decide +kernel, rfl, by decide +kernel, by decide +kernel⟩
abbrev s_Box_is_step : Stmt := met 20 3
theorem sc_Box_is_step : FnScope ["states", "value", "state", "call", "answer", "to"] ["states", "value"] (defScope s_Box_is_step) := ⟨rfl, rfl, rfl, by decide +kernel, rfl, by decide +kernel, by decide +kernel⟩
abbrev s_Box_of_row : Stmt := met 20 4
theorem sc_Box_of_row : FnScope ["cls", "row"] ["cls", "row"] (defScope s_Box_of_row) := ⟨rfl, rfl, rfl, by decide +kernel, rfl, by decide +kernel, by decide +kernel⟩
abbrev s_Box_states : Stmt := met 20 5
theorem sc_Box_states : FnScope ["self"] ["self"] (defScope s_Box_states) := ⟨rfl, rfl, rfl, by decide +kernel, rfl, by decide +kernel, by decide +kernel⟩
abbrev s_Box_is_sure : Stmt := met 20 6
theorem sc_Box_is_sure : FnScope ["self", "step"] ["self"] (defScope s_Box_is_sure) := ⟨rfl, rfl, rfl, by decide +kernel, rfl, by decide +kernel, by decide +kernel⟩
abbrev s_Box_starts : Stmt := met 20 7
theorem sc_Box_starts : FnScope ["self"] ["self"] (defScope s_Box_starts) := ⟨rfl, rfl, rfl, by decide +kernel, rfl, by decide +kernel, by decide +kernel⟩
abbrev s_Box_steps : Stmt := met 20 8
theorem sc_Box_steps : FnScope ["self"] ["self"] (defScope s_Box_steps) := ⟨rfl, rfl, rfl, by decide +kernel, rfl, by decide +kernel, by decide +kernel⟩
abbrev s_Box_calls : Stmt := met 20 9
theorem sc_Box_calls : FnScope ["self"] ["self"] (defScope s_Box_calls) := ⟨rfl, rfl, rfl, by decide +kernel, rfl, by decide +kernel, by decide +kernel⟩
abbrev s_Box_answers : Stmt := met 20 10
theorem sc_Box_answers : FnScope ["self"] ["self"] (defScope s_Box_answers) := ⟨rfl, rfl, rfl, by decide +kernel, rfl, by decide +kernel, by decide +kernel⟩
abbrev s_Box_signs : Stmt := met 20 11
theorem sc_Box_signs : FnScope ["self", "step"] ["self"] (defScope s_Box_signs) := ⟨rfl, rfl, rfl, by decide +kernel, rfl, by decide +kernel, by decide +kernel⟩
abbrev s_Box_reachable : Stmt := met 20 12
theorem sc_Box_reachable : FnScope ["self"] ["self"] (defScope s_Box_reachable) := ⟨rfl, rfl, rfl, by decide +kernel, rfl, by decide +kernel, by decide +kernel⟩
abbrev s_Box_steps_from : Stmt := met 20 13
theorem sc_Box_steps_from : FnScope ["self", "state", "step"] ["self", "state"] (defScope s_Box_steps_from) := ⟨rfl, rfl, rfl, by decide +kernel, rfl, by decide +kernel, by decide +kernel⟩
abbrev s_Box_steps_to : Stmt := met 20 14
theorem sc_Box_steps_to : FnScope ["self", "state", "step"] ["self", "state"] (defScope s_Box_steps_to) := ⟨rfl, rfl, rfl, by decide +kernel, rfl, by decide +kernel, by decide +kernel⟩
abbrev s_Box_without : Stmt := met 20 15
theorem sc_Box_without : FnScope ["self", "steps"] ["self", "steps"] (defScope s_Box_without) := ⟨rfl, rfl, rfl, by decide +kernel, rfl, by decide +kernel, by decide +kernel⟩
abbrev s_Box_with_starts : Stmt := met 20 16
theorem sc_Box_with_starts : FnScope ["self", "starts"] ["self", "starts"] (defScope s_Box_with_starts) := ⟨rfl, rfl, rfl, by decide +kernel, rfl, by decide +kernel, by decide +kernel⟩
abbrev s_Box_part : Stmt := met 20 17
theorem sc_Box_part : FnScope ["self"] ["self"] (defScope s_Box_part) := ⟨rfl, rfl, rfl, by decide +kernel, rfl, by decide +kernel, by decide +kernel⟩
abbrev s_Box_numbered : Stmt := met 20 18
theorem sc_Box_numbered : FnScope ["self", "order"] ["self", "order"] (defScope s_Box_numbered) := ⟨rfl, rfl, rfl, by decide +kernel, rfl, by decide +kernel, by decide +kernel⟩
abbrev s_Box_turned : Stmt := met 20 19
theorem sc_Box_turned : FnScope ["self", "steps", "state", "call", "answer", "to"] ["self"] (defScope s_Box_turned) := ⟨rfl, rfl, rfl, by decide +kernel, rfl, by decide +kernel, by decide +kernel⟩
abbrev s_Box___getitem__ : Stmt := met 20 20
theorem sc_Box___getitem__ : FnScope ["self", "at", "ends", "state", "call", "answer", "to"] ["self", "at"] (defScope s_Box___getitem__) := ⟨rfl, rfl, rfl, by decide +kernel, rfl, by decide +kernel, by decide +kernel⟩
abbrev s_Box___len__ : Stmt := met 20 21
theorem sc_Box___len__ : FnScope ["self"] ["self"] (defScope s_Box___len__) := ⟨rfl, rfl, rfl, by decide +kernel, rfl, by decide +kernel, by decide +kernel⟩
abbrev s_Box___contains__ : Stmt := met 20 22
theorem sc_Box___contains__ : FnScope ["self", "x"] ["self", "x"] (defScope s_Box___contains__) := ⟨rfl, rfl, rfl, by decide +kernel, rfl, by decide +kernel, by decide +kernel⟩
abbrev s_Box___iter__ : Stmt := met 20 23
theorem sc_Box___iter__ : FnScope ["self"] ["self"] (defScope s_Box___iter__) := ⟨rfl, rfl, rfl, by decide +kernel, rfl, by decide +kernel, by decide +kernel⟩
abbrev s_Box___add__ : Stmt := met 20 24
theorem sc_Box___add__ : FnScope ["self", "other"] ["self", "other"] (defScope s_Box___add__) := ⟨rfl, rfl, rfl, by decide +kernel, rfl, by decide +kernel, by decide +kernel⟩
abbrev s_Box___radd__ : Stmt := met 20 25
theorem sc_Box___radd__ : FnScope ["self", "other"] ["self", "other"] (defScope s_Box___radd__) := ⟨rfl, rfl, rfl, by decide +kernel, rfl, by decide +kernel, by decide +kernel⟩
abbrev s_Box___sub__ : Stmt := met 20 26
theorem sc_Box___sub__ : FnScope ["self", "other", "step"] ["self", "other"] (defScope s_Box___sub__) := ⟨rfl, rfl, rfl, by decide +kernel, rfl, by decide +kernel, by decide +kernel⟩
abbrev s_Box___eq__ : Stmt := met 20 27
theorem sc_Box___eq__ : FnScope ["self", "other"] ["self", "other"] (defScope s_Box___eq__) := ⟨rfl, rfl, rfl, by decide +kernel, rfl, by decide +kernel, by decide +kernel⟩
abbrev s_Box___repr__ : Stmt := met 20 28
theorem sc_Box___repr__ : FnScope ["self"] ["self"] (defScope s_Box___repr__) := ⟨rfl, rfl, rfl, by decide +kernel, rfl, by decide +kernel, by decide +kernel⟩
end K16
/-! ## HD16 -/
set_option Elab.async false
set_option linter.all false
set_option maxRecDepth 100000
set_option maxHeartbeats 0
namespace K16
open PySem PySem.Spec PyProof.Rows L2 He Vx
open PySem.W (exmOne kitOne findCls readsIn specialIn keepIn codeHdIn)
abbrev R : PySem.W.OpenRow := PySem.W.OpenLaw.row PySem.Challenge.rw_aheadbehind_k16_whole_boxes_numbered_and
abbrev qv : Program := PySem.W.view R.prog [45]
def dD (x : Str) (st : Stmt) : He.DefD := ⟨(x, none), x, x, defArgs st, defBody st, defScope st, [], []⟩
def dM (c q : Str) (st : Stmt) : He.DefD := ⟨(c, some "__init__"), "__init__", q, defArgs st, defBody st, defScope st, [], []⟩
def dB (m q : Str) (st : Stmt) : He.DefD := ⟨("Box", some m), m, q, defArgs st, defBody st, defScope st, [], []⟩
def names0 : List PySem.Str := ["_wall", "__name__", "is_integer", "is_name", "is_list", "is_state", "BoxError", "InvalidStates", "InvalidStarts", "InvalidSteps", "InvalidStep", "InvalidState", "InvalidOrder", "LimitError", "TooMany", "first_wrong", "check_state", "Box", "check_parts", "check_limits"]
def names1 : List PySem.Str := ["check_starts", "check_steps", "is_order", "ends_of", "reached", "made_box", "renumbered", "_law_pot", "_law_draw", "_law_pick", "_law_mixed", "_law_menu", "_law_deal", "_law_made", "_law_shown", "_law_is", "_law_numbered", "_law_turned", "_law_orders_right", "_law_turns_right"]
def names2 : List PySem.Str := ["_law_right"]
def names : List PySem.Str := names0 ++ names1 ++ names2
def ecs : List EC := [⟨"InvalidStates", xVal, "value", ""⟩, ⟨"InvalidStarts", xVal, "position", ""⟩, ⟨"InvalidSteps", xVal, "position", ""⟩, ⟨"InvalidStep", xVal, "value", ""⟩, ⟨"InvalidState", xVal, "value", ""⟩, ⟨"InvalidOrder", xVal, "value", ""⟩, ⟨"TooMany", xAri, "what", "limit"⟩]
def ec0 : List EC := [⟨"BoxError", xVal, "", ""⟩, ⟨"LimitError", xAri, "", ""⟩]
def e0K : PySem.W.Frag → Addr := dflAt ("Box", some "__init__") 0
def dBox : He.DefD := ⟨("Box", some "__init__"), "__init__", "Box.__init__", defArgs s_Box___init__, defBody s_Box___init__, defScope s_Box___init__, [.adr e0K], []⟩
def dStep : He.DefD := ⟨("Box", some "is_step"), "is_step", "Box.is_step", defArgs s_Box_is_step, defBody s_Box_is_step, defScope s_Box_is_step, [], []⟩
def fnA : List He.DefD := [dD "is_integer" s_is_integer, dD "is_name" s_is_name, dD "is_list" s_is_list, dD "is_state" s_is_state, dD "first_wrong" s_first_wrong, dD "check_state" s_check_state, dD "check_parts" s_check_parts, dD "check_limits" s_check_limits, dD "check_starts" s_check_starts, dD "check_steps" s_check_steps, dD "is_order" s_is_order, dD "ends_of" s_ends_of, dD "reached" s_reached, dD "made_box" s_made_box, dD "renumbered" s_renumbered, dD "_law_pot" s_law_pot, dD "_law_draw" s_law_draw, dD "_law_pick" s_law_pick, dD "_law_mixed" s_law_mixed, dD "_law_menu" s_law_menu, dD "_law_deal" s_law_deal, dD "_law_made" s_law_made, dD "_law_shown" s_law_shown, dD "_law_is" s_law_is, dD "_law_numbered" s_law_numbered, dD "_law_turned" s_law_turned, dD "_law_orders_right" s_law_orders_right, dD "_law_turns_right" s_law_turns_right, dD "_law_right" s_law_right, dD "law" s_law]
def fnB : List He.DefD := [dM "InvalidStates" "InvalidStates.__init__" (met 8 0), dM "InvalidStarts" "InvalidStarts.__init__" (met 9 0), dM "InvalidSteps" "InvalidSteps.__init__" (met 10 0), dM "InvalidStep" "InvalidStep.__init__" (met 11 0), dM "InvalidState" "InvalidState.__init__" (met 12 0), dM "InvalidOrder" "InvalidOrder.__init__" (met 13 0), dM "TooMany" "TooMany.__init__" (met 15 0), dBox]
def fnC : List He.DefD := [dB "starts" "Box.starts" s_Box_starts, dB "steps" "Box.steps" s_Box_steps, dB "signs" "Box.signs" s_Box_signs, dB "reachable" "Box.reachable" s_Box_reachable, dB "steps_from" "Box.steps_from" s_Box_steps_from, dB "steps_to" "Box.steps_to" s_Box_steps_to, dB "with_starts" "Box.with_starts" s_Box_with_starts, dB "numbered" "Box.numbered" s_Box_numbered, dB "turned" "Box.turned" s_Box_turned, dB "__getitem__" "Box.__getitem__" s_Box___getitem__, dB "__len__" "Box.__len__" s_Box___len__, dB "__eq__" "Box.__eq__" s_Box___eq__]
def fnK : List He.DefD := fnA ++ (fnB ++ fnC)
def faD : List He.Fa := [.glo "is_integer", .glo "is_name", .glo "is_list", .glo "is_state", .glo "first_wrong", .glo "check_state", .glo "check_parts", .glo "check_limits", .glo "check_starts", .glo "check_steps", .glo "is_order", .glo "ends_of", .glo "reached", .glo "made_box", .glo "renumbered", .glo "_law_pot", .glo "_law_draw", .glo "_law_pick", .glo "_law_mixed", .glo "_law_menu", .glo "_law_deal", .glo "_law_made", .glo "_law_shown", .glo "_law_is", .glo "_law_numbered", .glo "_law_turned", .glo "_law_orders_right", .glo "_law_turns_right", .glo "_law_right", .glo "law", .glo "Box", .cls "Box", .noat "Box" "_states", .noat "Box" "_starts", .noat "Box" "_steps", .mkr "Box", .meth "Box" "starts", .meth "Box" "steps", .meth "Box" "signs", .meth "Box" "reachable", .meth "Box" "steps_from", .meth "Box" "steps_to", .meth "Box" "with_starts", .meth "Box" "numbered", .meth "Box" "turned", .meth "Box" "__getitem__", .meth "Box" "__len__", .meth "Box" "__eq__"]
def faK : List He.Fa := biFa ++ faD
/-- the function in a staticmethod's record, in a property's -/
def sgK (K : PySem.W.Frag) : Addr := He5.wf K (ga K "Box") "staticmethod" "is_step"
def pgK (K : PySem.W.Frag) (m : Str) : Addr := He5.wf K (ga K "Box") "property" m
def prD : List (Str × He.DefD) := [("states", dB "states" "Box.states" s_Box_states), ("is_sure", dB "is_sure" "Box.is_sure" s_Box_is_sure)]
def fnAt (K : PySem.W.Frag) (g : Addr) : FnW := match K.lookup g with
  | some ⟨_, _, .func fd, _⟩ => some (fd.name, fd.qualname, fd.params, fd.body, fd.scope, fd.globals, fd.closure, fd.builtins)
  | _ => none
def okAt (K : PySem.W.Frag) (g : Addr) (d : DefD) : Bool := keepIn K (.ref g) && (match K.lookup g with
  | some ⟨_, _, .func fd, _⟩ => PySem.W.codeIn K fd.code d.qual && (dflB K fd.defaults (d.dvs K) && kwdB K fd.kwdefaults (d.kws K))
  | _ => false)
def valB (K : PySem.W.Frag) (f : Str) (i : Int) : Bool := match findCls K (.ref (ga K "Box")) (.type "type") f with
  | some (.val (.int j _)) => decide (j = i)
  | _ => false
def tup0B (K : PySem.W.Frag) (a : Addr) : Bool := match K.lookup a with
  | some ⟨.type c, _, .seq its _, _⟩ => decide (c = "tuple") && its.toList.isEmpty
  | _ => false
/-- a property of Box -/
def propB (K : PySem.W.Frag) (m : Str) (d : DefD) : Bool := eqO (PySem.W.findIn K (.ref (ga K "Box")) m) (some (some (.ref (ma K (ga K "Box") m)))) && (eqO (specialIn K (.ref (ma K (ga K "Box") m)) "__get__") (some (some (.builtin "property.__get__"))) && (decide (PySem.W.takesIn K (.ref (ma K (ga K "Box") m)) = some true) && ((match PySem.W.recIn K (ma K (ga K "Box") m) "property" with
    | some (.ref _ :: _) => true
    | _ => false) && okAt K (pgK K m) d)))
/-- isinstance of a box, == and != of boxes -/
def ownB (K : PySem.W.Frag) : Bool := eqO (PySem.W.findIn K (.ref (ga K "Box")) "__class__") (some (some (.builtin "object.__class__"))) && (eqO (specialIn K (.builtin "object.__class__") "__get__") (some (some (.builtin "getset_descriptor.__get__"))) && (decide (PySem.W.takesIn K (.builtin "object.__class__") = some true) && (decide (PySem.W.mroIn K (ga K "Box") (.type "object") = some true) && (decide (kitOne K (.ref (ga K "Box")) (.ref (ga K "Box")) = some true) && (eqO (PySem.W.findIn K (.ref (ga K "Box")) "__ne__") (some (some (.builtin "object.__ne__"))) && PySem.W.fnIn K (ma K (ga K "Box") "__getitem__"))))))
def boxB (K : PySem.W.Frag) : Bool := readsIn K (ga K "Box") (.type "type") && (He5.wrapB K (ga K "Box") "staticmethod" "staticmethod.__get__" "is_step" && (okAt K (sgK K) dStep && (valB K "MOST_STATES" 6 && (valB K "MOST_STEPS" 24 && tup0B K (e0K K)))))
def xbK (K : PySem.W.Frag) : Bool := ecs.all (fun c => c.ok K) && (ec0.all (fun c => c.ok0 K) && (boxB K && (ownB K && prD.all fun p => propB K p.1 p.2)))
def refA (g : Addr → Option Obj) (a : Addr) : List Addr := (match g a with
  | some o => refsD o
  | none => []).filter fun b => b != mainGlobals && b != builtinsNs
def asK (ns : List Str) (g : Addr → Option Obj) : List Addr :=
  let l := mainGlobals :: cStatics :: (ns.map (ga (frG g [mainGlobals])) ++ ((ns.map (ga (frG g [mainGlobals]))).flatMap fun a => refA g a ++ (refA g a).flatMap fun b => refA g b ++ (refA g b).flatMap fun c => refA g c))
  let K := frG g l
  l ++ (([ma K (ga K "Box") "__init__", sgK K] ++ (fnC.map (fun d => ma K (ga K "Box") d.name) ++ (prD.map (fun p => ma K (ga K "Box") p.1) ++ prD.map fun p => pgK K p.1))).flatMap fun a => a :: (refA g a ++ (refA g a).flatMap fun b => refA g b))
def nsK : List Str := "Box" :: ((ecs.map EC.x ++ ec0.map EC.x) ++ fnA.map fun d => d.name)
abbrev AlT2 : Type := Bool × AlD × List FnW
def obsK (g : Addr → Option Obj) (K : PySem.W.Frag) : AlT2 := (xbK K, obsD faK fnK K, fnAt K (sgK K) :: prD.map fun p => fnAt K (pgK K p.1))
def valK : AlT2 := (true, valD fnK, dStep.val :: prD.map fun p => p.2.val)
structure SaysK (h : Heap) (K : PySem.W.Frag) : Prop where
  xb : xbK K = true
  d : SaysD faK fnK K
  st : fnAt K (sgK K) = dStep.val
  pr : ∀ p ∈ prD, fnAt K (pgK K p.1) = p.2.val
theorem says_of {h : Heap} {as : List Addr} (e : obsK h.get? (frT h.get? as) = valK) : SaysK h (frT h.get? as) := by
  have e1 : xbK (frT h.get? as) = true := congrArg (fun z : AlT2 => z.1) e
  have e2 : obsD faK fnK (frT h.get? as) = valD fnK := congrArg (fun z : AlT2 => z.2.1) e
  have e3 : (fnAt (frT h.get? as) (sgK (frT h.get? as)) :: prD.map fun p => fnAt (frT h.get? as) (pgK (frT h.get? as) p.1)) = dStep.val :: prD.map fun p => p.2.val := congrArg (fun z : AlT2 => z.2.2) e
  obtain ⟨e4, e5⟩ := List.cons.inj e3
  exact ⟨e1, e2, e4, fun p hp => List.map_inj_left.mp e5 p hp⟩
def hk : PySem.W.Hook where
  α := AlT2
  obs := fun s => obsK s.heap.get? (frT s.heap.get? (asK nsK s.heap.get?))
  val := fun _ => valK
  says := fun _ h => ∃ K : PySem.W.Frag, K.In h ∧ SaysK h K
  of := fun _ _ e => ⟨_, frT_in, says_of e⟩
  keeps := fun _ _ _ ⟨K, hK, c⟩ k => ⟨K, PySem.W.Frag.In.keeps hK k, ⟨c.xb, c.d, c.st, c.pr⟩⟩
def ob (s : PySem.W.SharedT) : AlT2 := obsK (HandSHeadRun.getT s) (frT (HandSHeadRun.getT s) (asK nsK (HandSHeadRun.getT s)))
theorem ob_eq (s : PySem.W.SharedT) : ob s = hk.obs s.abs := by
  have e : HandSHeadRun.getT s = s.abs.heap.get? := funext fun a => HandSHeadRun.getT_eq s a
  unfold ob
  rw [e]
  rfl
end K16
/-! ## HR16 -/
set_option Elab.async false
set_option linter.all false
set_option maxRecDepth 100000
set_option maxHeartbeats 0
namespace K16
open PySem PySem.Spec PyProof.Rows L2 He Vx
theorem run (w : World) : HandSHeadRun.RunEq R qv hk ob 20000 names w := by
  intro os
  kernel_rfl
end K16
/-! ## K16b -/
set_option Elab.async false
set_option linter.all false
set_option maxRecDepth 100000
set_option maxHeartbeats 4000000
namespace K16
open PySem PySem.Spec PyProof.Rows L2 He Vx
section
variable {P : Program} {w : World} {K : PySem.W.Frag} {mg : Str → Option Value} {base : Heap}
theorem cd_draw (F : At K mg "_law_draw" s_law_draw) (T : BI mg) : Cd P w K mg base 1 "_law_draw" ["_law_pot_here", "_law_many"] spDraw := by
  refine cd_mk F sc_law_draw (fun vs H Q E h => ?_) (fun _ _ _ _ _ _ us hl => match us, hl with | [_, _], _ => rfl) (fun f cdv A outer s H vs Q E hr hG h => ?_)
  · obtain ⟨p, n, rfl, _⟩ := h
    rfl
  · obtain ⟨p, n, rfl, ⟨a, b, hp, ha, hb0, hb1⟩, hn, hn2, k⟩ := h
    refine ⟨_, (pss_cons (ps_if (pt_cmpR op_gt (pe_ix ix_list (pv 0) pe_int (fun _ _ => rfl)) pe_int (nomark _)) (pss_cons (ps_asg (pe_callB call_divmodW (by rfl) T.divmod bt_divmod (pa_cons (pe_ix ix_list (pv 0) pe_int (fun _ _ => rfl)) (pa_cons (pv 1) pa_nil))) (pg_tup (by rfl) (pgs_cons (pg_sub (pv 0) pe_int set_list) (pgs_cons (pg_name (i := 2) sc_law_draw.nd rfl (Or.inl rfl)) pgs_nil))))
  (pss_one (ps_ret (pv 2)))) pss_nil)
  (pss_cons (ps_asg (pe_op op_mod (pe_callTy call_int1 (by rfl) T.int bt_int (pa_cons (pe_op op_add (pe_op op_mul (pe_ix ix_list (pv 0) pe_int (fun _ _ => rfl)) pe_int) pe_int) pa_nil)) pe_int) (pg_sub (pv 0) pe_int set_list))
  (pss_one (ps_ret (pe_op op_mod (pe_callTy call_int1 (by rfl) T.int bt_int (pa_cons (pe_op op_fdiv (pe_op op_mod (pe_callTy call_int1 (by rfl) T.int bt_int (pa_cons (pe_op op_mul (pe_ix ix_list (pv 0) pe_int (fun _ _ => rfl)) (pe_ix ix_list (pv 0) pe_int (fun _ _ => rfl))) pa_nil)) pe_int) pe_int) pa_nil)) (pv 1)))))), ?_⟩
    refine ⟨_, rfl, p, _, 0, _, rfl, rfl, SqL.of hp, rfl, _, _, rfl, rfl, _, rfl, ?_⟩
    refine ite2 (fun h => ?_) (fun h => ?_)
    · have h := of_decide_eq_true h
      refine ⟨_, rfl, p, _, 0, _, rfl, rfl, SqL.of hp, rfl, _, rfl, a, n, rfl, ⟨by omega, PyProof.noPylong_of_log2 (log2_small hn hn2)⟩, fun q hq => ?_⟩
      have npq : p ≠ q := ne_of_none hp hq
      refine ⟨q, _, rfl, SqT.of upd_same, rfl, _, _, rfl, _, rfl, p, _, 0, 0, rfl, rfl, (upd_ne npq).trans hp, rfl, _, _, rfl, rfl, _, rfl, ?_⟩
      exact k _ _ (Stp.put (same_off (same_new hq)) (Int.ediv_nonneg ha (by omega)) hb0 hb1) (Int.emod_nonneg _ (by omega)) (Int.emod_lt_of_pos _ (by omega))
    · have e1 : (0 : Int) ≤ (b * 48271 + 8123) % 2147483587 := Int.emod_nonneg _ (by decide)
      have e2 : (b * 48271 + 8123) % 2147483587 < 2147483587 := Int.emod_lt_of_pos _ (by decide)
      refine ⟨_, rfl, p, _, 1, _, rfl, rfl, SqL.of hp, rfl, _, _, rfl, rfl, .inl ⟨by omega, by omega⟩, _, _, rfl, rfl, .inl ⟨_, rfl, _, _, rfl, rfl, (by show (0 : Int) < 2147483587; decide), _, rfl, p, _, 1, 1, rfl, rfl, hp, rfl, ?_⟩⟩
      refine ⟨_, rfl, p, _, 1, _, rfl, rfl, SqL.of upd_same, rfl, _, rfl, p, _, 1, _, rfl, rfl, SqL.of upd_same, rfl, _, _, rfl, rfl, .inl ⟨by omega, by omega⟩, .inl ⟨_, rfl, _, _, rfl, rfl, (by show (0 : Int) < 2147483629; decide),
        _, _, rfl, rfl, ⟨by decide, by decide⟩, .inl ⟨_, rfl, _, rfl, _, _, rfl, rfl, (by show (0 : Int) < n; omega), ?_⟩⟩⟩
      exact k _ _ (Stp.put (Same.refl _) ha e1 (by omega)) (Int.emod_nonneg _ (by omega)) (Int.emod_lt_of_pos _ (by omega))
theorem cd_pick (F : At K mg "_law_pick" s_law_pick) (T : BI mg) (c__law_draw : Cd P w K mg base 1 "_law_draw" ["_law_pot_here", "_law_many"] spDraw) : Cd P w K mg base 2 "_law_pick" ["_law_pot_here", "_law_menu_here"] (spPick K) := by
  refine cd_mk F sc_law_pick (fun vs H Q E h => ?_) (fun _ _ _ _ _ _ us hl => match us, hl with | [_, _], _ => rfl) (fun f cdv A outer s H vs Q E hr hG h => ?_)
  · obtain ⟨p, m, xs, rfl, _⟩ := h
    rfl
  · obtain ⟨p, m, xs, rfl, hP, hm, h1, h2, k⟩ := h
    refine ⟨_, (pss_one (ps_ret (pe_ix ix_list (pv 1) (pe_cd c__law_draw (hr.mono (by decide)) hG (by rfl) (pa_cons (pv 0) (pa_cons (pe_callB call_len_seq (by rfl) T.len PySem.boot_len (pa_cons (pv 1) pa_nil)) pa_nil))) (fun _ _ => rfl)))), ?_⟩
    refine ⟨_, rfl, _, rfl, _, rfl, m, _, rfl, .inl (off_same.seq hm), p, _, rfl, hP, by omega, by omega, fun d H' st d0 d1 => ?_⟩
    obtain ⟨x, hx⟩ : ∃ x, xs[d.toNat]? = some x := ⟨xs[d.toNat]'(by omega), List.getElem?_eq_getElem _⟩
    refine ⟨m, xs, d, x, rfl, rfl, off_same.seq (st.k.seq hm), ?_, k x H' st (List.mem_of_getElem? hx)⟩
    have q := atI_nat hx
    rw [Int.toNat_of_nonneg d0] at q
    exact q
theorem cd_pot (F : At K mg "_law_pot" s_law_pot) (T : BI mg) : Cd P w K mg base 1 "_law_pot" ["_law_script", "_law_k"] (spPot K) := by
  refine cd_mk F sc_law_pot (fun vs H Q E h => ?_) (fun _ _ _ _ _ _ us hl => match us, hl with | [_, _], _ => rfl) (fun f cdv A outer s H vs Q E hr hG h => ?_)
  · obtain ⟨a, k, ns, rfl, _⟩ := h
    rfl
  · obtain ⟨a, i, ns, rfl, hS, h0, h1, h2, k⟩ := h
    -- the pot, whatever the cell
    have fin : ∀ (c : Int) (b : Int), 0 ≤ b → b < 2147483549 → ∀ p, H p = none → Q (.ref p) (upd H p (.lst [.int (if c - 10 ^ 18 > 0 then c - 10 ^ 18 else 0), .int (b + 1)])) := fun c b hb0 hb1 p hp =>
      k p _ hp (same_new hp) ⟨_, _, upd_same, by split <;> omega, by omega, by omega⟩
    refine ⟨_, (pss_cons (ps_set (i := 2) sc_law_pot.nd rfl (Or.inl rfl) (pe_op op_add (pe_op op_mul pe_int (pv 1)) pe_int))
  (pss_cons (ps_if (pt_cmpR op_lt (pv 1) (pe_callB call_len_seq (by rfl) T.len PySem.boot_len (pa_cons (pv 0) pa_nil)) (nomark _)) (pss_one (ps_set (i := 2) sc_law_pot.nd rfl (Or.inl rfl) (pe_callB call_abs (by rfl) T.abs bt_abs (pa_cons (pe_ix ix_list (pv 0) (pv 1) (fun _ _ => rfl)) pa_nil)))) pss_nil)
  (pss_one (ps_ret (pe_lst (pa_cons (pe_callB (call_max2 rfl) (by rfl) T.max bt_max (pa_cons pe_int (pa_cons (pe_op op_sub (pv 2) (pe_op op_pow pe_int pe_int)) pa_nil))) (pa_cons (pe_op op_add (pe_op op_mod (pe_callTy call_int1 (by rfl) T.int bt_int (pa_cons (pe_op op_add (pe_op op_add (pe_op op_mul (pe_op op_mod (pe_callTy call_int1 (by rfl) T.int bt_int (pa_cons (pv 2) pa_nil)) pe_int) pe_int) (pe_op op_mul pe_int (pv 1))) pe_int) pa_nil)) pe_int) pe_int) pa_nil))))))), ?_⟩
    refine ⟨_, rfl, _, _, rfl, rfl, .inl ⟨by omega, by omega⟩, _, _, rfl, rfl, _, rfl, _, rfl, a, _, rfl, .inl hS, _, _, rfl, rfl, _, rfl, ?_⟩
    refine ite2 (fun h => ?_) (fun h => ?_)
    · have h := of_decide_eq_true h
      rw [List.length_map] at h
      obtain ⟨z, hz⟩ : ∃ z, ns[i.toNat]? = some z := ⟨ns[i.toNat]'(by omega), List.getElem?_eq_getElem _⟩
      have q := atI_nat (xs := ns.map V.int) (j := i.toNat) (v := .int z) (by rw [List.getElem?_map, hz]; rfl)
      rw [Int.toNat_of_nonneg h0] at q
      refine ⟨_, rfl, _, rfl, a, _, i, _, rfl, rfl, hS, q, _, rfl, ?_⟩
      have b1 : (0 : Int) ≤ (if z < 0 then -z else z) % 2147483563 := Int.emod_nonneg _ (by decide)
      have b2 : (if z < 0 then -z else z) % 2147483563 < 2147483563 := Int.emod_lt_of_pos _ (by decide)
      refine ⟨_, rfl, _, _, rfl, rfl, ⟨by decide, by decide, by decide⟩, _, _, rfl, rfl, _, _, rfl, _, rfl, .inl ⟨_, rfl, _, _, rfl, rfl, (by show (0 : Int) < 2147483563; decide), _, _, rfl, rfl, .inl ⟨by omega, by omega⟩, _, rfl, _, _, rfl, rfl, .inl ⟨by decide, by decide⟩, _, _, rfl, rfl, _, _, rfl, rfl, .inl ⟨_, rfl, _, _, rfl, rfl, (by show (0 : Int) < 2147483549; decide), _, _, rfl, rfl, (by show 2 ≤ sizeLine; decide), fun p hp => ?_⟩⟩⟩
      exact fin _ _ (Int.emod_nonneg _ (by decide)) (Int.emod_lt_of_pos _ (by decide)) p hp
    · have b1 : (0 : Int) ≤ (67 * i + 37) % 2147483563 := Int.emod_nonneg _ (by decide)
      have b2 : (67 * i + 37) % 2147483563 < 2147483563 := Int.emod_lt_of_pos _ (by decide)
      refine ⟨_, rfl, _, _, rfl, rfl, ⟨by decide, by decide, by decide⟩, _, _, rfl, rfl, _, _, rfl, _, rfl, .inl ⟨_, rfl, _, _, rfl, rfl, (by show (0 : Int) < 2147483563; decide), _, _, rfl, rfl, .inl ⟨by omega, by omega⟩, _, rfl, _, _, rfl, rfl, .inl ⟨by decide, by decide⟩, _, _, rfl, rfl, _, _, rfl, rfl, .inl ⟨_, rfl, _, _, rfl, rfl, (by show (0 : Int) < 2147483549; decide), _, _, rfl, rfl, (by show 2 ≤ sizeLine; decide), fun p hp => ?_⟩⟩⟩
      exact fin _ _ (Int.emod_nonneg _ (by decide)) (Int.emod_lt_of_pos _ (by decide)) p hp
end
end K16
/-! ## K16p -/
set_option Elab.async false
set_option linter.all false
set_option maxRecDepth 100000
set_option maxHeartbeats 4000000
namespace K16
open PySem PySem.Spec PyProof.Rows L2 He Vx

/-- one of n states -/
def stateD (n : Int) : PyData → Bool
  | .int i => decide (0 ≤ i) && decide (i < n)
  | _ => false
def stepL (n : Int) : List PyData → Bool
  | [a, b, c, d] => stateD n a && (nameD b && (nameD c && stateD n d))
  | _ => false
def stepD (n : Int) : PyData → Bool
  | .tuple ds => stepL n ds
  | _ => false
/-- a def that asks of one value of data beside the number of states -/
def spS (K : PySem.W.Frag) (g : Int → PyData → Bool) : Sp := fun vs H Q _ => ∃ n x d, vs = [.int n, x] ∧ Da K H x d ∧ okD d = true ∧ ∀ H', Same H H' → Q (.bl (g n d)) H'
section
variable {P : Program} {w : World} {K : PySem.W.Frag} {mg : Str → Option Value} {base : Heap}
theorem co_is_integer (F : At K mg "is_integer" s_is_integer) (T : BI mg) : Co P w K mg base CX0 1 "is_integer" ["value"] (spP K numD) := by
  refine co_mk F sc_is_integer (fun vs H Q E h => ?_) (fun _ _ _ _ _ _ us hl => match us, hl with | [_], _ => rfl) (fun f cdv A outer s H vs Q E hr h => ?_)
  · obtain ⟨x, d, rfl, _⟩ := h
    rfl
  · obtain ⟨x, d, rfl, hd, ok, k⟩ := h
    refine ⟨_, (pss_one (ps_ret (pe_and (pe_callB (call_isD (K := K) rfl) (by rfl) T.isinstance bt_isinstance (pa_cons (pv 0) (pa_cons (pe_bltn (v := .ty "int") (by rfl) T.int bt_int rfl) pa_nil))) (pe_one (pe_not (pe_callB (call_isD (K := K) rfl) (by rfl) T.isinstance bt_isinstance (pa_cons (pv 0) (pa_cons (pe_bltn (v := .ty "bool") (by rfl) T.bool bt_bool rfl) pa_nil)))))))), ?_⟩
    refine ⟨_, rfl, x, d, _, rfl, hd, by decide, _, rfl, ?_⟩
    rw [isI]
    have k' := k H (Same.refl H)
    cases e : numD d || boolD d with
    | false =>
      refine iteF ?_
      rw [show numD d = false by cases d <;> first | rfl | cases e] at k'
      exact k'
    | true =>
      refine iteT ⟨_, rfl, x, d, _, rfl, hd, by decide, _, rfl, ?_⟩
      rw [isBo]
      rw [show numD d = !boolD d by cases d <;> first | rfl | cases e] at k'
      exact k'
theorem co_is_list (F : At K mg "is_list" s_is_list) (T : BI mg) : Co P w K mg base CX0 1 "is_list" ["value"] (spP K seqD) := by
  refine co_mk F sc_is_list (fun vs H Q E h => ?_) (fun _ _ _ _ _ _ us hl => match us, hl with | [_], _ => rfl) (fun f cdv A outer s H vs Q E hr h => ?_)
  · obtain ⟨x, d, rfl, _⟩ := h
    rfl
  · obtain ⟨x, d, rfl, hd, ok, k⟩ := h
    refine ⟨_, (pss_one (ps_ret (pe_callB (call_isDT (K := K) rfl) (by rfl) T.isinstance bt_isinstance (pa_cons (pv 0) (pa_cons (pe_tup (pa_cons (pe_bltn (v := .ty "list") (by rfl) T.list bt_list rfl) (pa_cons (pe_bltn (v := .ty "tuple") (by rfl) T.tuple bt_tuple rfl) pa_nil))) pa_nil))))), ?_⟩
    refine ⟨_, rfl, by show 2 ≤ sizeLine; decide, fun p1 n1 => ?_⟩
    generalize g1 : upd H p1 _ = H1
    have s1 : Same H H1 := g1 ▸ same_new n1
    have e1 := g1 ▸ upd_same (H := H) (a := p1)
    clear g1
    refine ⟨x, d, p1, rfl, e1, hd.mono s1, ?_⟩
    rw [isLT]
    exact k H1 s1
theorem co_is_name (F : At K mg "is_name" s_is_name) (T : BI mg) : Co P w K mg base CX0 1 "is_name" ["value"] (spP K nameD) := by
  refine co_mk F sc_is_name (fun vs H Q E h => ?_) (fun _ _ _ _ _ _ us hl => match us, hl with | [_], _ => rfl) (fun f cdv A outer s H vs Q E hr h => ?_)
  · obtain ⟨x, d, rfl, _⟩ := h
    rfl
  · obtain ⟨x, d, rfl, hd, ok, k⟩ := h
    refine ⟨_, (pss_cons (ps_if (PW.pt (pw_or (pt_not (pt_val (pe_callB (call_isD (K := K) rfl) (by rfl) T.isinstance bt_isinstance (pa_cons (pv 0) (pa_cons (pe_bltn (v := .ty "str") (by rfl) T.str bt_str rfl) pa_nil))))) (pw_or1 (pt_not (pt_chain op_le op_le pe_int (pe_callB call_len_str (by rfl) T.len PySem.boot_len (pa_cons (pv 0) pa_nil)) pe_int))))) (pss_one (ps_ret pe_bl)) pss_nil)
  (pss_one (ps_ret (pe_and (pe_bm0 PySem.F.plainAttrs_str PySem.F.slot_str_isascii PySem.F.type_str_isascii mt_isascii (pv 0)) (pe_and (pe_bm0 PySem.F.plainAttrs_str PySem.F.slot_str_isalpha PySem.F.type_str_isalpha mt_isalpha (pv 0)) (pe_one (pe_bm0 PySem.F.plainAttrs_str PySem.F.slot_str_islower PySem.F.type_str_islower mt_islower (pv 0)))))))), ?_⟩
    have k' := k H (Same.refl H)
    refine ⟨_, rfl, x, d, _, rfl, hd, by decide, _, rfl, ?_⟩
    rw [isS]
    cases hd with
    | int i => exact iteT (iteT k')
    | non => exact iteT (iteT k')
    | bl _ => exact iteT (iteT k')
    | lst _ _ => exact iteT (iteT k')
    | tup _ _ => exact iteT (iteT k')
    | dK _ _ => exact iteT (iteT k')
    | dT _ _ => exact iteT (iteT k')
    | str z =>
      have hz : z.length ≤ sizeLine := Nat.le_trans (okStr ok) (by show 100 ≤ sizeLine; decide)
      refine iteF ⟨_, rfl, z, rfl, hz, _, _, rfl, rfl, _, rfl, ?_⟩
      have k2 : Q (.bl (nm z)) H := k'
      unfold nm at k2
      by_cases h1 : 1 ≤ z.length
      · rw [decide_eq_true h1, Bool.true_and] at k2
        rw [decide_eq_true (show (1 : Int) ≤ (z.length : Int) by omega)]
        refine iteT ⟨_, _, rfl, rfl, _, rfl, ?_⟩
        by_cases h2 : z.length ≤ 8
        · rw [decide_eq_true h2, Bool.true_and, ← name_eq h1] at k2
          rw [decide_eq_true (show (z.length : Int) ≤ (8 : Int) by omega)]
          refine iteF ⟨_, rfl, rfl, z, rfl, rfl, trivial, _, rfl, ?_⟩
          cases e1 : Txt.isascii z with
          | false =>
            rw [e1] at k2
            exact iteF k2
          | true =>
            rw [e1, Bool.true_and] at k2
            refine iteT ⟨_, rfl, rfl, z, rfl, rfl, trivial, _, rfl, ?_⟩
            cases e2 : Txt.isalpha z with
            | false =>
              rw [e2] at k2
              exact iteF k2
            | true =>
              rw [e2, Bool.true_and] at k2
              exact iteT ⟨_, rfl, rfl, z, rfl, rfl, trivial, k2⟩
        · rw [decide_eq_false h2, Bool.false_and] at k2
          rw [decide_eq_false (show ¬ (z.length : Int) ≤ (8 : Int) by omega)]
          exact iteT k2
      · rw [decide_eq_false h1, Bool.false_and] at k2
        rw [decide_eq_false (show ¬ (1 : Int) ≤ (z.length : Int) by omega)]
        exact iteF ⟨false, rfl, iteT k2⟩
theorem and_b {a c : Bool} {Q : VK} {te : TE} {σ : L2.St} {H H' : Hp} (s : Same H H') (hk : ∀ H', Same H H' → Q (.bl (a && c)) H') (ht : (∀ H'', Same H' H'' → Q (.bl c) H'') → te σ H' Q) : ∃ b, V.bl a = .bl b ∧ if b = true then te σ H' Q else Q (.bl false) H' := by
  refine ⟨a, rfl, ?_⟩
  cases a with
  | false => exact iteF (hk H' s)
  | true => exact iteT (ht fun H'' s2 => by have q := hk H'' (s.trans s2); rwa [Bool.true_and] at q)
/-- f(states, x) and .. -/
theorem and_S {g : Int → PyData → Bool} {n : Int} {i : Nat} {x : V} {d : PyData} {c : Bool} {Q : VK} {te : TE} {σ : L2.St} {H : Hp} (h0 : σ[0]? = some (some (.int n))) (hi : σ[i]? = some (some x)) (hd : Da K H x d) (ok : okD d = true)
    (hk : ∀ H', Same H H' → Q (.bl (g n d && c)) H') (ht : ∀ H', Same H H' → (∀ H'', Same H' H'' → Q (.bl c) H'') → te σ H' Q) : tAndV (tCall (spS K g) [] E0 (tCons (tVar 0) (tCons (tVar i) tNil))) te σ H Q :=
  ⟨_, h0, _, hi, n, x, d, rfl, hd, ok, fun H' s => and_b s hk (ht H' s)⟩
/-- f(x) and .. -/
theorem and_P {g : PyData → Bool} {i : Nat} {x : V} {d : PyData} {c : Bool} {Q : VK} {te : TE} {σ : L2.St} {H : Hp} (hi : σ[i]? = some (some x)) (hd : Da K H x d) (ok : okD d = true)
    (hk : ∀ H', Same H H' → Q (.bl (g d && c)) H') (ht : ∀ H', Same H H' → (∀ H'', Same H' H'' → Q (.bl c) H'') → te σ H' Q) : tAndV (tCall (spP K g) [] E0 (tCons (tVar i) tNil)) te σ H Q :=
  ⟨_, hi, x, d, rfl, hd, ok, fun H' s => and_b s hk (ht H' s)⟩
theorem co_is_state (F : At K mg "is_state" s_is_state) (c_is_integer : Co P w K mg base CX0 1 "is_integer" ["value"] (spP K numD)) : Co P w K mg base CX0 2 "is_state" ["states", "value"] (spS K stateD) := by
  refine co_mk F sc_is_state (fun vs H Q E h => ?_) (fun _ _ _ _ _ _ us hl => match us, hl with | [_, _], _ => rfl) (fun f cdv A outer s H vs Q E hr h => ?_)
  · obtain ⟨n, x, d, rfl, _⟩ := h
    rfl
  · obtain ⟨n, x, d, rfl, hd, ok, k⟩ := h
    refine ⟨_, (pss_one (ps_ret (pe_and (pe_co c_is_integer (hr.mono (by decide)) (by rfl) (pa_cons (pv 1) pa_nil)) (pe_one (pe_chain op_le op_lt pe_int (pv 1) (pv 0)))))), ?_⟩
    refine ⟨_, rfl, x, d, rfl, hd, ok, fun H1 s1 => ⟨_, rfl, ?_⟩⟩
    have k' := k H1 s1
    cases hd with
    | int i =>
      have k2 : Q (.bl (decide (0 ≤ i) && decide (i < n))) H1 := k'
      refine iteT ⟨_, rfl, _, _, rfl, rfl, _, rfl, ?_⟩
      by_cases h1 : 0 ≤ i
      · rw [decide_eq_true h1, Bool.true_and] at k2
        rw [decide_eq_true h1]
        exact iteT ⟨_, rfl, _, _, rfl, rfl, k2⟩
      · rw [decide_eq_false h1, Bool.false_and] at k2
        rw [decide_eq_false h1]
        exact iteF k2
    | non => exact iteF k'
    | bl _ => exact iteF k'
    | str _ => exact iteF k'
    | lst _ _ => exact iteF k'
    | tup _ _ => exact iteF k'
    | dK _ _ => exact iteF k'
    | dT _ _ => exact iteF k'
theorem four_of {α : Type} : ∀ {xs : List α}, xs.length = 4 → ∃ a b c d, xs = [a, b, c, d]
  | [a, b, c, d], _ => ⟨a, b, c, d, rfl⟩
theorem das_four {H : Hp} {x1 x2 x3 x4 : V} {ds : List PyData} (r : Das K H [x1, x2, x3, x4] ds) : ∃ d1 d2 d3 d4, Da K H x1 d1 ∧ Da K H x2 d2 ∧ Da K H x3 d3 ∧ Da K H x4 d4 ∧ ds = [d1, d2, d3, d4] := by
  cases r with
  | cons r1 r =>
  cases r with
  | cons r2 r =>
  cases r with
  | cons r3 r =>
  cases r with
  | cons r4 r =>
  cases r
  exact ⟨_, _, _, _, r1, r2, r3, r4, rfl⟩
theorem stepL_len {n : Int} {ds : List PyData} (h : ds.length ≠ 4) : stepL n ds = false := by
  match ds, h with
  | [], _ => rfl
  | [_], _ => rfl
  | [_, _], _ => rfl
  | [_, _, _], _ => rfl
  | [_, _, _, _], h => exact absurd rfl h
  | _ :: _ :: _ :: _ :: _ :: _, _ => rfl
theorem ok_is_step {f : Addr} {fd : FuncData} (F : Fun K "is_step" "Box.is_step" s_Box_is_step f fd) (T : BI mg) (c_is_state : Co P w K mg base CX0 2 "is_state" ["states", "value"] (spS K stateD)) (c_is_name : Co P w K mg base CX0 1 "is_name" ["value"] (spP K nameD)) :
    FnOk P w K mg base CX0 3 f fd ["states", "value"] (spS K stepD) := by
  refine F.ok sc_Box_is_step (fun vs H Q E h => ?_) (fun cdv A outer s H vs Q E hr h => ?_)
  · obtain ⟨n, x, d, rfl, _⟩ := h
    rfl
  · obtain ⟨n, x, d, rfl, hd, ok, k⟩ := h
    refine ⟨_, (pss_cons (ps_if (PW.pt (pw_or (pt_not (pt_val (pe_callB (call_isD (K := K) rfl) (by rfl) T.isinstance bt_isinstance (pa_cons (pv 1) (pa_cons (pe_bltn (v := .ty "tuple") (by rfl) T.tuple bt_tuple rfl) pa_nil))))) (pw_or1 (pt_cmpR op_ne (pe_callB call_len_seq (by rfl) T.len PySem.boot_len (pa_cons (pv 1) pa_nil)) pe_int (nomark _))))) (pss_one (ps_ret pe_bl)) pss_nil)
  (pss_cons (ps_asg (pv 1) (pg_tup (by rfl) (pgs_cons (pg_name (i := 2) sc_Box_is_step.nd rfl (Or.inl rfl)) (pgs_cons (pg_name (i := 3) sc_Box_is_step.nd rfl (Or.inl rfl)) (pgs_cons (pg_name (i := 4) sc_Box_is_step.nd rfl (Or.inl rfl)) (pgs_cons (pg_name (i := 5) sc_Box_is_step.nd rfl (Or.inl rfl)) pgs_nil))))))
  (pss_one (ps_ret (pe_and (pe_co c_is_state (hr.mono (by decide)) (by rfl) (pa_cons (pv 0) (pa_cons (pv 2) pa_nil))) (pe_and (pe_co c_is_name (hr.mono (by decide)) (by rfl) (pa_cons (pv 3) pa_nil)) (pe_and (pe_co c_is_name (hr.mono (by decide)) (by rfl) (pa_cons (pv 4) pa_nil)) (pe_one (pe_co c_is_state (hr.mono (by decide)) (by rfl) (pa_cons (pv 0) (pa_cons (pv 5) pa_nil))))))))))), ?_⟩
    have k' := k H (Same.refl H)
    refine ⟨_, rfl, x, d, _, rfl, hd, by decide, _, rfl, ?_⟩
    rw [isTu]
    cases hd with
    | int i => exact iteT (iteT k')
    | non => exact iteT (iteT k')
    | bl _ => exact iteT (iteT k')
    | str _ => exact iteT (iteT k')
    | lst _ _ => exact iteT (iteT k')
    | dK _ _ => exact iteT (iteT k')
    | dT _ _ => exact iteT (iteT k')
    | @tup a xs ds hp r =>
      refine iteF ⟨_, rfl, a, xs, rfl, .inr hp, rfl, _, rfl, ?_⟩
      rw [dec_int]
      by_cases h4 : xs.length = 4
      · obtain ⟨x1, x2, x3, x4, rfl⟩ := four_of h4
        obtain ⟨d1, d2, d3, d4, r1, r2, r3, r4, rfl⟩ := das_four r
        have ok1 : okD d1 = true := okAll_at (i := 0) (okTup ok).2 rfl
        have ok2 : okD d2 = true := okAll_at (i := 1) (okTup ok).2 rfl
        have ok3 : okD d3 = true := okAll_at (i := 2) (okTup ok).2 rfl
        have ok4 : okD d4 = true := okAll_at (i := 3) (okTup ok).2 rfl
        refine iteF ⟨_, rfl, a, _, rfl, hp, rfl, ?_⟩
        refine ⟨_, _, rfl, _, _, rfl, _, _, rfl, _, _, rfl, rfl, ?_⟩
        have k2 : ∀ H', Same H H' → Q (.bl (stateD n d1 && (nameD d2 && (nameD d3 && stateD n d4)))) H' := k
        refine in_ret (and_S rfl rfl r1 ok1 k2 fun H1 s1 k3 => ?_)
        refine and_P rfl (r2.mono s1) ok2 k3 fun H2 s2 k4 => ?_
        refine and_P rfl (r3.mono (s1.trans s2)) ok3 k4 fun H3 s3 k5 => ?_
        exact ⟨_, rfl, _, rfl, n, x4, d4, rfl, r4.mono ((s1.trans s2).trans s3), ok4, k5⟩
      · have e : stepL n ds = false := stepL_len (by rw [← r.len]; exact h4)
        have k2 : Q (.bl (stepL n ds)) H := k'
        rw [e] at k2
        rw [show ((xs.length : Int) == 4) = false by rw [beq_eq_false_iff_ne]; omega]
        exact iteT k2
end
end K16
/-! ## K16q -/
set_option Elab.async false
set_option linter.all false
set_option maxRecDepth 100000
set_option maxHeartbeats 4000000
namespace K16
open PySem PySem.Spec PyProof.Rows L2 He Vx

/-- the first place that is not right, or told already -/
def fwk {κ : Type} [DecidableEq κ] : List κ → List (Option κ) → Nat → Option Nat
  | _, [], _ => none
  | _, none :: _, i => some i
  | seen, some k :: r, i => if k ∈ seen then some i else fwk (seen ++ [k]) r (i + 1)
def posV : Option Nat → V
  | none => .non
  | some i => .int (i : Int)
theorem walk_enT {K : PySem.W.Frag} {a : Addr} {xs : List V} : Walk (Itet K a xs) xs.length (fun H => SqT K H a xs) (YPair (fun i => some (.int (i : Nat))) (fun i => xs[i]?)) :=
  ⟨fun i _ hi q => ⟨q, hi⟩, fun _ q => ⟨q, Nat.le_refl _⟩, fun i H v H' _ q y => by
    obtain ⟨T, x, h1, h2, h3, h4⟩ := y
    exact ⟨T, .int (i : Nat), x, h1, h2, h3, rfl, h4⟩⟩
/-- the keys of the right ones, all ints, all tuples -/
def spFW (K : PySem.W.Frag) : Sp := fun vs H Q _ => ∃ (a r : Addr) (xs : List V), vs = [.ref a, .ref r] ∧ (SqL K H a xs ∨ SqT K H a xs) ∧ xs.length ≤ 1000 ∧
  ((∃ ks : List (Option L2.Key), SqL K H r (ks.map fun k => V.bl k.isSome) ∧ ks.length = xs.length ∧ (∀ (i : Nat) (k : L2.Key), ks[i]? = some (some k) → xs[i]? = some (kV k)) ∧ ∀ H', Same H H' → Q (posV (fwk [] ks 0)) H') ∨
   (∃ ks : List (Option (List L2.Key)), SqL K H r (ks.map fun k => V.bl k.isSome) ∧ ks.length = xs.length ∧ (∀ (i : Nat) (k : List L2.Key), ks[i]? = some (some k) → ∃ b : Addr, xs[i]? = some (V.ref b) ∧ H b = some (.tup (k.map kV))) ∧ ∀ H', Same H H' → Q (posV (fwk [] ks 0)) H'))
theorem valV_seen {κ : Type} [DecidableEq κ] (k : κ) (v : V) : ∀ seen : List κ, (L2.valV (seen.map fun z => (z, v)) k).isSome = decide (k ∈ seen)
  | [] => rfl
  | z :: r => by
    rw [List.map_cons]
    by_cases e : z = k
    · rw [L2.valV_pos (p := (z, v)) e, decide_eq_true (by rw [e]; exact List.mem_cons_self ..)]
      rfl
    · rw [L2.valV_neg (p := (z, v)) e, valV_seen k v r]
      refine decide_eq_decide.mpr ⟨List.mem_cons_of_mem _, fun h => ?_⟩
      rcases List.mem_cons.mp h with h | h
      · exact absurd h.symm e
      · exact h
section
variable {K : PySem.W.Frag}
theorem fw_loop {κ : Type} [DecidableEq κ] {J : It} {G : Hp → Prop} {mkD : List (κ × V) → HO} {rep : Hp → κ → V → Prop} {xs : List V} {ks : List (Option κ)} {H : Hp} {a r d : Addr} {D : Ends} {o3 o4 : Option V}
    (w : Walk J xs.length G (YPair (fun i => some (.int (i : Nat))) (fun i => xs[i]?))) (hG : ∀ H', Same H H' → G H') (hr : SqL K H r (ks.map fun k => V.bl k.isSome)) (hl : ks.length = xs.length) (hx : xs.length ≤ 1000)
    (hk : ∀ (i : Nat) (k : κ), ks[i]? = some (some k) → ∃ x, xs[i]? = some x ∧ rep H k x) (rm : ∀ H' k x, Same H H' → rep H k x → rep H' k x) (get : ∀ H' kvs k x, H' d = some (mkD kvs) → rep H' k x → DGet H' d x (L2.valV kvs k))
    (put : ∀ H' kvs k x v, H' d = some (mkD kvs) → rep H' k x → kvs.length < sizeLine → DPut H' d x v (upd H' d (mkD (putK kvs k v)))) (hd : H d = none)
    (q1 : ∀ (i : Nat) H', Same H H' → fwk [] ks 0 = some i → D.rt (.int (i : Nat)) H') (q2 : ∀ σ' H', Same H H' → fwk [] ks 0 = none → D.nx σ' H') :
    ∃ W : Nat → Nat → L2.St → Hp → Prop, (∃ m, W 0 m [some (.ref a), some (.ref r), some (.ref d), o3, o4] (upd H d (mkD []))) ∧ ∀ i m σ H, W i m σ H →
      (J.stop i H ∧ D.nx σ H) ∨ (J.go i H ∧ ∃ N : L2.St → Hp → Prop, (∀ σ' H', N σ' H' → ∃ m', m' < m ∧ W (i + 1) m' σ' H') ∧ ∀ x H', J.yld i H x H' → gTup K 2 (gCons (gName 3) (gCons (gName 4) gNil)) x σ H' fun σ2 H2 =>
        tSeq (tIfS (tOr (tNot (tB (tOp (rIxL K) (tVar 1) (tVar 3)))) (tB (tDIn (tVar 4) (tVar 2)))) (tRet (tVar 3)) tNext) (sDPut (tVar 2) (tVar 4) (tC (V.bl true))) { D with nx := N, ct := N, bk := D.nx } σ2 H2) := by
  refine for_it w (fun i σ H' => ∃ (p3 p4 : Option V) (seen : List κ), σ = [some (.ref a), some (.ref r), some (.ref d), p3, p4] ∧ Same H H' ∧ H' d = some (mkD (seen.map fun z => (z, V.bl true))) ∧ seen.length ≤ i ∧ fwk seen (ks.drop i) i = fwk [] ks 0)
    ⟨o3, o4, [], rfl, same_new hd, upd_same, Nat.le_refl _, rfl⟩ (fun i σ H' _ z => ?_) (fun i x σ H1 H2 hi z y => ?_) (fun σ H' z => ?_)
  · obtain ⟨_, _, _, _, s, _⟩ := z
    exact hG H' s
  · obtain ⟨p3, p4, seen, rfl, s1, ed, ls, ef⟩ := z
    obtain ⟨T, x1, x2, rfl, nT, rfl, e1, e2⟩ := y
    cases e1
    have s2 : Same H1 (upd H1 T (.tup [.int (i : Nat), x2])) := same_new nT
    have s12 := s1.trans s2
    have ed2 := s2 _ _ ed
    refine ⟨T, _, rfl, SqT.of upd_same, rfl, _, _, rfl, _, _, rfl, rfl, ?_⟩
    have hi2 : i < ks.length := by rw [hl]; exact hi
    obtain ⟨o, ho⟩ : ∃ o, ks[i]? = some o := ⟨ks[i], List.getElem?_eq_getElem hi2⟩
    have hdr : ks.drop i = o :: ks.drop (i + 1) := by
      rw [List.drop_eq_getElem_cons hi2]
      rw [List.getElem?_eq_getElem hi2] at ho
      rw [Option.some.inj ho]
    rw [hdr] at ef
    have hat := atI_nat (xs := ks.map fun k => V.bl k.isSome) (j := i) (v := .bl o.isSome) (by rw [List.getElem?_map, ho]; rfl)
    refine ⟨_, rfl, _, rfl, r, _, (i : Int), _, rfl, rfl, s12.seq hr, hat, _, rfl, ?_⟩
    cases o with
    | none => exact iteT (iteT ⟨_, rfl, q1 i _ s12 ef.symm⟩)
    | some k =>
      obtain ⟨y, hy, rp⟩ := hk i k ho
      cases e2.symm.trans hy
      have rp2 := rm _ _ _ s12 rp
      refine iteF ⟨_, rfl, _, rfl, d, _, rfl, get _ _ k _ ed2 rp2, _, rfl, ?_⟩
      rw [valV_seen]
      by_cases hm : k ∈ seen
      · rw [decide_eq_true hm]
        refine iteT ⟨_, rfl, q1 i _ s12 ?_⟩
        rw [← ef, fwk, if_pos hm]
      · rw [decide_eq_false hm]
        refine iteF ⟨_, rfl, _, rfl, d, _, rfl, put _ _ k _ _ ed2 rp2 ?_, ?_⟩
        · rw [List.length_map]
          exact small1000 (by omega)
        · have hn : L2.valV (seen.map fun z => (z, V.bl true)) k = none := by
            have q := valV_seen k (V.bl true) seen
            rw [decide_eq_false hm] at q
            exact Option.isSome_eq_false_iff.mp q |> Option.isNone_iff_eq_none.mp
          refine ⟨_, _, seen ++ [k], rfl, fun c u e => ?_, ?_, by rw [List.length_append]; show seen.length + 1 ≤ i + 1; omega, ?_⟩
          · rw [upd_ne (ne_of_none e hd)]
            exact s12 c u e
          · rw [upd_same, putK_new _ hn, List.map_append]
            rfl
          · rw [← ef, fwk, if_neg hm]
  · obtain ⟨_, _, seen, rfl, s, _, _, ef⟩ := z
    refine q2 _ H' s ?_
    rw [← ef, ← hl, List.drop_length]
    rfl
end
section
variable {P : Program} {w : World} {K : PySem.W.Frag} {mg : Str → Option Value} {base : Heap}
theorem co_first_wrong (F : At K mg "first_wrong" s_first_wrong) (T : BI mg) : Co P w K mg base CX0 1 "first_wrong" ["values", "right"] (spFW K) := by
  refine co_mk F sc_first_wrong (fun vs H Q E h => ?_) (fun _ _ _ _ _ _ us hl => match us, hl with | [_, _], _ => rfl) (fun f cdv A outer s H vs Q E hr h => ?_)
  · obtain ⟨a, r, xs, rfl, _⟩ := h
    rfl
  · obtain ⟨a, r, xs, rfl, hs, hl, h⟩ := h
    rcases h with ⟨ks, hr1, hl1, hk, q⟩ | ⟨ks, hr1, hl1, hk, q⟩
    · refine ⟨_, (pss_cons (ps_set (i := 2) sc_first_wrong.nd rfl (Or.inl rfl) pe_dnewK)
  (pss_cons (ps_for PassesOwn.never rfl (pi_enS (by rfl) T.enumerate (pa_cons (pv 0) pa_nil)) (pg_tup (by rfl) (pgs_cons (pg_name (i := 3) sc_first_wrong.nd rfl (Or.inl rfl)) (pgs_cons (pg_name (i := 4) sc_first_wrong.nd rfl (Or.inl rfl)) pgs_nil))) (pss_cons (ps_if (PW.pt (pw_or (pt_not (pt_val (pe_ix ix_list (pv 1) (pv 3) (fun _ _ => rfl)))) (pw_or1 (pt_cmp (pc_din (hu_of hr) (pv 4) (pv 2)))))) (pss_one (ps_ret (pv 3))) pss_nil)
  (pss_one (ps_dput (hu_of hr) (pv 2) (pv 4) pe_bl rfl))))
  (pss_one (ps_ret pe_non)))), ?_⟩
      refine fun d hd => ?_
      have st := fun (J : It) (G : Hp → Prop) w hG => fw_loop (K := K) (κ := L2.Key) (J := J) (G := G) (mkD := HO.dK) (rep := fun _ k x => x = kV k) (xs := xs) (ks := ks) (H := H) (a := a) (r := r) (d := d) (D := { nx := fun σ' H' => tRet (tC .non) { nx := fun _ H' => Q .non H', rt := Q } σ' H', rt := Q }) (o3 := none) (o4 := none)
        w hG hr1 hl1 hl (fun i k e => ⟨_, hk i k e, rfl⟩) (fun _ _ _ _ e => e) (fun H' kvs k x e1 e2 => by subst e2; exact DGet.k e1) (fun H' kvs k x v e1 e2 e3 => by subst e2; exact DPut.k e1 e3) hd
        (fun i H' s e => by have z := q H' s; rw [e] at z; exact z) (fun σ' H' s e => by have z := q H' s; rw [e] at z; exact z)
      refine ⟨_, rfl, a, xs, rfl, ?_⟩
      rcases hs with hs | hs
      · exact .inl ⟨(same_new hd).seq hs, st _ _ walk_enum fun H' s => s.seq hs⟩
      · exact .inr ⟨Vx.seqT (same_new hd) hs, st _ _ walk_enT fun H' s => Vx.seqT s hs⟩
    · refine ⟨_, (pss_cons (ps_set (i := 2) sc_first_wrong.nd rfl (Or.inl rfl) pe_dnewT)
  (pss_cons (ps_for PassesOwn.never rfl (pi_enS (by rfl) T.enumerate (pa_cons (pv 0) pa_nil)) (pg_tup (by rfl) (pgs_cons (pg_name (i := 3) sc_first_wrong.nd rfl (Or.inl rfl)) (pgs_cons (pg_name (i := 4) sc_first_wrong.nd rfl (Or.inl rfl)) pgs_nil))) (pss_cons (ps_if (PW.pt (pw_or (pt_not (pt_val (pe_ix ix_list (pv 1) (pv 3) (fun _ _ => rfl)))) (pw_or1 (pt_cmp (pc_din (hu_of hr) (pv 4) (pv 2)))))) (pss_one (ps_ret (pv 3))) pss_nil)
  (pss_one (ps_dput (hu_of hr) (pv 2) (pv 4) pe_bl rfl))))
  (pss_one (ps_ret pe_non)))), ?_⟩
      refine fun d hd => ?_
      have st := fun (J : It) (G : Hp → Prop) w hG => fw_loop (K := K) (κ := List L2.Key) (J := J) (G := G) (mkD := HO.dT) (rep := fun H' k x => ∃ b : Addr, x = V.ref b ∧ H' b = some (.tup (k.map kV))) (xs := xs) (ks := ks) (H := H) (a := a) (r := r) (d := d) (D := { nx := fun σ' H' => tRet (tC .non) { nx := fun _ H' => Q .non H', rt := Q } σ' H', rt := Q }) (o3 := none) (o4 := none)
        w hG hr1 hl1 hl (fun i k e => by obtain ⟨b, h1, h2⟩ := hk i k e; exact ⟨_, h1, b, rfl, h2⟩) (fun H' k x s e => by obtain ⟨b, h1, h2⟩ := e; exact ⟨b, h1, s _ _ h2⟩)
        (fun H' kvs k x e1 e2 => by obtain ⟨b, rfl, h2⟩ := e2; exact DGet.t e1 h2) (fun H' kvs k x v e1 e2 e3 => by obtain ⟨b, rfl, h2⟩ := e2; exact DPut.t e1 h2 e3) hd
        (fun i H' s e => by have z := q H' s; rw [e] at z; exact z) (fun σ' H' s e => by have z := q H' s; rw [e] at z; exact z)
      refine ⟨_, rfl, a, xs, rfl, ?_⟩
      rcases hs with hs | hs
      · exact .inl ⟨(same_new hd).seq hs, st _ _ walk_enum fun H' s => s.seq hs⟩
      · exact .inr ⟨Vx.seqT (same_new hd) hs, st _ _ walk_enT fun H' s => Vx.seqT s hs⟩
end
end K16
/-! ## K16r -/
set_option Elab.async false
set_option linter.all false
set_option maxRecDepth 100000
set_option maxHeartbeats 4000000
namespace K16
open PySem PySem.Spec PyProof.Rows L2 He Vx

/-- the error classes of the text -/
structure ErrSet (P : Program) (w : World) (K : PySem.W.Frag) (mg : Str → Option Value) (base : Heap) : Prop where
  BoxError : Err0 K mg xVal "BoxError" (ga K "BoxError")
  InvalidStates : ErrC P w K mg base xVal "InvalidStates" "value" (ga K "InvalidStates")
  InvalidStarts : ErrC P w K mg base xVal "InvalidStarts" "position" (ga K "InvalidStarts")
  InvalidSteps : ErrC P w K mg base xVal "InvalidSteps" "position" (ga K "InvalidSteps")
  InvalidStep : ErrC P w K mg base xVal "InvalidStep" "value" (ga K "InvalidStep")
  InvalidState : ErrC P w K mg base xVal "InvalidState" "value" (ga K "InvalidState")
  InvalidOrder : ErrC P w K mg base xVal "InvalidOrder" "value" (ga K "InvalidOrder")
  LimitError : Err0 K mg xAri "LimitError" (ga K "LimitError")
  TooMany : ErrC2 P w K mg base xAri "TooMany" "what" "limit" (ga K "TooMany")
def keyI (n : Int) : PyData → Option L2.Key
  | .int i => if stateD n (.int i) = true then some (.inl i) else none
  | _ => none
theorem keyI_some (n : Int) (d : PyData) : (keyI n d).isSome = stateD n d := by
  cases d with
  | int i =>
    show (if stateD n (.int i) = true then some (Sum.inl i) else none : Option L2.Key).isSome = stateD n (.int i)
    cases stateD n (.int i) <;> rfl
  | _ => rfl
theorem keyI_at {K : PySem.W.Frag} {H : Hp} {n : Int} {v : V} {d : PyData} {k : L2.Key} (h : Da K H v d) (e : keyI n d = some k) : v = kV k := by
  cases h with
  | int i =>
    have e2 : (if stateD n (.int i) = true then some (Sum.inl i) else none : Option L2.Key) = some k := e
    split at e2
    · rw [← Option.some.inj e2]
      rfl
    · cases e2
  | _ => cases e
theorem seq_of {K : PySem.W.Frag} {H : Hp} {x : V} {d : PyData} (h : Da K H x d) (e : seqD d = true) : ∃ a xs ds, x = .ref a ∧ ((SqL K H a xs ∧ d = .list ds) ∨ (SqT K H a xs ∧ d = .tuple ds)) ∧ Das K H xs ds := by
  cases h with
  | lst h r => exact ⟨_, _, _, rfl, .inl ⟨h, rfl⟩, r⟩
  | tup h r => exact ⟨_, _, _, rfl, .inr ⟨h, rfl⟩, r⟩
  | _ => cases e
theorem das_at {K : PySem.W.Frag} {H : Hp} : ∀ {vs : List V} {ds : List PyData} {i : Nat} {d : PyData}, Das K H vs ds → ds[i]? = some d → ∃ v, vs[i]? = some v ∧ Da K H v d
  | _, _, _, _, .nil, e => by simp at e
  | _, _, 0, _, .cons a b, e => by
    simp at e
    subst e
    exact ⟨_, rfl, a⟩
  | _, _, i + 1, _, .cons a b, e => by
    obtain ⟨v, h1, h2⟩ := das_at (i := i) b (by simpa using e)
    exact ⟨v, by simpa using h1, h2⟩
theorem ok_seq {d : PyData} {ds : List PyData} (ok : okD d = true) (h : d = .list ds ∨ d = .tuple ds) : ds.length ≤ 100 ∧ okAll ds = true := by
  rcases h with rfl | rfl
  · exact okLst ok
  · exact okTup ok
/-- what is wrong of the starts: none, something without a place, the place -/
def startsL (n : Int) : List PyData → Option (Option Nat)
  | [] => some none
  | d :: ds => (fwk [] ((d :: ds).map (keyI n)) 0).map some
def startsD (n : Int) : PyData → Option (Option Nat)
  | .list ds => startsL n ds
  | .tuple ds => startsL n ds
  | _ => some none
/-- a def that looks at data beside the number of states, and raises C with the place -/
def Looks (C : Addr) (H : Hp) (Q : VK) (E : XK) (r : Option (Option Nat)) : Prop :=
  (r = none → ∀ H', Same H H' → Q .non H') ∧ ∀ o, r = some o → ∀ dd H', Same H H' → H' dd = some (.xd [("position", posV o)]) → E (.ref C) (some dd) H'
def spStarts (K : PySem.W.Frag) : Sp := fun vs H Q E => ∃ n x d, vs = [.int n, x] ∧ Da K H x d ∧ okD d = true ∧ Looks (ga K "InvalidStarts") H Q E (startsD n d)
section
variable {P : Program} {w : World} {K : PySem.W.Frag} {mg : Str → Option Value} {base : Heap}
theorem co_check_starts (F : At K mg "check_starts" s_check_starts) (T : BI mg) (ES : ErrSet P w K mg base) (c_is_list : Co P w K mg base CX0 1 "is_list" ["value"] (spP K seqD)) (c_is_state : Co P w K mg base CX0 2 "is_state" ["states", "value"] (spS K stateD))
    (c_first_wrong : Co P w K mg base CX0 1 "first_wrong" ["values", "right"] (spFW K)) : Co P w K mg base (L2.CX P w) 3 "check_starts" ["states", "starts"] (spStarts K) := by
  refine co_mkX F sc_check_starts (fun vs H Q E h => ?_) (fun _ _ _ _ _ _ us hl => match us, hl with | [_, _], _ => rfl) (fun f cdv A outer s H vs Q E hr h => ?_)
  · obtain ⟨n, x, d, rfl, _⟩ := h
    rfl
  · obtain ⟨n, x, d, rfl, hd, ok, k1, k2⟩ := h
    refine ⟨_, (pss_cons (ps_if (PW.pt (pw_or (pt_not (pt_val (pe_co c_is_list (hr.mono (by decide)) (by rfl) (pa_cons (pv 1) pa_nil)))) (pw_or1 (pt_cmpR op_eq (pe_callB call_len_seq (by rfl) T.len PySem.boot_len (pa_cons (pv 1) pa_nil)) pe_int (nomark _))))) (pss_one (ps_rx ES.InvalidStarts (hr.mono (by decide)) rfl (takes_of rfl rfl rfl rfl) (by rfl) (pa_cons pe_non pa_nil))) pss_nil)
  (pss_cons (ps_set (i := 2) sc_check_starts.nd rfl (Or.inl rfl) (pe_co c_first_wrong (hr.mono (by decide)) (by rfl) (pa_cons (pv 1) (pa_cons (pe_lc (own := [("start", 3)]) (g := (gName 3)) (tt := tYes) (by rfl) sc_check_starts.nd (pi_seqK (K := K) rfl (pv 1)) (blkOk_by (own := [("start", 3)]) (N := ["states", "starts", "position", "start"]) (sc := defScope s_check_starts) (by decide +kernel)) (fun _ _ _ _ _ => (pg_name (i := 3) sc_check_starts.nd rfl (Or.inl rfl))) (fun _ _ _ _ _ => pts_nil) (fun _ _ _ _ _ => (pe_co c_is_state (hr.mono (by decide)) (by rfl) (pa_cons (pv 0) (pa_cons (pv 3) pa_nil))))) pa_nil))))
  (pss_one (ps_if (pt_cmpR op_notN (pv 2) pe_non (nomark _)) (pss_one (ps_rx ES.InvalidStarts (hr.mono (by decide)) rfl (takes_of rfl rfl rfl rfl) (by rfl) (pa_cons (pv 2) pa_nil))) pss_nil)))), ?_⟩
    have bad : ∀ o H1, startsD n d = some o → Same H H1 → ∀ dd, H1 dd = none → E (.ref (ga K "InvalidStarts")) (some dd) (upd H1 dd (.xd [("position", posV o)])) := fun o H1 eo s1 dd nd => k2 o eo dd _ (s1.trans (same_new nd)) upd_same
    refine ⟨_, rfl, x, d, rfl, hd, ok, fun H1 s1 => ⟨_, rfl, ?_⟩⟩
    cases e : seqD d with
    | false =>
      have eo : startsD n d = some none := by cases d <;> first | rfl | cases e
      exact iteT (iteT ⟨_, rfl, fun dd nd => bad none H1 eo s1 dd nd⟩)
    | true =>
      obtain ⟨a, xs, ds, rfl, hs, das⟩ := seq_of hd e
      have ed : d = .list ds ∨ d = .tuple ds := hs.imp And.right And.right
      have es : startsD n d = startsL n ds := by rcases ed with rfl | rfl <;> rfl
      have hs1 : SqL K H1 a xs ∨ SqT K H1 a xs := hs.imp (fun h => s1.seq h.1) fun h => Vx.seqT s1 h.1
      refine iteF ⟨_, rfl, a, xs, rfl, hs1, rfl, _, rfl, ?_⟩
      rw [dec_int]
      cases das with
      | nil => exact iteT ⟨_, rfl, fun dd nd => bad none H1 es s1 dd nd⟩
      | @cons x1 xs d1 ds r1 rs =>
      rw [show ((((x1 :: xs).length : Nat) : Int) == 0) = false by rw [beq_eq_false_iff_ne, List.length_cons]; omega]
      refine iteF ⟨_, rfl, da_lcS (K := K) (stateD n) (fun R q => ⟨_, rfl, q⟩) (hd.mono s1) ok e (fun v d H1 R hv hok q => ⟨_, rfl, _, rfl, n, v, d, rfl, hv, hok, q⟩) (fun _ => by rfl) fun D H2 ds2 n2 s2 ed2 e2 => ?_⟩
      have ee : ds2 = d1 :: ds := by
        rcases ed with rfl | rfl <;> rcases ed2 with ed2 | ed2 <;> first | cases ed2; rfl | cases ed2
      subst ee
      have s12 := s1.trans s2
      refine ⟨a, D, x1 :: xs, rfl, hs1.imp (fun h => s2.seq h) (fun h => Vx.seqT s2 h), ?_, .inl ⟨(d1 :: ds).map (keyI n), ?_, ?_, fun i k hk => ?_, fun H3 s3 => ?_⟩⟩
      · have q := (ok_seq ok ed).1
        rw [Das.len (.cons r1 rs)]
        omega
      · refine SqL.of (e2.trans ?_)
        rw [List.map_map, List.map_map]
        refine congrArg (fun z => some (HO.lst z)) (List.map_congr_left fun z _ => ?_)
        show V.bl (stateD n z) = V.bl (keyI n z).isSome
        rw [keyI_some]
      · rw [List.length_map, Das.len (.cons r1 rs)]
      · rw [List.getElem?_map] at hk
        obtain ⟨z, hz, ek⟩ := Option.map_eq_some_iff.mp hk
        obtain ⟨v, hv, hda⟩ := das_at (Das.cons r1 rs) hz
        rw [hv, keyI_at hda ek]
      · have s13 := s12.trans s3
        have es2 : startsD n d = (fwk [] ((d1 :: ds).map (keyI n)) 0).map some := es
        refine ⟨_, rfl, rfl, _, rfl, ?_⟩
        cases ef : fwk [] ((d1 :: ds).map (keyI n)) 0 with
        | none =>
          rw [ef] at es2
          exact iteF (k1 es2 H3 s13)
        | some i =>
          rw [ef] at es2
          exact iteT ⟨_, rfl, _, rfl, fun dd nd => bad (some i) H3 es2 s13 dd nd⟩
end
end K16
/-! ## K16s -/
set_option Elab.async false
set_option linter.all false
set_option maxRecDepth 100000
set_option maxHeartbeats 4000000
namespace K16
open PySem PySem.Spec PyProof.Rows L2 He Vx

/-- what the text must have of Box -/
structure BoxC (P : Program) (w : World) (K : PySem.W.Frag) (mg : Str → Option Value) (base : Heap) (C : Addr) : Prop where
  hm : mg "Box" = some (.ref C)
  ex : ∃ (mc : Value) (q g : Addr) (fd : FuncData), ClX.CRead K C mc ∧ CSta K C mc "is_step" q g ∧ FnOk P w K mg base CX0 3 g fd ["states", "value"] (spS K stepD) ∧ Binds K fd ["states", "value"] [] ∧
    (∃ u, ClX.CVal K C mc "MOST_STATES" (.int 6) u) ∧ ∃ u, ClX.CVal K C mc "MOST_STEPS" (.int 24) u
  cls : Cls K C
  n1 : NoAttr K C "_states"
  n2 : NoAttr K C "_starts"
  n3 : NoAttr K C "_steps"
def keyM (n : Int) : PyData → Option (List L2.Key)
  | .tuple [.int s, .str c, .str a, .int t] => if stepL n [.int s, .str c, .str a, .int t] = true then some [.inl s, .inr c, .inr a, .inl t] else none
  | _ => none
theorem state_int {n : Int} {d : PyData} (h : stateD n d = true) : ∃ i, d = .int i := by
  cases d with
  | int i => exact ⟨i, rfl⟩
  | _ => cases h
theorem name_str {d : PyData} (h : nameD d = true) : ∃ z, d = .str z := by
  cases d with
  | str z => exact ⟨z, rfl⟩
  | _ => cases h
theorem step_shape {n : Int} {d : PyData} (h : stepD n d = true) : ∃ s c a t, d = .tuple [.int s, .str c, .str a, .int t] := by
  cases d with
  | tuple ds =>
    have h : stepL n ds = true := h
    by_cases l : ds.length = 4
    · obtain ⟨d1, d2, d3, d4, rfl⟩ := four_of l
      have h : (stateD n d1 && (nameD d2 && (nameD d3 && stateD n d4))) = true := h
      obtain ⟨h1, h⟩ := ba h
      obtain ⟨h2, h⟩ := ba h
      obtain ⟨h3, h4⟩ := ba h
      obtain ⟨s, rfl⟩ := state_int h1
      obtain ⟨c, rfl⟩ := name_str h2
      obtain ⟨a, rfl⟩ := name_str h3
      obtain ⟨t, rfl⟩ := state_int h4
      exact ⟨s, c, a, t, rfl⟩
    · rw [stepL_len l] at h
      cases h
  | _ => cases h
theorem keyM_some (n : Int) (d : PyData) : (keyM n d).isSome = stepD n d := by
  cases e : stepD n d with
  | true =>
    obtain ⟨s, c, a, t, rfl⟩ := step_shape e
    have e : stepL n [.int s, .str c, .str a, .int t] = true := e
    show (if stepL n [.int s, .str c, .str a, .int t] = true then some _ else none : Option (List L2.Key)).isSome = true
    rw [if_pos e]
    rfl
  | false =>
    unfold keyM
    split
    · rename_i s c a t
      have e : stepL n [.int s, .str c, .str a, .int t] = false := e
      rw [if_neg (by rw [e]; exact Bool.false_ne_true)]
      rfl
    · rfl
theorem keyM_shape {n : Int} {d : PyData} {k : List L2.Key} (e : keyM n d = some k) : ∃ s c a t, d = .tuple [.int s, .str c, .str a, .int t] ∧ k = [.inl s, .inr c, .inr a, .inl t] := by
  have h : stepD n d = true := by rw [← keyM_some, e]; rfl
  obtain ⟨s, c, a, t, rfl⟩ := step_shape h
  refine ⟨s, c, a, t, rfl, ?_⟩
  have e : (if stepL n [.int s, .str c, .str a, .int t] = true then some [.inl s, .inr c, .inr a, .inl t] else none : Option (List L2.Key)) = some k := e
  split at e
  · exact (Option.some.inj e).symm
  · cases e
/-- what is wrong of the steps -/
def stepsD (n : Int) : PyData → Option (Option Nat)
  | .list ds => (fwk [] (ds.map (keyM n)) 0).map some
  | .tuple ds => (fwk [] (ds.map (keyM n)) 0).map some
  | _ => some none
/-- the tuples of a list or tuple stand as they are -/
def Tups (K : PySem.W.Frag) (H : Hp) (x : V) (d : PyData) : Prop := seqD d = true → ∃ a xs ds, x = .ref a ∧ ((SqL K H a xs ∧ d = .list ds) ∨ (SqT K H a xs ∧ d = .tuple ds)) ∧ Das K H xs ds ∧
  ∀ (i : Nat) (s t : Int) (c z : Str), ds[i]? = some (.tuple [.int s, .str c, .str z, .int t]) → ∃ b : Addr, xs[i]? = some (V.ref b) ∧ H b = some (.tup [.int s, .str c, .str z, .int t])
theorem Tups.mono {K : PySem.W.Frag} {H H' : Hp} {x : V} {d : PyData} (h : Tups K H x d) (s : Same H H') : Tups K H' x d := fun e => by
  obtain ⟨a, xs, ds, h1, h2, h3, h4⟩ := h e
  refine ⟨a, xs, ds, h1, h2.imp (fun z => ⟨s.seq z.1, z.2⟩) (fun z => ⟨Vx.seqT s z.1, z.2⟩), h3.mono s, fun i sa t c z q => ?_⟩
  obtain ⟨b, e1, e2⟩ := h4 i sa t c z q
  exact ⟨b, e1, s _ _ e2⟩
def spSteps (K : PySem.W.Frag) : Sp := fun vs H Q E => ∃ n x d, vs = [.int n, x] ∧ Da K H x d ∧ Tups K H x d ∧ okD d = true ∧ Looks (ga K "InvalidSteps") H Q E (stepsD n d)
section
variable {P : Program} {w : World} {K : PySem.W.Frag} {mg : Str → Option Value} {base : Heap}
theorem co_check_steps {C : Addr} (F : At K mg "check_steps" s_check_steps) (T : BI mg) (ES : ErrSet P w K mg base) (CB : BoxC P w K mg base C) (c_is_list : Co P w K mg base CX0 1 "is_list" ["value"] (spP K seqD))
    (c_first_wrong : Co P w K mg base CX0 1 "first_wrong" ["values", "right"] (spFW K)) : Co P w K mg base (L2.CX P w) 4 "check_steps" ["states", "steps"] (spSteps K) := by
  obtain ⟨mc, qq, gg, fdS, rd, sta, ok_, bs, _⟩ := CB.ex
  refine co_mkX F sc_check_steps (fun vs H Q E h => ?_) (fun _ _ _ _ _ _ us hl => match us, hl with | [_, _], _ => rfl) (fun f cdv A outer s H vs Q E hr h => ?_)
  · obtain ⟨n, x, d, rfl, _⟩ := h
    rfl
  · obtain ⟨n, x, d, rfl, hd, hT, ok, k1, k2⟩ := h
    refine ⟨_, (pss_cons (ps_if (pt_not (pt_val (pe_co c_is_list (hr.mono (by decide)) (by rfl) (pa_cons (pv 1) pa_nil)))) (pss_one (ps_rx ES.InvalidSteps (hr.mono (by decide)) rfl (takes_of rfl rfl rfl rfl) (by rfl) (pa_cons pe_non pa_nil))) pss_nil)
  (pss_cons (ps_set (i := 2) sc_check_steps.nd rfl (Or.inl rfl) (pe_co c_first_wrong (hr.mono (by decide)) (by rfl) (pa_cons (pv 1) (pa_cons (pe_lc (own := [("step", 3)]) (g := (gName 3)) (tt := tYes) (by rfl) sc_check_steps.nd (pi_seqK (K := K) rfl (pv 1)) (blkOk_by (own := [("step", 3)]) (N := ["states", "steps", "position", "step"]) (sc := defScope s_check_steps) (by decide +kernel)) (fun _ _ _ _ _ => (pg_name (i := 3) sc_check_steps.nd rfl (Or.inl rfl))) (fun _ _ _ _ _ => pts_nil) (fun _ _ _ _ _ => (pe_sta (pe_glob (v := .ref _) (by rfl) CB.hm rfl) rd sta ok_ bs pass0 (hr.mono (by decide)) (pa_cons (pv 0) (pa_cons (pv 3) pa_nil))))) pa_nil))))
  (pss_one (ps_if (pt_cmpR op_notN (pv 2) pe_non (nomark _)) (pss_one (ps_rx ES.InvalidSteps (hr.mono (by decide)) rfl (takes_of rfl rfl rfl rfl) (by rfl) (pa_cons (pv 2) pa_nil))) pss_nil)))), ?_⟩
    have bad : ∀ o H1, stepsD n d = some o → Same H H1 → ∀ dd, H1 dd = none → E (.ref (ga K "InvalidSteps")) (some dd) (upd H1 dd (.xd [("position", posV o)])) := fun o H1 eo s1 dd nd => k2 o eo dd _ (s1.trans (same_new nd)) upd_same
    refine ⟨_, rfl, x, d, rfl, hd, ok, fun H1 s1 => ⟨_, rfl, ?_⟩⟩
    cases e : seqD d with
    | false =>
      have eo : stepsD n d = some none := by cases d <;> first | rfl | cases e
      exact iteT ⟨_, rfl, fun dd nd => bad none H1 eo s1 dd nd⟩
    | true =>
      obtain ⟨a, xs, ds, rfl, hs, das, tp⟩ := hT e
      have ed : d = .list ds ∨ d = .tuple ds := hs.imp And.right And.right
      have es : stepsD n d = (fwk [] (ds.map (keyM n)) 0).map some := by rcases ed with rfl | rfl <;> rfl
      have hs1 : SqL K H1 a xs ∨ SqT K H1 a xs := hs.imp (fun h => s1.seq h.1) fun h => Vx.seqT s1 h.1
      refine iteF ⟨_, rfl, da_lcS (K := K) (stepD n) (fun R q => ⟨_, rfl, q⟩) (hd.mono s1) ok e (fun v d H1 R hv hok q => ⟨rfl, _, rfl, _, rfl, n, v, d, rfl, hv, hok, q⟩) (fun _ => by rfl) fun D H2 ds2 n2 s2 ed2 e2 => ?_⟩
      have ee : ds2 = ds := by
        rcases ed with rfl | rfl <;> rcases ed2 with ed2 | ed2 <;> first | cases ed2; rfl | cases ed2
      subst ee
      have s12 := s1.trans s2
      refine ⟨a, D, xs, rfl, hs1.imp (fun h => s2.seq h) (fun h => Vx.seqT s2 h), ?_, .inr ⟨ds2.map (keyM n), ?_, ?_, fun i k hk => ?_, fun H3 s3 => ?_⟩⟩
      · have q := (ok_seq ok ed).1
        rw [das.len]
        omega
      · refine SqL.of (e2.trans ?_)
        rw [List.map_map, List.map_map]
        refine congrArg (fun z => some (HO.lst z)) (List.map_congr_left fun z _ => ?_)
        show V.bl (stepD n z) = V.bl (keyM n z).isSome
        rw [keyM_some]
      · rw [List.length_map, das.len]
      · rw [List.getElem?_map] at hk
        obtain ⟨z, hz, ek⟩ := Option.map_eq_some_iff.mp hk
        obtain ⟨sa, c, an, t, rfl, rfl⟩ := keyM_shape ek
        obtain ⟨b, e3, e4⟩ := tp i sa t c an hz
        exact ⟨b, e3, s12 _ _ e4⟩
      · have s13 := s12.trans s3
        refine ⟨_, rfl, rfl, _, rfl, ?_⟩
        cases ef : fwk [] (ds2.map (keyM n)) 0 with
        | none =>
          rw [ef] at es
          exact iteF (k1 es H3 s13)
        | some i =>
          rw [ef] at es
          exact iteT ⟨_, rfl, _, rfl, fun dd nd => bad (some i) H3 es s13 dd nd⟩
end
end K16
/-! ## G29 -/
set_option Elab.async false
set_option linter.all false
set_option maxRecDepth 100000
set_option maxHeartbeats 4000000
namespace Vx
open PySem PySem.Spec PyProof.Rows PySem.Calls L2 He
/-! ### sorted of a list or a tuple of data -/
def rSortS (K : PySem.W.Frag) : List V → Hp → VK → Prop := fun vs H Q => ∃ (a : Addr) (β : Type) (bs : List β) (enc : β → PyData) (val : β → V), vs = [V.ref a] ∧ (SqL K H a (bs.map val) ∨ SqT K H a (bs.map val)) ∧ (∀ b ∈ bs, Da K H (val b) (enc b)) ∧
  PySem.W.AllAlike (bs.map enc) ∧ PySem.W.Sortable (bs.map enc) ∧ (∀ b ∈ bs, (enc b).depth ≤ 20) ∧ ∀ p, H p = none → Q (.ref p) (upd H p (.lst ((bs.mergeSort (PySem.W.dataLe false enc)).map val)))
theorem cr_sortS {X : Cx} (hu : X.A.units + 64 < cLine) : CallR X (.builtin "sorted") (rSortS X.K) := by
  intro pins s σ H vs us Q I r h
  obtain ⟨a, β, bs, enc, val, rfl, sq, good, al, srt, dep, q⟩ := h
  rcases sq with sq | sq
  · exact cr_sortB hu pins s σ H _ us Q I r ⟨a, β, bs, enc, val, rfl, sq, good, al, srt, dep, q⟩
  obtain ⟨u, rfl, ru⟩ := vals1 r
  obtain rfl : u = Value.ref a := ru
  obtain ⟨its, rel, ⟨o, at_, cl, n, dt⟩, small⟩ := I.tuple sq
  rw [List.length_map] at small
  have count : its.length = bs.length := by rw [← rel.length, List.length_map]
  refine call_function_entry kind_sorted plain_sorted entry_sorted (args_sorted1 _) ?_
  unfold Builtin.«sorted»
  refine wpAny_bind (m := checkCount "sorted" 1 1 _) (wpAny_pure ?_)
  refine wpAny_bind (wpAny_collect_seq a (.inr rfl) at_ cl dt (fun h1 old => ?_) (by rw [List.size_toArray, count]; exact small))
  have same : its.toArray.toList = its := by simp
  rw [same]
  refine wpAny_bind (wpAny_newList ?_ (by rw [count]; exact small))
  have old2 : ∀ b ob, s.heap.get? b = some ob → (h1.push (seqObj "list" its.toArray 0)).get? b = some ob := fun b ob z => Heap.get?_push_of_some _ (old b ob z)
  have I1 : Inv X pins σ H { s with heap := h1 } := I.kept (t' := s.toks) old
  have new : (h1.push (seqObj "list" its.toArray 0)).get? h1.objs.size = some (seqObj "list" its.toArray 0) := Heap.get?_push_size _ rfl
  have reads : ∀ {bs : List β} {us : List Value}, (∀ b ∈ bs, Da X.K H (val b) (enc b)) → Vals (bs.map val) us → PySem.W.EachIs (fun v b => ∃ as, Reads (h1.push (seqObj "list" its.toArray 0)) v (enc b) as ∧ h1.objs.size ∉ as) us bs := by
    intro bs
    induction bs with
    | nil =>
      intro us _ rv
      cases rv
      exact .nil
    | cons b bs ih =>
      intro us hb rv
      cases rv with
      | cons r1 r2 =>
        obtain ⟨as, rd⟩ := Da.reads I (hb b (List.mem_cons_self ..)) r1
        refine .cons ⟨as, PyProof.Rows.Reads.keeps old2 rd, fun bad => ?_⟩ (ih (fun c hc => hb c (List.mem_cons_of_mem _ hc)) r2)
        obtain ⟨ob, z⟩ := PyProof.On.reads_mem_get (PyProof.Rows.Reads.keeps old rd) _ bad
        exact Nat.lt_irrefl _ (Heap.lt_size z)
  refine wpAny_bind (wpAny_holding ?_)
  refine PySem.W.list_sort_data (R := fun v b => RelV (val b) v) (vs := its) (bs := bs) (enc := enc) (n := 0) new (each_vals rel) (reads good rel) al srt small (fun b hb => ?_) fun out len each => ?_
  · have z := dep b hb
    show X.A.in1.units + 1 + (enc b).depth < cLine
    show X.A.units + 1 + 1 + (enc b).depth < cLine
    omega
  · obtain ⟨ep, fin⟩ := PyProof.Rows.sortedHeap_at (vs := its) (out := out.toArray) new
    refine wpAny_pure ⟨_, rfl, .ref h1.objs.size, upd H h1.objs.size (.lst ((bs.mergeSort (PySem.W.dataLe false enc)).map val)), I1.laid (t' := s.toks) (fun b ob z => ?_) (Nat.le_refl _) ⟨?_, out, ep, vals_each each, fin⟩, rfl, q _ (I1.hok.fresh (Nat.le_refl _))⟩
    · have y : (h1.push (seqObj "list" its.toArray 0)).get? b = some ob := Heap.get?_push_of_some _ z
      exact (PyProof.Rows.sortedHeap_old (Nat.ne_of_lt (Heap.lt_size z)) (Heap.lt_size y)).trans y
    · rw [List.length_map, (List.mergeSort_perm _ _).length_eq]
      exact small
end Vx
/-! ## G30 -/
set_option Elab.async false
set_option linter.all false
set_option maxRecDepth 100000
set_option maxHeartbeats 6000000
namespace Vx
open PySem PySem.Spec PyProof.Rows L2 He
/-! ### set of a list of ints, its order known -/
/-- a new set, empty -/
abbrev set0 (w : World) : Obj := { cls := .type "set", dict := none, data := .set #[] 0 (.fresh 0 0 (!w.params.followText "set-order")) }
section
variable {P : Program} {w : World} {A : Around} {E : Value → Shared → Prop} {s : Shared}
/-- what stands behind the making of the set -/
def MadeOf (w : World) (s : Shared) (ns : List Int) (s' : Shared) : Prop := ∃ (g : Heap) (k n : Nat), s' = { s with heap := g, toks := k } ∧ SetR w g s.heap.objs.size (fun j => decide (j ∈ ns)) n ∧ n ≤ ns.length ∧ ∀ b ob, s.heap.get? b = some ob → g.get? b = some ob
/-- set.__init__ of the empty set and a list of ints -/
theorem init_of_list {l : Addr} {its : Array Value} (ns : List Int) (free : A.handled = none) (isL : s.heap.IsList l its) (zi : IntsAre its.toList ns) (few : ns.length + 1 < scanBound) :
    codeAny (model P w) A (.call (.builtin "set.__init__") ⟨[.ref s.heap.objs.size, .ref l], []⟩) (wants (fun r s' => r = .none ∧ MadeOf w s ns s') E) { s with heap := s.heap.push (set0 w) } := by
  have at0 : (s.heap.push (set0 w)).get? s.heap.objs.size = some (set0 w) := Heap.get?_push_size _ rfl
  have ty0 : Shared.TypeIs { s with heap := s.heap.push (set0 w) } (.ref s.heap.objs.size) "set" := ⟨_, at0, rfl⟩
  have size : its.size = ns.length := (Array.length_toList ..).symm.trans (IntsAre.length zi)
  refine codeAny_call_builtin PySem.F.called_set.init.plain PySem.F.entry_set_init (check_set_init_1 ty0 ?_)
  obtain ⟨⟨cl, dc, dt, sl⟩, atL, hc, n, hd⟩ := isL
  obtain rfl : cl = .type "list" := hc
  obtain rfl : dt = .seq its n := hd
  have atL' := Heap.get?_push_of_some (set0 w) atL
  have a1 := PySem.F.sub_list_set
  have a2 := PySem.F.sub_list_frozenset
  have a3 : (Value.type "list" == Value.type "dict") = false := by decide
  have isL' : (s.heap.push (set0 w)).IsList l its := ⟨_, atL', rfl, n, rfl⟩
  unfold Builtin.«set.__init__» noKeywords Builtin.Frozenset.updateFrom
  generalize it : pyIter = pit
  wp_walk
  subst it
  refine wpAny_pyIter_list isL' (wpAny_bind (wpAny_runValue ?_))
  have low : l < s.heap.objs.size := Heap.lt_size atL
  have sz : (s.heap.push (set0 w)).objs.size = s.heap.objs.size + 1 := Heap.size_push ..
  have ne1 : l ≠ (s.heap.push (set0 w)).objs.size := by
    rw [sz]
    exact Nat.ne_of_lt (Nat.lt_succ_of_lt low)
  have ne2 : s.heap.objs.size ∉ [(s.heap.push (set0 w)).objs.size, l] := by
    rw [sz]
    intro bad
    rcases List.mem_cons.mp bad with z | z
    · exact Nat.succ_ne_self _ z.symm
    · exact Nat.lt_irrefl _ (List.mem_singleton.mp z ▸ low)
  have each : ∀ (i : Nat) (v : Value), its[i]? = some v → ∃ k t, ns[i]? = some k ∧ v = .int k t := by
    intro i v hv
    have hi : i < ns.length := size ▸ (Array.getElem?_eq_some_iff.mp hv).1
    obtain ⟨t, e⟩ := IntsAre.int_at zi i v (by rw [Array.getElem?_toList]; exact hv)
    exact ⟨ns[i], t, List.getElem?_eq_getElem hi, by rw [e, List.getD_eq_getElem?_getD, List.getElem?_eq_getElem hi]; rfl⟩
  have calm : A.in1.in1.handled = none := free
  refine set_update_ints ((Walks.list calm _ l ne1 its).toS) s.heap.objs.size ne2 ns size few each (its.size - 0) 0 _ rfl (Nat.zero_le _) ⟨⟨_, Heap.get?_push_size _ rfl, rfl, rfl⟩, isL'.push _⟩ ⟨0, Nat.le_refl 0, setR_new_at (Heap.get?_push_of_some _ at0)⟩ ?_
  rintro ⟨g, gs, dr, k, os⟩ c mv hc R
  obtain rfl : gs = s.gens := mv.gens
  obtain rfl : dr = s.drawn := mv.drawn
  obtain rfl : os = s.os := mv.os
  refine wpAny_pure (wpAny_pure ⟨rfl, g, k, c, rfl, R, size ▸ hc, fun b ob e => ?_⟩)
  have hb := Heap.lt_size e
  refine mv.heap b ob (fun bad => ?_) (Heap.get?_push_of_some _ (Heap.get?_push_of_some _ e))
  rcases List.mem_cons.mp bad with z | z
  · exact Nat.lt_irrefl _ (z ▸ hb)
  · have y := List.mem_singleton.mp z
    rw [sz] at y
    exact Nat.lt_irrefl _ (Nat.lt_of_succ_lt (y ▸ hb))
/-- set(xs), xs a list of ints -/
theorem set_of_list {l : Addr} {its : Array Value} (ns : List Int) {Q : Value → Shared → Prop} (free : A.handled = none) (isL : s.heap.IsList l its) (zi : IntsAre its.toList ns) (few : ns.length + 1 < scanBound)
    (fin : ∀ s', MadeOf w s ns s' → Q (.ref s.heap.objs.size) s') : wpAny (model P w) A (call (.type "set") [.ref l]) Q E s := by
  obtain ⟨c, tl, mro⟩ := PySem.F.called_set.mro
  have b1 := PySem.F.called_set.made
  have b2 := PySem.F.called_set.sub
  have b3 := PySem.F.called_set.notType
  have b4 := PySem.F.called_set.canCreate
  have b5 := PySem.F.typeCall_set_1 (.ref l)
  refine wpAny_call (codeAny_of_tree (show wpAny _ _ (callAny (.type "set") _) _ _ _ from wpAny_pure ⟨Code.quiet_builtin _ (by decide +kernel), codeAny_builtin PySem.F.entry_type_call ?_⟩))
  rw [Around.under_plain (weight_type_call_type "set" [.ref l] []) rfl]
  repeat (any_goals (first | assumption | wp_step))
  refine codeAny_mono (code_set_led1 (.ref l) (E := E) (Q₁ := fun ob s1 => ob = .ref s.heap.objs.size ∧ s1 = { s with heap := s.heap.push (set0 w) }) ⟨rfl, rfl⟩) fun r s1 hr => ?_
  rcases r with er | fl
  · exact hr
  rcases fl with _ | _ | _ | ob
  all_goals first | exact hr.elim | skip
  obtain ⟨rfl, rfl⟩ := hr
  have at0 : (s.heap.push (set0 w)).get? s.heap.objs.size = some (set0 w) := Heap.get?_push_size _ rfl
  have ty0 : Shared.TypeIs { s with heap := s.heap.push (set0 w) } (.ref s.heap.objs.size) "set" := ⟨_, at0, rfl⟩
  have b6 := PySem.F.called_set.init.lookup
  have b7 := PySem.F.called_set.init.bind (.ref s.heap.objs.size)
  repeat (any_goals (first | assumption | wp_step))
  refine codeAny_mono (init_of_list (E := E) ns free isL zi few) fun r s2 hr => ?_
  rcases r with er | fl
  · exact hr
  rcases fl with _ | _ | _ | v
  all_goals first | exact hr.elim | skip
  obtain ⟨rfl, made⟩ := hr
  repeat (any_goals (first | assumption | wp_step))
  exact fin _ made
end
def rSetL (K : PySem.W.Frag) (w : World) : List V → Hp → VK → Prop := fun vs H Q => ∃ (a : Addr) (ns : List Int), vs = [.ref a] ∧ SqL K H a (ns.map V.int) ∧ ns.length ≤ 1000 ∧
  ∀ p n, H p = none → n ≤ ns.length → Q (.ref p) (upd H p (SetO w p (fun j => decide (j ∈ ns)) n))
theorem cr_setL {X : Cx} (hc : X.calm = true) : CallR X (.type "set") (rSetL X.K X.w) := by
  intro pins s σ H vs us Q I r h
  obtain ⟨a, ns, rfl, sq, few, q⟩ := h
  obtain ⟨u, rfl, ru⟩ := vals1 r
  obtain rfl : u = Value.ref a := ru
  obtain ⟨its, rel, pl, _⟩ := I.list sq
  refine set_of_list (its := its.toArray) ns (I.ok.hd hc) pl.isList (by simpa using rel.ints) (by unfold scanBound; omega) fun s' made => ?_
  obtain ⟨g, k, n, rfl, R, le, keep⟩ := made
  exact ⟨.ref s.heap.objs.size, _, I.laid (t' := k) keep (Nat.le_refl _) (setO_new R), rfl, q _ n (I.hok.fresh (Nat.le_refl _)) le⟩
end Vx
/-! ## G31 -/
set_option Elab.async false
set_option linter.all false
set_option maxRecDepth 100000
set_option maxHeartbeats 4000000
namespace Vx
open PySem PySem.Spec PyProof.Rows L2 He
/-! ### data, just as it is told -/
section
variable {K : PySem.W.Frag} {p : Addr} {H0 : Hp} {σ : L2.St}
/-- te makes the data d, changing nothing that stands -/
def MkD (K : PySem.W.Frag) (p : Addr) (H0 : Hp) (σ : L2.St) (te : TE) (d : PyData) : Prop :=
  ∀ H (R : VK), Same H0 H → Pot p H → (∀ x H', Same H H' → Da K (off p H') x d → R x H') → te σ H R
def MkDs (K : PySem.W.Frag) (p : Addr) (H0 : Hp) (σ : L2.St) (tas : TA) (ds : List PyData) : Prop :=
  ∀ H (R : List V → Hp → Prop), Same H0 H → Pot p H → (∀ xs H', Same H H' → Das K (off p H') xs ds → R xs H') → tas σ H R
theorem mkd_nil : MkDs K p H0 σ tNil [] := fun H R _ _ q => q [] H (Same.refl H) .nil
theorem mkd_cons {te : TE} {tas : TA} {d : PyData} {ds : List PyData} (h : MkD K p H0 σ te d) (hs : MkDs K p H0 σ tas ds) : MkDs K p H0 σ (tCons te tas) (d :: ds) := fun H R s P q =>
  h H _ s P fun x H1 s1 e => hs H1 _ (s.trans s1) (P.keep s1) fun xs H2 s2 es => q (x :: xs) H2 (s1.trans s2) (.cons (e.mono (same_off s2)) es)
theorem mkd_c {v : V} {d : PyData} (h : ∀ H, Da K H v d) : MkD K p H0 σ (tC v) d := fun H R _ _ q => q v H (Same.refl H) (h _)
theorem mkd_int {i : Int} : MkD K p H0 σ (tC (.int i)) (.int i) := mkd_c fun _ => .int i
theorem mkd_str {z : Str} : MkD K p H0 σ (tC (.str z)) (.str z) := mkd_c fun _ => .str z
theorem mkd_bl {b : Bool} : MkD K p H0 σ (tC (.bl b)) (.bool b) := mkd_c fun _ => .bl b
theorem mkd_non : MkD K p H0 σ (tC .non) .none := mkd_c fun _ => .non
theorem mkd_var {i : Nat} {v : V} {d : PyData} (hv : σ[i]? = some (some v)) (h : Da K (off p H0) v d) : MkD K p H0 σ (tVar i) d := fun H R s P q => ⟨v, hv, q v H (Same.refl H) (h.mono (same_off s))⟩
theorem mkd_lst {tas : TA} {ds : List PyData} (h : MkDs K p H0 σ tas ds) (hn : ds.length ≤ 1000) : MkD K p H0 σ (tLst tas) (.list ds) := fun H R s P q =>
  h H _ s P fun xs H1 s1 es => ⟨by rw [es.len]; exact Nat.le_of_lt (small1000 hn), fun a ha => q _ _ (s1.trans (same_new ha)) (Da.newL (P.keep s1) ha es)⟩
theorem mkd_tup {tas : TA} {ds : List PyData} (h : MkDs K p H0 σ tas ds) (hn : ds.length ≤ 1000) : MkD K p H0 σ (tTup tas) (.tuple ds) := fun H R s P q =>
  h H _ s P fun xs H1 s1 es => ⟨by rw [es.len]; exact Nat.le_of_lt (small1000 hn), fun a ha => q _ _ (s1.trans (same_new ha)) (Da.newT (P.keep s1) ha es)⟩
theorem mkd_neg {j : Int} : MkD K p H0 σ (tUn (rU fun i => .int (-i)) (tC (.int j))) (.int (-j)) := fun H R _ _ q => ⟨_, rfl, q _ H (Same.refl H) (.int _)⟩
theorem mkd_pow {i j : Int} (h : CPow i j) : MkD K p H0 σ (tOp (rI CPow fun i j => .int (i ^ j.toNat)) (tC (.int i)) (tC (.int j))) (.int (i ^ j.toNat)) := fun H R _ _ q => ⟨_, _, rfl, rfl, h, q _ H (Same.refl H) (.int _)⟩
theorem mkd_add {i : Nat} {n j : Int} (hv : σ[i]? = some (some (.int n))) : MkD K p H0 σ (tOp (rI0 fun i j => .int (i + j)) (tVar i) (tC (.int j))) (.int (n + j)) := fun H R _ _ q => ⟨_, hv, _, _, rfl, rfl, q _ H (Same.refl H) (.int _)⟩
theorem mkd_dnew : MkD K p H0 σ tDNewK (.dict []) := fun H R _ P q a ha => q _ _ (same_new ha) (.dK (off_new P ha) .nil)
theorem same_two {H : Hp} {a : Addr} {o u : HO} (h : H a = none) : Same H (upd (upd H a o) a u) := by
  rw [upd_upd]
  exact same_new h
theorem mkd_disp {i j : Int} : MkD K p H0 σ (tDisp [(tC (.int i), tC (.int j))]) (.dict [(.int i, .int j)]) := fun H R _ P q a ha => by
  refine ⟨upd_same, [(.inl i, .int j)], rfl, by show 1 ≤ 15; decide, ?_⟩
  refine q _ _ (same_two ha) (Da.dK (kvs := [(.inl i, .int j)]) ?_ (.cons (.int _) .nil))
  rw [off_ne (P.new ha), upd_same]
  rfl
/-- [..] + xs -/
theorem cat_d {tas : TA} {ds : List PyData} {i : Nat} {g : Addr} {gs : List V} {Q : VK} (hv : σ[i]? = some (some (.ref g))) (e : H0 g = some (.lst gs)) (P : Pot p H0) (h : MkDs K p H0 σ tas ds) (hl : ds.length + gs.length ≤ 1000)
    (q : ∀ a xs H', Same H0 H' → off p H' a = some (.lst (xs ++ gs)) → Das K (off p H') xs ds → Q (.ref a) H') : tOp rCat (tLst tas) (tVar i) σ H0 Q := by
  refine h H0 _ (Same.refl _) P fun xs H1 s1 es => ?_
  have l := es.len
  refine ⟨by rw [l]; exact Nat.le_of_lt (small1000 (by omega)), fun a ha => ⟨_, hv, ?_⟩⟩
  refine ⟨a, g, xs, gs, rfl, rfl, upd_same, (same_new ha) _ _ (s1 _ _ e), Nat.le_of_lt (small1000 (by omega)), fun b hb => ?_⟩
  have s2 := (same_new ha (o := .lst xs)).trans (same_new hb (o := .lst (xs ++ gs)))
  exact q b xs _ (s1.trans s2) (off_new ((P.keep s1).keep (same_new ha)) hb) (es.mono (same_off s2))
/-- a menu: its data, told by place -/
theorem lst_d {tas : TA} {ds : List PyData} {Q : VK} (P : Pot p H0) (h : MkDs K p H0 σ tas ds) (hl : ds.length ≤ 1000) (q : ∀ a xs H', Same H0 H' → off p H' a = some (.lst xs) → Das K (off p H') xs ds → Q (.ref a) H') : tLst tas σ H0 Q :=
  h H0 _ (Same.refl _) P fun xs H1 s1 es => ⟨by rw [es.len]; exact Nat.le_of_lt (small1000 hl), fun a ha => q a xs _ (s1.trans (same_new ha)) (off_new (P.keep s1) ha) (es.mono (same_off (same_new ha)))⟩
end
end Vx
/-! ## G32 -/
set_option Elab.async false
set_option linter.all false
set_option maxRecDepth 100000
set_option maxHeartbeats 4000000
namespace Vx
open PySem PySem.Spec PyProof.Rows L2
section
variable {P : Program} {w : World} {K : PySem.W.Frag} {mg mb : Str → Option Value} {k : Nat} {fa a : Addr} {fd : FuncData} {x : Str} {sp : Sp} {t : Shared} {us : List Value} {zs : List Int} {cs : List (Addr × Addr)}
/-- a code object's table at the start: empty -/
abbrev tab0 : Obj := { cls := .none, data := .fields #[] }
/-- the law's call at an abstract heap that tracks at most the script and the tables cs of code objects -/
theorem callT (inK : K.In t.heap) (gN : t.heap.Ns mainGlobals mg) (bN : t.heap.Ns builtinsNs mb) (bOk : ∀ y : Str, y ≠ "__name__" → mb y = bootBuiltins y) (noL : t.heap.NoLimit) (noG : t.gens = #[])
    (mt : ∀ p ∈ cs, t.heap.get? p.2 = some tab0) (ct : ∀ p ∈ cs, PySem.W.codeHdIn K p.1 p.2 = true) (nt : ∀ p ∈ cs, K.lookup p.2 = none)
    (bm : ∃ (b : Addr) (o : Obj), mg "__builtins__" = some (.ref b) ∧ b ≠ builtinsNs ∧ t.heap.get? b = some o ∧ o.cls = .type "module" ∧ o.dict = some builtinsNs ∧ o.data = .plain)
    (scr : t.heap.get? a = some { cls := .type "list", data := .seq us.toArray }) (room : Room k callerA) (fn : ∀ base : Heap, K.In base → base.Ns mainGlobals mg → (∀ p ∈ cs, LamX.TabB base mg p.1 p.2) → FnG P w K mg base CX0 k fa fd [x] sp)
    (bnd : ∀ (s : Shared) (u : Value), BindsTo s fd ⟨[u], []⟩ [(x, u)]) {H : Hp} (prom : sp [.ref a] H (fun v _ => v = .bl true) fun _ _ _ => False) (good : HOk P w H t.heap)
    (onl : ∀ b u, H b = some u → (b = a ∧ ∃ o xs, u = .frz o (.lst xs)) ∨ ∃ p ∈ cs, b = p.2 ∧ u = .tbl #[]) (offK : (H a).isSome = true → K.lookup a = none) (isT : ∀ p ∈ cs, H p.2 = some (.tbl #[])) :
    codeAny (model P w) callerA (.call (.ref fa) ⟨[.ref a], []⟩) (fun r s' => r = .ok (.ret (.bool true)) ∧ OldK t.heap s'.heap ∧ s'.os = t.os ∧ AllBare s'.gens) t := by
  have keepO : ∀ {b : Addr} {o : Obj}, t.heap.get? b = some o → (∀ us n, o.data ≠ .seq us n) → o.data ≠ .fields #[] → (hidT t.heap H).get? b = some o := by
    intro b o eo n1 n2
    refine hidT_get eo ?_
    rcases hb : H b with _ | u
    · rfl
    · rcases onl b u hb with ⟨rfl, _⟩ | ⟨p, hp, rfl, _⟩
      · rw [scr] at eo
        cases eo
        exact (n1 _ _ rfl).elim
      · rw [mt p hp] at eo
        cases eo
        exact (n2 rfl).elim
  have keepN : ∀ {b : Addr} {m : Str → Option Value}, t.heap.Ns b m → (hidT t.heap H).Ns b m := by
    rintro b m ⟨o, es, n, h1, h2, h3⟩
    exact ⟨o, es, n, keepO h1 (fun us n z => by rw [h2] at z; cases z) (fun z => by rw [h2] at z; cases z), h2, h3⟩
  have keepK : K.In (hidT t.heap H) := by
    intro b o eb
    refine hidT_get (inK b o eb) ?_
    rcases hb : H b with _ | u
    · rfl
    · rcases onl b u hb with ⟨rfl, _⟩ | ⟨p, hp, rfl, _⟩
      · rw [offK (by rw [hb]; rfl)] at eb
        cases eb
      · rw [nt p hp] at eb
        cases eb
  obtain ⟨ml, l1, l2⟩ := noL
  have tabs : ∀ p ∈ cs, LamX.TabB (hidT t.heap H) mg p.1 p.2 := fun p hp => by
    obtain ⟨b, o, b1, b2, b3, b4, b5, b6⟩ := bm
    refine ⟨PySem.W.codeHd_of_K keepK (ct p hp), ⟨b, o, b1, b2, fun q => ?_, fun q => ?_, keepO b3 (fun us n z => by rw [b6] at z; cases z) (fun z => by rw [b6] at z; cases z), b4, b5, b6⟩, fun q => ?_⟩
    · obtain ⟨o2, es, n, h1, h2, _⟩ := gN
      rw [q, h1] at b3
      cases b3
      rw [h2] at b6
      cases b6
    · rw [q, mt p hp] at b3
      cases b3
      cases b6
    · obtain ⟨o2, es, n, h1, h2, _⟩ := gN
      rw [q, mt p hp] at h1
      cases h1
      cases h2
  have env : Env0 P w K mg (hidT t.heap H) callerA [] t H :=
    ⟨rfl, ⟨keepK, keepN gN, ⟨mb, keepN bN, bOk⟩, ml, keepN l1, l2⟩, fun _ _ e => of_hidT e, Nat.le_of_eq (hidT_size _ _), trivial, (fun _ hb => nomatch hb), good, .of_eq noG⟩
  have go := (fn _ keepK (keepN gN) tabs).go callerA [] t H ⟨[.ref a], []⟩ [.ref a] [.ref a] _ _ room rfl env (bnd t (.ref a)) (.cons rfl .nil) prom
  refine codeAny_mono go ?_
  rintro (er | fl) s2 out
  · exact out.elim
  · rcases fl with _ | _ | _ | u
    all_goals first | exact out.elim | skip
    obtain ⟨v, H2, sameOs, bare, kept, good2, rv, hv⟩ := out
    cases (show v = .bl true from hv)
    cases (show u = Value.bool true from rv)
    -- a table has grown, or stays; all else stays
    have same : ∀ b o, t.heap.get? b = some o → s2.heap.get? b = some o ∨ ∃ p ∈ cs, b = p.2 ∧ ∃ more : Array Value, s2.heap.get? b = some { cls := .none, data := .fields more } := by
      intro b o eb
      rcases hb : H b with _ | u
      · exact .inl (kept.keep b o eb hb (fun z => nomatch (show b ∈ ([] : List Addr) from z)) (fun z => nomatch z))
      · rcases onl b u hb with ⟨_, ob, xs, rfl⟩ | ⟨p, hp, e, rfl⟩
        · have q1 := (good b _ hb).1
          have q2 := (good2 b _ (kept.frzs b ob _ hb)).1
          rw [eb] at q1
          cases q1
          exact .inl q2
        · obtain ⟨more, z⟩ := kept.tbls b #[] hb
          exact .inr ⟨p, hp, e, _, good2 b _ z⟩
    refine ⟨rfl, ⟨fun b o eb => ?_, fun b o eb => ?_⟩, sameOs, bare⟩
    · rcases same b o eb with h | ⟨p, hp, rfl, more, h⟩
      · exact .inl h
      · rw [mt p hp] at eb
        cases eb
        exact .inr (.inl ⟨((PySem.W.codeHd_of_K inK (ct p hp)).tab (mt p hp)).isCodeTable, rfl, #[], more, rfl, by rw [Array.empty_append]; exact h⟩)
    · rcases same b o eb with h | ⟨p, hp, rfl, more, h⟩
      · exact ⟨o, h⟩
      · exact ⟨_, h⟩
/-- the tables, tracked; the script beside them, or not -/
def trkT (cs : List (Addr × Addr)) (H : Hp) : Hp := fun b => if b ∈ cs.map (·.2) then some (.tbl #[]) else H b
theorem callGT (inK : K.In t.heap) (gN : t.heap.Ns mainGlobals mg) (bN : t.heap.Ns builtinsNs mb) (bOk : ∀ y : Str, y ≠ "__name__" → mb y = bootBuiltins y) (noL : t.heap.NoLimit) (noG : t.gens = #[])
    (mt : ∀ p ∈ cs, t.heap.get? p.2 = some tab0) (ct : ∀ p ∈ cs, PySem.W.codeHdIn K p.1 p.2 = true) (nt : ∀ p ∈ cs, K.lookup p.2 = none)
    (bm : ∃ (b : Addr) (o : Obj), mg "__builtins__" = some (.ref b) ∧ b ≠ builtinsNs ∧ t.heap.get? b = some o ∧ o.cls = .type "module" ∧ o.dict = some builtinsNs ∧ o.data = .plain)
    (scr : t.heap.get? a = some { cls := .type "list", data := .seq us.toArray }) (ii : IntsAre us zs) (few : zs.length ≤ sizeLine) (room : Room k callerA)
    (fn : ∀ base : Heap, K.In base → base.Ns mainGlobals mg → (∀ p ∈ cs, LamX.TabB base mg p.1 p.2) → FnG P w K mg base CX0 k fa fd [x] sp) (bnd : ∀ (s : Shared) (u : Value), BindsTo s fd ⟨[u], []⟩ [(x, u)])
    (prom : ∀ H : Hp, (∀ p ∈ cs, H p.2 = some (.tbl #[])) → SqL K H a (zs.map V.int) → sp [.ref a] H (fun v _ => v = .bl true) fun _ _ _ => False) :
    codeAny (model P w) callerA (.call (.ref fa) ⟨[.ref a], []⟩) (fun r s' => r = .ok (.ret (.bool true)) ∧ OldK t.heap s'.heap ∧ s'.os = t.os ∧ AllBare s'.gens) t := by
  have rel := vals_ints ii
  have len := ii.length
  have out : a ∉ cs.map (·.2) := fun z => by
    obtain ⟨p, hp, e⟩ := List.mem_map.mp z
    have q := mt p hp
    rw [e, scr] at q
    cases q
  have isT : ∀ (H : Hp), ∀ p ∈ cs, trkT cs H p.2 = some (.tbl #[]) := fun H p hp => if_pos (List.mem_map.mpr ⟨p, hp, rfl⟩)
  have offT : ∀ (H : Hp) {b : Addr}, b ∉ cs.map (·.2) → trkT cs H b = H b := fun H b hb => if_neg hb
  have tabG : ∀ (H : Hp) {b : Addr} {u : HO}, b ∈ cs.map (·.2) → trkT cs H b = some u → u = .tbl #[] ∧ ∃ p ∈ cs, b = p.2 := fun H b u hb e => by
    have z := (if_pos hb).symm.trans e
    cases z
    obtain ⟨p, hp, e2⟩ := List.mem_map.mp hb
    exact ⟨rfl, p, hp, e2.symm⟩
  rcases hk : K.lookup a with _ | o
  · have at_ : trk { cls := .type "list", data := .seq us.toArray } (zs.map V.int) a a = some (.frz { cls := .type "list", data := .seq us.toArray } (.lst (zs.map V.int))) := if_pos rfl
    have at2 := (offT (trk { cls := .type "list", data := .seq us.toArray } (zs.map V.int) a) out).trans at_
    refine callT (H := trkT cs (trk { cls := .type "list", data := .seq us.toArray } (zs.map V.int) a)) inK gN bN bOk noL noG mt ct nt bm scr room fn bnd (prom _ (isT _) (.inl (.inr ⟨_, at2⟩))) ?_ ?_ (fun _ => hk) (isT _)
    · intro b u eu
      by_cases hm : b ∈ cs.map (·.2)
      · obtain ⟨rfl, p, hp, rfl⟩ := tabG _ hm eu
        exact mt p hp
      · rw [offT _ hm] at eu
        by_cases hb : b = a
        · subst hb
          cases at_.symm.trans eu
          exact ⟨scr, by rw [List.length_map]; exact few, us, _, rel, scr⟩
        · cases (if_neg hb).symm.trans eu
    · intro b u eu
      by_cases hm : b ∈ cs.map (·.2)
      · obtain ⟨rfl, p, hp, rfl⟩ := tabG _ hm eu
        exact .inr ⟨p, hp, rfl, rfl⟩
      · rw [offT _ hm] at eu
        by_cases hb : b = a
        · subst hb
          cases at_.symm.trans eu
          exact .inl ⟨rfl, _, _, rfl⟩
        · cases (if_neg hb).symm.trans eu
  · have eo := inK a o hk
    rw [scr] at eo
    cases eo
    refine callT (H := trkT cs fun _ => none) inK gN bN bOk noL noG mt ct nt bm scr room fn bnd (prom _ (isT _) (.inr ⟨_, us.toArray, _, hk, rfl, rfl, rfl, by rw [List.size_toArray, len]; exact few, by simpa using rel⟩)) ?_ ?_ (fun z => by rw [offT _ out] at z; cases z) (isT _)
    · intro b u eu
      by_cases hm : b ∈ cs.map (·.2)
      · obtain ⟨rfl, p, hp, rfl⟩ := tabG _ hm eu
        exact mt p hp
      · rw [offT _ hm] at eu
        cases eu
    · intro b u eu
      by_cases hm : b ∈ cs.map (·.2)
      · obtain ⟨rfl, p, hp, rfl⟩ := tabG _ hm eu
        exact .inr ⟨p, hp, rfl, rfl⟩
      · rw [offT _ hm] at eu
        cases eu
end
/-- the end of a law with lambdas whose def keeps its promise where no repr is open -/
theorem walkT {l : PySem.W.OpenLaw} {n k : Nat} {q : Program} {loose : List Str} {XP : (Str → Option Value) → Heap → Prop} {YP : World → Heap → Prop} {d : DefRec} {x : Str} (most : l.most = some n) (n2 : n ≤ sizeLine) (nodf : d.params.defaults = []) (room : Room k callerA)
    (F : ∀ (w : World) (mg : Str → Option Value) (fa : Addr) (h : Heap), YP w h → h.Ns mainGlobals mg → mg d.name = some (.ref fa) → ∃ (K : PySem.W.Frag) (fd : FuncData) (sp : Sp) (cs : List (Addr × Addr)), K.In h ∧ (∀ p ∈ cs, h.get? p.2 = some tab0) ∧ (∀ p ∈ cs, PySem.W.codeHdIn K p.1 p.2 = true) ∧ (∀ p ∈ cs, K.lookup p.2 = none) ∧ (∀ (s : Shared) (u : Value), BindsTo s fd ⟨[u], []⟩ [(x, u)]) ∧
      (∀ (H : Hp) (a : Addr) (zs : List Int), zs.length ≤ n → (∀ p ∈ cs, H p.2 = some (.tbl #[])) → SqL K H a (zs.map V.int) → sp [.ref a] H (fun v _ => v = .bl true) fun _ _ _ => False) ∧ ∀ base : Heap, K.In base → base.Ns mainGlobals mg → (∀ p ∈ cs, LamX.TabB base mg p.1 p.2) → FnG l.prog w K mg base CX0 k fa fd [x] sp) :
    PySem.W.WalkO q loose XP YP l.row.toRowW d [] (fun f vs => PySem.call f vs) := by
  refine Att.attach_call most nodf fun w t0 t mg mb fa o pm cd doc a us zs G Y ho hd hcd hmg scr ii len noG => ?_
  obtain ⟨K, fd, sp, cs, inK, mt, ct, nt, bnd, prom, fn⟩ := F w mg fa _ Y G.T.g hmg
  exact callGT inK G.T.g G.T.b G.T.builtins G.T.nolimit noG mt ct nt G.T.bmain scr ii (Nat.le_trans len n2) room fn bnd fun H hT hS => prom H a zs len hT hS
end Vx
/-! ## T0 -/
set_option Elab.async false
set_option linter.all false
set_option maxRecDepth 100000
set_option maxHeartbeats 4000000
/-! Values and environments without a heap: what a reading does, as it is seen by plain data. -/
namespace Tl
open PySem PySem.Spec PyProof.Rows L2 He Vx

/-- a step of a box -/
structure Mv where
  a : Int
  c : Str
  z : Str
  b : Int
deriving DecidableEq
/-- plain data, and boxes -/
inductive D where
  | non | bl (b : Bool) | int (i : Int) | str (x : Str)
  | lst (l : List D) | tup (l : List D)
  | dK (ks : List L2.Key) (l : List D) | dT (ks : List (List L2.Key)) (l : List D)
  | box (n : Int) (s : List Int) (m : List Mv)
def mvD (m : Mv) : D := .tup [.int m.a, .str m.c, .str m.z, .int m.b]
def bxF (n : Int) (p q : Addr) : List (Str × V) := [("_states", .int n), ("_starts", .ref p), ("_steps", .ref q)]
mutual
/-- v reads as d -/
inductive DR (K : PySem.W.Frag) (H : Hp) : V → D → Prop
  | non : DR K H .non .non
  | bl (b : Bool) : DR K H (.bl b) (.bl b)
  | int (i : Int) : DR K H (.int i) (.int i)
  | str (x : Str) : DR K H (.str x) (.str x)
  | lst {a : Addr} {xs : List V} {ds : List D} : H a = some (.lst xs) → DRs K H xs ds → DR K H (.ref a) (.lst ds)
  | tup {a : Addr} {xs : List V} {ds : List D} : H a = some (.tup xs) → DRs K H xs ds → DR K H (.ref a) (.tup ds)
  | tup0 {a : Addr} : SqT K (fun _ => none) a [] → DR K H (.ref a) (.tup [])
  | dK {a : Addr} {kvs : List (L2.Key × V)} {ds : List D} : H a = some (.dK kvs) → DRs K H (kvs.map Prod.snd) ds → DR K H (.ref a) (.dK (kvs.map Prod.fst) ds)
  | dT {a : Addr} {kvs : List (List L2.Key × V)} {ds : List D} : H a = some (.dT kvs) → DRs K H (kvs.map Prod.snd) ds → DR K H (.ref a) (.dT (kvs.map Prod.fst) ds)
  | box {a dx p q : Addr} {n : Int} {s : List Int} {m : List Mv} : H a = some (.ins (ga K "Box") dx (bxF n p q)) → DR K H (.ref p) (.lst (s.map D.int)) → DR K H (.ref q) (.lst (m.map mvD)) → DR K H (.ref a) (.box n s m)
inductive DRs (K : PySem.W.Frag) (H : Hp) : List V → List D → Prop
  | nil : DRs K H [] []
  | cons {v : V} {vs : List V} {d : D} {ds : List D} : DR K H v d → DRs K H vs ds → DRs K H (v :: vs) (d :: ds)
end
section
variable {K : PySem.W.Frag} {H H' : Hp}
mutual
theorem DR.mono (e : Same H H') : ∀ {v : V} {d : D}, DR K H v d → DR K H' v d
  | _, _, .non => .non
  | _, _, .bl b => .bl b
  | _, _, .int i => .int i
  | _, _, .str x => .str x
  | _, _, .lst h g => .lst (e _ _ h) (DRs.mono e g)
  | _, _, .tup h g => .tup (e _ _ h) (DRs.mono e g)
  | _, _, .tup0 h => .tup0 h
  | _, _, .dK h g => .dK (e _ _ h) (DRs.mono e g)
  | _, _, .dT h g => .dT (e _ _ h) (DRs.mono e g)
  | _, _, .box h g f => .box (e _ _ h) (DR.mono e g) (DR.mono e f)
theorem DRs.mono (e : Same H H') : ∀ {vs : List V} {ds : List D}, DRs K H vs ds → DRs K H' vs ds
  | _, _, .nil => .nil
  | _, _, .cons a b => .cons (DR.mono e a) (DRs.mono e b)
end
theorem DRs.len : ∀ {vs : List V} {ds : List D}, DRs K H vs ds → vs.length = ds.length
  | _, _, .nil => rfl
  | _, _, .cons _ h => by rw [List.length_cons, List.length_cons, DRs.len h]
theorem DRs.app : ∀ {vs ws : List V} {ds es : List D}, DRs K H vs ds → DRs K H ws es → DRs K H (vs ++ ws) (ds ++ es)
  | _, _, _, _, .nil, h => h
  | _, _, _, _, .cons a b, h => .cons a (DRs.app b h)
theorem DRs.get : ∀ {vs : List V} {ds : List D} {i : Nat} {d : D}, DRs K H vs ds → ds[i]? = some d → ∃ v, vs[i]? = some v ∧ DR K H v d
  | _, _, _, _, .nil, e => by simp at e
  | _, _, 0, _, .cons (v := v) a b, e => by
    simp at e
    subst e
    exact ⟨v, rfl, a⟩
  | _, _, i + 1, _, .cons a b, e => by
    obtain ⟨v, h1, h2⟩ := DRs.get (i := i) b (by simpa using e)
    exact ⟨v, by simpa using h1, h2⟩
theorem DRs.take : ∀ {vs : List V} {ds : List D} (n : Nat), DRs K H vs ds → DRs K H (vs.take n) (ds.take n)
  | _, _, 0, _ => .nil
  | _, _, _ + 1, .nil => .nil
  | _, _, n + 1, .cons a b => .cons a (DRs.take n b)
theorem DRs.drop : ∀ {vs : List V} {ds : List D} (n : Nat), DRs K H vs ds → DRs K H (vs.drop n) (ds.drop n)
  | _, _, 0, h => h
  | _, _, _ + 1, .nil => .nil
  | _, _, n + 1, .cons a b => DRs.drop n b
theorem DRs.rep {v : V} {d : D} (h : DR K H v d) : ∀ n : Nat, DRs K H (List.replicate n v) (List.replicate n d)
  | 0 => .nil
  | n + 1 => .cons h (DRs.rep h n)
theorem DRs.rev : ∀ {vs : List V} {ds : List D}, DRs K H vs ds → DRs K H vs.reverse ds.reverse
  | _, _, .nil => .nil
  | _, _, .cons a b => by
    rw [List.reverse_cons, List.reverse_cons]
    exact (DRs.rev b).app (.cons a .nil)
theorem DRs.flat {vs : List V} {ds : List D} (h : DRs K H vs ds) : ∀ n : Nat, DRs K H (List.replicate n vs).flatten (List.replicate n ds).flatten
  | 0 => .nil
  | n + 1 => by
    rw [List.replicate_succ, List.replicate_succ, List.flatten_cons, List.flatten_cons]
    exact h.app (DRs.flat h n)
end

/-! ### masks -/
def msk (W : List Addr) (H : Hp) : Hp := fun a => if a ∈ W then none else H a
section
variable {W U : List Addr} {H H' : Hp} {a : Addr} {o : HO}
theorem mk_out (h : a ∉ W) : msk W H a = H a := if_neg h
theorem mk_in (h : a ∈ W) : msk W H a = none := if_pos h
theorem mk_some (e : msk W H a = some o) : a ∉ W ∧ H a = some o := by
  unfold msk at e
  split at e
  · cases e
  · exact ⟨by assumption, e⟩
theorem mk_sub (h : ∀ a ∈ U, a ∈ W) : Same (msk W H) (msk U H) := fun a o e => by
  obtain ⟨n, e⟩ := mk_some e
  rw [mk_out fun z => n (h a z)]
  exact e
theorem mk_nil : msk [] H = H := by
  funext a
  rw [mk_out (List.not_mem_nil)]
theorem mk_all : Same (msk W H) H := fun a o e => (mk_some e).2
theorem mk_mono (s : Same H H') : Same (msk W H) (msk W H') := fun a o e => by
  obtain ⟨n, e⟩ := mk_some e
  rw [mk_out n]
  exact s _ _ e
theorem mk_same (s : Same (msk U H) (msk U H')) (h : ∀ a ∈ U, a ∈ W) : Same (msk W H) (msk W H') := fun a o e => by
  obtain ⟨n, e⟩ := mk_some e
  have q := s a o (by rw [mk_out fun z => n (h a z)]; exact e)
  rw [mk_out n]
  exact (mk_some q).2
theorem mk_app (h : ∀ a ∈ U, H a = none) : Same (msk W H) (msk (W ++ U) H) := fun a o e => by
  obtain ⟨n, e⟩ := mk_some e
  rw [mk_out fun z => ?_]
  · exact e
  · rcases List.mem_append.mp z with z | z
    · exact n z
    · rw [h a z] at e
      cases e
end

/-! ### where one stands -/
/-- what is written, the pot, what the caller holds to itself -/
structure C1 where
  K : PySem.W.Frag
  p : Option Addr
  W : List Addr
def C1.P (c : C1) : List Addr := c.p.toList
theorem C1.mem {c : C1} {a : Addr} : a ∈ c.P ↔ c.p = some a := by
  unfold C1.P
  cases c.p <;> simp [eq_comm]
structure Base (c : C1) (H0 : Hp) (own : List Addr) (H : Hp) : Prop where
  pot : ∀ a, c.p = some a → Pot a H
  pw : ∀ a ∈ c.P, a ∈ c.W
  wf : ∀ a ∈ c.W, H0 a ≠ none
  keep : Same (msk c.P H0) (msk c.P H)
  fresh : ∀ a ∈ own, H0 a = none
  here : ∀ a ∈ own, H a ≠ none
/-- a step that leaves all but the pot -/
structure Stay (c : C1) (H H' : Hp) : Prop where
  pot : ∀ a, c.p = some a → Pot a H → Pot a H'
  keep : Same (msk c.P H) (msk c.P H')
section
variable {c : C1} {H0 H H' H1 : Hp} {own : List Addr} {a : Addr}
theorem Stay.refl : Stay c H H := ⟨fun _ _ z => z, Same.refl _⟩
theorem Stay.trans (x : Stay c H H') (y : Stay c H' H1) : Stay c H H1 := ⟨fun a e z => y.pot a e (x.pot a e z), x.keep.trans y.keep⟩
theorem Stay.of (s : Same H H') : Stay c H H' := ⟨fun a _ z => z.keep s, mk_mono s⟩
theorem pot_some {H : Hp} (h : Pot a H) : H a ≠ none := by
  obtain ⟨x, y, e, _⟩ := h
  rw [e]
  exact fun z => by cases z
theorem Base.some_ (b : Base c H0 own H) (h : H0 a ≠ none) : H a ≠ none := by
  by_cases m : a ∈ c.P
  · exact pot_some (b.pot a (C1.mem.mp m))
  · cases e : H0 a with
    | none => exact absurd e h
    | some o =>
      have q := b.keep a o (by rw [mk_out m]; exact e)
      rw [(mk_some q).2]
      exact fun z => by cases z
theorem Base.free (b : Base c H0 own H) (h : H a = none) : a ∉ c.W ∧ a ∉ own ∧ H0 a = none := by
  have h0 : H0 a = none := by
    cases e : H0 a with
    | none => rfl
    | some o => exact absurd h (b.some_ (by rw [e]; exact fun z => by cases z))
  exact ⟨fun z => b.wf a z h0, fun z => b.here a z h, h0⟩
theorem Base.apart (b : Base c H0 own H) (h : a ∈ own) : a ∉ c.W := fun z => b.wf a z (b.fresh a h)
theorem Base.stay (b : Base c H0 own H) (s : Stay c H H') : Base c H0 own H' where
  pot := fun a e => s.pot a e (b.pot a e)
  pw := b.pw
  wf := b.wf
  keep := b.keep.trans s.keep
  fresh := b.fresh
  here := fun a h z => by
    have n : a ∉ c.P := fun y => b.apart h (b.pw a y)
    cases e : H a with
    | none => exact b.here a h e
    | some o =>
      have q := s.keep a o (by rw [mk_out n]; exact e)
      rw [(mk_some q).2] at z
      cases z
theorem Base.at_ (b : Base c H0 own H) (s : Stay c H H') (h : a ∈ own) {o : HO} (e : H a = some o) : H' a = some o :=
  (mk_some (s.keep a o (by rw [mk_out fun y => b.apart h (b.pw a y)]; exact e))).2
theorem Stay.ms (s : Stay c H H') (pw : ∀ a ∈ c.P, a ∈ c.W) (U : List Addr) : Same (msk (c.W ++ U) H) (msk (c.W ++ U) H') :=
  mk_same s.keep fun a h => List.mem_append_left _ (pw a h)
/-- a new object is made -/
theorem Base.made (b : Base c H0 own H) {o : HO} (h : H a = none) : Stay c H (upd H a o) := Stay.of (same_new h)
/-- a new object is held -/
theorem Base.hold (b : Base c H0 own H) {o : HO} (h : H a = none) : Base c H0 (a :: own) (upd H a o) where
  pot := fun p e => (b.stay (b.made h)).pot p e
  pw := b.pw
  wf := b.wf
  keep := (b.stay (b.made (o := o) h)).keep
  fresh := fun x hx => by
    rcases List.mem_cons.mp hx with rfl | hx
    · exact (b.free h).2.2
    · exact b.fresh x hx
  here := fun x hx => by
    rcases List.mem_cons.mp hx with rfl | hx
    · rw [upd_same]
      exact fun z => by cases z
    · exact (b.stay (b.made (o := o) h)).here x hx
/-- what is held is written -/
theorem Base.write (b : Base c H0 own H) {o : HO} (h : a ∈ own) : Base c H0 own (upd H a o) where
  pot := fun p e => by
    have n : p ≠ a := fun z => b.apart h (z ▸ b.pw p (C1.mem.mpr e))
    obtain ⟨x, y, q, r⟩ := b.pot p e
    exact ⟨x, y, (upd_ne n).trans q, r⟩
  pw := b.pw
  wf := b.wf
  keep := fun x u e => by
    obtain ⟨n, e1⟩ := mk_some (b.keep x u e)
    have ne : x ≠ a := fun z => by
      rw [z, mk_out (z ▸ n), b.fresh a h] at e
      cases e
    rw [mk_out n, upd_ne ne]
    exact e1
  fresh := b.fresh
  here := fun x hx => by
    by_cases e : x = a
    · rw [e, upd_same]
      exact fun z => by cases z
    · rw [upd_ne e]
      exact b.here x hx
theorem Base.wsame (h : a ∈ own) {o : HO} : Same (msk (c.W ++ own) H) (msk (c.W ++ own) (upd H a o)) := fun x u e => by
  obtain ⟨n, e⟩ := mk_some e
  have ne : x ≠ a := fun z => n (by rw [z]; exact List.mem_append_right _ h)
  rw [mk_out n, upd_ne ne]
  exact e
/-- less is held -/
theorem Base.less (b : Base c H0 own H) {own' : List Addr} (h : ∀ x ∈ own', x ∈ own) : Base c H0 own' H := ⟨b.pot, b.pw, b.wf, b.keep, fun x hx => b.fresh x (h x hx), fun x hx => b.here x (h x hx)⟩
/-- a new start of the count -/
theorem Base.anew (b : Base c H0 own H) : Base c (msk own H) own H where
  pot := b.pot
  pw := b.pw
  wf := fun x hx => by
    rw [mk_out fun z => b.apart z hx]
    exact b.some_ (b.wf x hx)
  keep := mk_mono mk_all
  fresh := fun x hx => mk_in hx
  here := b.here
theorem Base.back {own' : List Addr} (b : Base c H0 own H) (b' : Base c (msk own H) own' H') : Base c H0 own' H' where
  pot := b'.pot
  pw := b.pw
  wf := b.wf
  keep := fun x o e => by
    obtain ⟨n, e0⟩ := mk_some e
    refine b'.keep x o ?_
    have no : x ∉ own := fun z => by
      rw [b.fresh x z] at e0
      cases e0
    rw [mk_out n, mk_out no]
    exact (mk_some (b.keep x o e)).2
  fresh := fun x hx => by
    have q := b'.fresh x hx
    cases e : H0 x with
    | none => rfl
    | some o =>
      have nP : x ∉ c.P := fun z => b'.apart hx (b.pw x z)
      have no : x ∉ own := fun z => by
        rw [b.fresh x z] at e
        cases e
      rw [mk_out no, (mk_some (b.keep x o (by rw [mk_out nP]; exact e))).2] at q
      cases q
  here := b'.here
end

/-- what a slot holds -/
inductive Sl where
  | un | val (d : D) | own (l : List D) | ownK (ks : List L2.Key) (l : List D) | ownT (ks : List (List L2.Key)) (l : List D) | pot
def Sl.isOwn : Sl → Bool
  | .own _ => true
  | .ownK _ _ => true
  | .ownT _ _ => true
  | _ => false
def SlR (c : C1) (own : List Addr) (H : Hp) (o : Option V) : Sl → Prop
  | .un => True
  | .val d => ∃ v, o = some v ∧ DR c.K (msk (c.W ++ own) H) v d
  | .own l => ∃ a xs, o = some (.ref a) ∧ a ∈ own ∧ H a = some (.lst xs) ∧ DRs c.K (msk (c.W ++ own) H) xs l
  | .ownK ks l => ∃ a kvs, o = some (.ref a) ∧ a ∈ own ∧ H a = some (.dK kvs) ∧ kvs.map Prod.fst = ks ∧ DRs c.K (msk (c.W ++ own) H) (kvs.map Prod.snd) l
  | .ownT ks l => ∃ a kvs, o = some (.ref a) ∧ a ∈ own ∧ H a = some (.dT kvs) ∧ kvs.map Prod.fst = ks ∧ DRs c.K (msk (c.W ++ own) H) (kvs.map Prod.snd) l
  | .pot => ∃ a, c.p = some a ∧ o = some (.ref a)
theorem SlR.mv {c : C1} {own own' : List Addr} {H H' : Hp} {o : Option V} {s : Sl} (h : SlR c own H o s) (sm : Same (msk (c.W ++ own) H) (msk (c.W ++ own') H'))
    (at_ : ∀ a, s.isOwn = true → o = some (.ref a) → a ∈ own → a ∈ own' ∧ ∀ u, H a = some u → H' a = some u) : SlR c own' H' o s := by
  cases s with
  | un => trivial
  | val d =>
    obtain ⟨v, e, r⟩ := h
    exact ⟨v, e, r.mono sm⟩
  | own l =>
    obtain ⟨a, xs, e, ha, hx, r⟩ := h
    obtain ⟨h1, h2⟩ := at_ a rfl e ha
    exact ⟨a, xs, e, h1, h2 _ hx, r.mono sm⟩
  | ownK ks l =>
    obtain ⟨a, xs, e, ha, hx, hk, r⟩ := h
    obtain ⟨h1, h2⟩ := at_ a rfl e ha
    exact ⟨a, xs, e, h1, h2 _ hx, hk, r.mono sm⟩
  | ownT ks l =>
    obtain ⟨a, xs, e, ha, hx, hk, r⟩ := h
    obtain ⟨h1, h2⟩ := at_ a rfl e ha
    exact ⟨a, xs, e, h1, h2 _ hx, hk, r.mono sm⟩
  | pot => exact h
structure EnvR (c : C1) (H0 : Hp) (own : List Addr) (H : Hp) (σ : L2.St) (Γ : List Sl) : Prop where
  b : Base c H0 own H
  len : σ.length = Γ.length
  sl : ∀ (i : Nat) (s : Sl) (o : Option V), Γ[i]? = some s → σ[i]? = some o → SlR c own H o s
  inj : ∀ (i j : Nat) (s t : Sl) (a : Addr), Γ[i]? = some s → Γ[j]? = some t → s.isOwn = true → t.isOwn = true → σ[i]? = some (some (.ref a)) → σ[j]? = some (some (.ref a)) → i = j
section
variable {c : C1} {H0 H H' : Hp} {own : List Addr} {σ : L2.St} {Γ : List Sl} {i : Nat} {s : Sl}
theorem EnvR.at_ (E : EnvR c H0 own H σ Γ) (h : Γ[i]? = some s) : ∃ o, σ[i]? = some o ∧ SlR c own H o s := by
  have hl : i < σ.length := by
    rw [E.len]
    exact (List.getElem?_eq_some_iff.mp h).1
  exact ⟨σ[i], List.getElem?_eq_getElem hl, E.sl i s _ h (List.getElem?_eq_getElem hl)⟩
theorem EnvR.stay (E : EnvR c H0 own H σ Γ) (st : Stay c H H') : EnvR c H0 own H' σ Γ :=
  ⟨E.b.stay st, E.len, fun i s o h1 h2 => (E.sl i s o h1 h2).mv (st.ms E.b.pw own) fun a _ _ ha => ⟨ha, fun u e => E.b.at_ st ha e⟩, E.inj⟩
/-- a slot gets a value -/
theorem EnvR.put (E : EnvR c H0 own H σ Γ) {v : V} {d : D} (r : DR c.K (msk (c.W ++ own) H) v d) (i : Nat) : EnvR c H0 own H (σ.set i (some v)) (Γ.set i (.val d)) where
  b := E.b
  len := by rw [List.length_set, List.length_set, E.len]
  sl := fun j s o h1 h2 => by
    by_cases e : i = j
    · subst e
      have l1 : i < Γ.length := by
        have q := (List.getElem?_eq_some_iff.mp h1).1
        rwa [List.length_set] at q
      rw [List.getElem?_set_self l1] at h1
      rw [List.getElem?_set_self (by rw [E.len]; exact l1)] at h2
      cases h1
      cases h2
      exact ⟨v, rfl, r⟩
    · rw [List.getElem?_set_ne e] at h1 h2
      exact E.sl j s o h1 h2
  inj := fun j k s t a h1 h2 s1 s2 h3 h4 => by
    have ne : ∀ {j : Nat} {s : Sl}, (Γ.set i (.val d))[j]? = some s → s.isOwn = true → i ≠ j := fun {j s} h q e => by
      subst e
      have l1 : i < Γ.length := by
        have q := (List.getElem?_eq_some_iff.mp h).1
        rwa [List.length_set] at q
      rw [List.getElem?_set_self l1] at h
      cases h
      cases q
    have n1 := ne h1 s1
    have n2 := ne h2 s2
    rw [List.getElem?_set_ne n1] at h1 h3
    rw [List.getElem?_set_ne n2] at h2 h4
    exact E.inj j k s t a h1 h2 s1 s2 h3 h4
/-- a slot is forgotten -/
theorem EnvR.drop (E : EnvR c H0 own H σ Γ) (i : Nat) (o : Option V) : EnvR c H0 own H (σ.set i o) (Γ.set i .un) where
  b := E.b
  len := by rw [List.length_set, List.length_set, E.len]
  sl := fun j s o h1 h2 => by
    by_cases e : i = j
    · subst e
      have l1 : i < Γ.length := by
        have q := (List.getElem?_eq_some_iff.mp h1).1
        rwa [List.length_set] at q
      rw [List.getElem?_set_self l1] at h1
      cases h1
      trivial
    · rw [List.getElem?_set_ne e] at h1 h2
      exact E.sl j s o h1 h2
  inj := fun j k s t a h1 h2 s1 s2 h3 h4 => by
    have ne : ∀ {j : Nat} {s : Sl}, (Γ.set i .un)[j]? = some s → s.isOwn = true → i ≠ j := fun {j s} h q e => by
      subst e
      have l1 : i < Γ.length := by
        have q := (List.getElem?_eq_some_iff.mp h).1
        rwa [List.length_set] at q
      rw [List.getElem?_set_self l1] at h
      cases h
      cases q
    have n1 := ne h1 s1
    have n2 := ne h2 s2
    rw [List.getElem?_set_ne n1] at h1 h3
    rw [List.getElem?_set_ne n2] at h2 h4
    exact E.inj j k s t a h1 h2 s1 s2 h3 h4
/-- more is held -/
theorem EnvR.hold (E : EnvR c H0 own H σ Γ) {a : Addr} {o : HO} (h : H a = none) : EnvR c H0 (a :: own) (upd H a o) σ Γ where
  b := E.b.hold h
  len := E.len
  sl := fun i s ov h1 h2 => (E.sl i s ov h1 h2).mv (fun x u e => by
    obtain ⟨n, e⟩ := mk_some e
    have ne := ne_of_none e h
    rw [mk_out fun z => ?_, upd_ne ne]
    · exact e
    · rcases List.mem_append.mp z with z | z
      · exact n (List.mem_append_left _ z)
      · rcases List.mem_cons.mp z with z | z
        · exact ne z
        · exact n (List.mem_append_right _ z)) fun x _ _ hx => ⟨List.mem_cons_of_mem _ hx, fun u e => by rw [upd_ne (ne_of_none e h)]; exact e⟩
  inj := E.inj
/-- a slot gets a new list of its own -/
theorem EnvR.putO (E : EnvR c H0 own H σ Γ) {a : Addr} {xs : List V} {l : List D} (h : a ∉ own) (ha : H a = some (.lst xs)) (b : Base c H0 (a :: own) H) (r : DRs c.K (msk (c.W ++ a :: own) H) xs l) (i : Nat)
    (sm : Same (msk (c.W ++ own) H) (msk (c.W ++ own) H)) (nr : ∀ (j : Nat) (s : Sl) (o : Option V), Γ[j]? = some s → σ[j]? = some o → SlR c (a :: own) H o s) : EnvR c H0 (a :: own) H (σ.set i (some (.ref a))) (Γ.set i (.own l)) where
  b := b
  len := by rw [List.length_set, List.length_set, E.len]
  sl := fun j s o h1 h2 => by
    by_cases e : i = j
    · subst e
      have l1 : i < Γ.length := by
        have q := (List.getElem?_eq_some_iff.mp h1).1
        rwa [List.length_set] at q
      rw [List.getElem?_set_self l1] at h1
      rw [List.getElem?_set_self (by rw [E.len]; exact l1)] at h2
      cases h1
      cases h2
      exact ⟨a, xs, rfl, List.mem_cons_self .., ha, r⟩
    · rw [List.getElem?_set_ne e] at h1 h2
      exact nr j s o h1 h2
  inj := fun j k s t x h1 h2 s1 s2 h3 h4 => by
    -- the slot i alone holds a
    have old : ∀ {j : Nat} {s : Sl} {x : Addr}, i ≠ j → (Γ.set i (.own l))[j]? = some s → s.isOwn = true → (σ.set i (some (.ref a)))[j]? = some (some (V.ref x)) → x ≠ a := fun {j s x} n g1 g2 g3 z => by
      rw [List.getElem?_set_ne n] at g1 g3
      have q := E.sl j s _ g1 g3
      cases s with
      | own l =>
        obtain ⟨y, _, e, hy, _⟩ := q
        cases e
        exact h (z ▸ hy)
      | ownK ks l =>
        obtain ⟨y, _, e, hy, _⟩ := q
        cases e
        exact h (z ▸ hy)
      | ownT ks l =>
        obtain ⟨y, _, e, hy, _⟩ := q
        cases e
        exact h (z ▸ hy)
      | _ => cases g2
    by_cases n1 : i = j
    · by_cases n2 : i = k
      · exact n1.symm.trans n2
      · subst n1
        have l1 : i < σ.length := by
          have q := (List.getElem?_eq_some_iff.mp h3).1
          rwa [List.length_set] at q
        have h3' := h3
        rw [List.getElem?_set_self l1] at h3'
        cases h3'
        exact absurd rfl (old n2 h2 s2 h4)
    · by_cases n2 : i = k
      · subst n2
        have l1 : i < σ.length := by
          have q := (List.getElem?_eq_some_iff.mp h4).1
          rwa [List.length_set] at q
        have h4' := h4
        rw [List.getElem?_set_self l1] at h4'
        cases h4'
        exact absurd rfl (old n1 h1 s1 h3)
      · rw [List.getElem?_set_ne n1] at h1 h3
        rw [List.getElem?_set_ne n2] at h2 h4
        exact E.inj j k s t x h1 h2 s1 s2 h3 h4
theorem EnvR.anew (E : EnvR c H0 own H σ Γ) : EnvR c (msk own H) own H σ Γ := ⟨E.b.anew, E.len, E.sl, E.inj⟩
theorem EnvR.back {own' : List Addr} {σ' : L2.St} {Γ' : List Sl} (b : Base c H0 own H) (E : EnvR c (msk own H) own' H' σ' Γ') : EnvR c H0 own' H' σ' Γ' := ⟨b.back E.b, E.len, E.sl, E.inj⟩
end
end Tl
/-! ## T1 -/
set_option Elab.async false
set_option linter.all false
set_option maxRecDepth 100000
set_option maxHeartbeats 4000000
namespace Tl
open PySem PySem.Spec PyProof.Rows L2 He Vx

/-! ### what readings give -/
/-- an expression gives a d of which k holds -/
def Ex (c : C1) (Γ : List Sl) (t : TE) (k : D → Prop) : Prop := ∀ H0 own σ H (Q : VK), EnvR c H0 own H σ Γ → (∀ d v H', k d → Stay c H H' → DR c.K (msk (c.W ++ own) H') v d → Q v H') → t σ H Q
/-- an expression gives a list that nobody else has -/
def ExL (c : C1) (Γ : List Sl) (t : TE) (k : List D → Prop) : Prop := ∀ H0 own σ H (Q : VK), EnvR c H0 own H σ Γ →
  (∀ l a xs H', k l → Stay c H H' → H a = none → H' a = some (.lst xs) → DRs c.K (msk (c.W ++ a :: own) H') xs l → Q (.ref a) H') → t σ H Q
def ExT (c : C1) (Γ : List Sl) (t : TT) (k : Bool → Prop) : Prop := ∀ H0 own σ H (Q : Bool → Hp → Prop), EnvR c H0 own H σ Γ → (∀ b H', k b → Stay c H H' → Q b H') → t σ H Q
def ExA (c : C1) (Γ : List Sl) (t : TA) (k : List D → Prop) : Prop := ∀ H0 own σ H (Q : List V → Hp → Prop), EnvR c H0 own H σ Γ → (∀ ds vs H', k ds → Stay c H H' → DRs c.K (msk (c.W ++ own) H') vs ds → Q vs H') → t σ H Q
def ExO (c : C1) (Γ : List Sl) (t : TO) (k : Option Int → Prop) : Prop := ∀ H0 own σ H (Q : Option Int → Hp → Prop), EnvR c H0 own H σ Γ → (∀ o H', k o → Stay c H H' → Q o H') → t σ H Q
/-- an operator gives .. -/
def OpD (c : C1) (r : R2) (x y : D) (k : D → Prop) : Prop := ∀ H0 own H v w (Q : VK), Base c H0 own H → DR c.K (msk (c.W ++ own) H) v x → DR c.K (msk (c.W ++ own) H) w y →
  (∀ d u H', k d → Stay c H H' → DR c.K (msk (c.W ++ own) H') u d → Q u H') → r v w H Q
def OpL (c : C1) (r : R2) (x y : D) (k : List D → Prop) : Prop := ∀ H0 own H v w (Q : VK), Base c H0 own H → DR c.K (msk (c.W ++ own) H) v x → DR c.K (msk (c.W ++ own) H) w y →
  (∀ l a xs H', k l → Stay c H H' → H a = none → H' a = some (.lst xs) → DRs c.K (msk (c.W ++ a :: own) H') xs l → Q (.ref a) H') → r v w H Q
def UnD (c : C1) (r : V → Hp → VK → Prop) (x : D) (k : D → Prop) : Prop := ∀ H0 own H v (Q : VK), Base c H0 own H → DR c.K (msk (c.W ++ own) H) v x → (∀ d u H', k d → Stay c H H' → DR c.K (msk (c.W ++ own) H') u d → Q u H') → r v H Q
def SlD (c : C1) (r : V → Option Int → Option Int → Hp → VK → Prop) (x : D) (lo hi : Option Int) (k : D → Prop) : Prop := ∀ H0 own H v (Q : VK), Base c H0 own H → DR c.K (msk (c.W ++ own) H) v x → (∀ d u H', k d → Stay c H H' → DR c.K (msk (c.W ++ own) H') u d → Q u H') → r v lo hi H Q
def SlL (c : C1) (r : V → Option Int → Option Int → Hp → VK → Prop) (x : D) (lo hi : Option Int) (k : List D → Prop) : Prop := ∀ H0 own H v (Q : VK), Base c H0 own H → DR c.K (msk (c.W ++ own) H) v x →
  (∀ l a xs H', k l → Stay c H H' → H a = none → H' a = some (.lst xs) → DRs c.K (msk (c.W ++ a :: own) H') xs l → Q (.ref a) H') → r v lo hi H Q
def CallD (c : C1) (r : List V → Hp → VK → Prop) (ds : List D) (k : D → Prop) : Prop := ∀ H0 own H vs (Q : VK), Base c H0 own H → DRs c.K (msk (c.W ++ own) H) vs ds → (∀ d u H', k d → Stay c H H' → DR c.K (msk (c.W ++ own) H') u d → Q u H') → r vs H Q
def CallL (c : C1) (r : List V → Hp → VK → Prop) (ds : List D) (k : List D → Prop) : Prop := ∀ H0 own H vs (Q : VK), Base c H0 own H → DRs c.K (msk (c.W ++ own) H) vs ds →
  (∀ l a xs H', k l → Stay c H H' → H a = none → H' a = some (.lst xs) → DRs c.K (msk (c.W ++ a :: own) H') xs l → Q (.ref a) H') → r vs H Q

section
variable {c : C1} {Γ : List Sl} {t u : TE} {k : D → Prop}
theorem Ex.imp {k' : D → Prop} (h : Ex c Γ t k) (i : ∀ d, k d → k' d) : Ex c Γ t k' := fun H0 own σ H Q E q => h H0 own σ H Q E fun d v H' z => q d v H' (i d z)
theorem ex_L {kl : D → Prop} (h : ExL c Γ t fun l => kl (.lst l)) : Ex c Γ t kl := fun H0 own σ H Q E q => h H0 own σ H Q E fun l a xs H' z st n e r => by
  obtain ⟨nw, no, _⟩ := E.b.free n
  have na : a ∉ c.W ++ own := fun z => (List.mem_append.mp z).elim nw no
  refine q _ _ H' z st (.lst ((mk_out na).trans e) (r.mono (mk_sub fun x hx => ?_)))
  rcases List.mem_append.mp hx with hx | hx
  · exact List.mem_append_left _ hx
  · exact List.mem_append_right _ (List.mem_cons_of_mem _ hx)
theorem ex_var {i : Nat} {d : D} (h : Γ[i]? = some (.val d)) (hk : k d) : Ex c Γ (tVar i) k := fun H0 own σ H Q E q => by
  obtain ⟨o, e, v, rfl, r⟩ := E.at_ h
  exact ⟨v, e, q d v H hk Stay.refl r⟩
theorem ex_int {i : Int} (hk : k (.int i)) : Ex c Γ (tC (.int i)) k := fun H0 own σ H Q E q => q _ _ H hk Stay.refl (.int i)
theorem ex_str {i : Str} (hk : k (.str i)) : Ex c Γ (tC (.str i)) k := fun H0 own σ H Q E q => q _ _ H hk Stay.refl (.str i)
theorem ex_bl {i : Bool} (hk : k (.bl i)) : Ex c Γ (tC (.bl i)) k := fun H0 own σ H Q E q => q _ _ H hk Stay.refl (.bl i)
theorem ex_non (hk : k .non) : Ex c Γ (tC .non) k := fun H0 own σ H Q E q => q _ _ H hk Stay.refl .non
theorem ex_op {r : R2} (h : Ex c Γ t fun x => Ex c Γ u fun y => OpD c r x y k) : Ex c Γ (tOp r t u) k := fun H0 own σ H Q E q =>
  h H0 own σ H _ E fun x v H1 h1 s1 r1 => h1 H0 own σ H1 _ (E.stay s1) fun y w H2 h2 s2 r2 => h2 H0 own H2 v w Q ((E.b.stay s1).stay s2) (r1.mono (s2.ms E.b.pw own)) r2 fun d x H3 z s3 r3 => q d x H3 z ((s1.trans s2).trans s3) r3
theorem exl_op {r : R2} {k : List D → Prop} (h : Ex c Γ t fun x => Ex c Γ u fun y => OpL c r x y k) : ExL c Γ (tOp r t u) k := fun H0 own σ H Q E q =>
  h H0 own σ H _ E fun x v H1 h1 s1 r1 => h1 H0 own σ H1 _ (E.stay s1) fun y w H2 h2 s2 r2 => h2 H0 own H2 v w Q ((E.b.stay s1).stay s2) (r1.mono (s2.ms E.b.pw own)) r2 fun l a xs H3 z s3 n e r3 => q l a xs H3 z ((s1.trans s2).trans s3) (by
    cases e0 : H a with
    | none => rfl
    | some o =>
      have nP : a ∉ c.P := fun m => pot_some ((E.b.stay (s1.trans s2)).pot a (C1.mem.mp m)) n
      have q := (s1.trans s2).keep a o (by rw [mk_out nP]; exact e0)
      rw [(mk_some q).2] at n
      cases n) e r3
theorem ex_un {r : V → Hp → VK → Prop} (h : Ex c Γ t fun x => UnD c r x k) : Ex c Γ (tUn r t) k := fun H0 own σ H Q E q =>
  h H0 own σ H _ E fun x v H1 h1 s1 r1 => h1 H0 own H1 v Q (E.b.stay s1) r1 fun d y H2 z s2 r2 => q d y H2 z (s1.trans s2) r2
/-- what is new later was new before -/
theorem Stay.new {c : C1} {H0 H H' : Hp} {own : List Addr} {a : Addr} (s : Stay c H H') (b : Base c H0 own H') (n : H' a = none) : H a = none := by
  cases e0 : H a with
  | none => rfl
  | some o =>
    have nP : a ∉ c.P := fun m => pot_some (b.pot a (C1.mem.mp m)) n
    have q := s.keep a o (by rw [mk_out nP]; exact e0)
    rw [(mk_some q).2] at n
    cases n
/-! arguments -/
theorem exa_nil {k : List D → Prop} (h : k []) : ExA c Γ tNil k := fun H0 own σ H Q E q => q _ _ H h Stay.refl .nil
theorem exa_cons {ta : TA} {k : List D → Prop} (h : Ex c Γ t fun x => ExA c Γ ta fun xs => k (x :: xs)) : ExA c Γ (tCons t ta) k := fun H0 own σ H Q E q =>
  h H0 own σ H _ E fun x v H1 h1 s1 r1 => h1 H0 own σ H1 _ (E.stay s1) fun ds vs H2 h2 s2 r2 => q _ _ H2 h2 (s1.trans s2) (.cons (r1.mono (s2.ms E.b.pw own)) r2)
/-- a list that is new, as it is laid -/
theorem laid {H0 H : Hp} {own : List Addr} {a : Addr} {xs : List V} {l : List D} {Q : VK} {k : List D → Prop} (b : Base c H0 own H) (n : H a = none) (hk : k l) (r : DRs c.K (msk (c.W ++ own) H) xs l)
    (q : ∀ l a xs H', k l → Stay c H H' → H a = none → H' a = some (.lst xs) → DRs c.K (msk (c.W ++ a :: own) H') xs l → Q (.ref a) H') : Q (.ref a) (upd H a (.lst xs)) := by
  refine q l a xs _ hk (b.made n) n upd_same (r.mono fun x u e => ?_)
  obtain ⟨nx, e⟩ := mk_some e
  have ne := ne_of_none e n
  rw [mk_out fun z => ?_, upd_ne ne]
  · exact e
  · rcases List.mem_append.mp z with z | z
    · exact nx (List.mem_append_left _ z)
    · rcases List.mem_cons.mp z with z | z
      · exact ne z
      · exact nx (List.mem_append_right _ z)
theorem exl_lst {ta : TA} {k : List D → Prop} (h : ExA c Γ ta fun ds => ds.length ≤ sizeLine ∧ k ds) : ExL c Γ (tLst ta) k := fun H0 own σ H Q E q =>
  h H0 own σ H _ E fun ds vs H1 ⟨h1, h2⟩ s1 r1 => ⟨by rw [r1.len]; exact h1, fun a n => laid (E.b.stay s1) n h2 r1 fun l a xs H' z s2 n' e r => q l a xs H' z (s1.trans s2) (s1.new (E.b.stay s1) n') e r⟩
theorem ex_tup {ta : TA} (h : ExA c Γ ta fun ds => ds.length ≤ sizeLine ∧ k (.tup ds)) : Ex c Γ (tTup ta) k := fun H0 own σ H Q E q =>
  h H0 own σ H _ E fun ds vs H1 ⟨h1, h2⟩ s1 r1 => ⟨by rw [r1.len]; exact h1, fun a n => by
    have b := E.b.stay s1
    obtain ⟨nw, no, _⟩ := b.free n
    have na : a ∉ c.W ++ own := fun z => (List.mem_append.mp z).elim nw no
    exact q _ _ _ h2 (s1.trans (b.made n)) (.tup ((mk_out na).trans upd_same) (r1.mono (mk_mono (same_new n))))⟩
theorem ex_cb {r : List V → Hp → VK → Prop} {ta : TA} (h : ExA c Γ ta fun ds => CallD c r ds k) : Ex c Γ (tCB r ta) k := fun H0 own σ H Q E q =>
  h H0 own σ H _ E fun ds vs H1 h1 s1 r1 => h1 H0 own H1 vs Q (E.b.stay s1) r1 fun d y H2 z s2 r2 => q d y H2 z (s1.trans s2) r2
theorem exl_cb {r : List V → Hp → VK → Prop} {ta : TA} {k : List D → Prop} (h : ExA c Γ ta fun ds => CallL c r ds k) : ExL c Γ (tCB r ta) k := fun H0 own σ H Q E q =>
  h H0 own σ H _ E fun ds vs H1 h1 s1 r1 => h1 H0 own H1 vs Q (E.b.stay s1) r1 fun l a xs H2 z s2 n e r2 => q l a xs H2 z (s1.trans s2) (s1.new (E.b.stay s1) n) e r2
/-! slices -/
theorem exo_none {k : Option Int → Prop} (h : k none) : ExO c Γ tNoPart k := fun H0 own σ H Q E q => q _ H h Stay.refl
theorem exo_some {k : Option Int → Prop} (h : Ex c Γ t fun x => ∃ i, x = .int i ∧ k (some i)) : ExO c Γ (tPart t) k := fun H0 own σ H Q E q =>
  h H0 own σ H _ E fun x v H1 ⟨i, e, z⟩ s1 r1 => by
    subst e
    cases r1
    exact ⟨i, rfl, q _ H1 z s1⟩
theorem ex_sl {r : V → Option Int → Option Int → Hp → VK → Prop} {tl th : TO} (h : Ex c Γ t fun x => ExO c Γ tl fun lo => ExO c Γ th fun hi => SlD c r x lo hi k) : Ex c Γ (tSl r t tl th) k := fun H0 own σ H Q E q =>
  h H0 own σ H _ E fun x v H1 h1 s1 r1 => h1 H0 own σ H1 _ (E.stay s1) fun lo H2 h2 s2 => h2 H0 own σ H2 _ ((E.stay s1).stay s2) fun hi H3 h3 s3 =>
    h3 H0 own H3 v Q (((E.b.stay s1).stay s2).stay s3) (r1.mono ((s2.trans s3).ms E.b.pw own)) fun d y H4 z s4 r4 => q d y H4 z (((s1.trans s2).trans s3).trans s4) r4
theorem exl_sl {r : V → Option Int → Option Int → Hp → VK → Prop} {tl th : TO} {k : List D → Prop} (h : Ex c Γ t fun x => ExO c Γ tl fun lo => ExO c Γ th fun hi => SlL c r x lo hi k) : ExL c Γ (tSl r t tl th) k := fun H0 own σ H Q E q =>
  h H0 own σ H _ E fun x v H1 h1 s1 r1 => h1 H0 own σ H1 _ (E.stay s1) fun lo H2 h2 s2 => h2 H0 own σ H2 _ ((E.stay s1).stay s2) fun hi H3 h3 s3 =>
    h3 H0 own H3 v Q (((E.b.stay s1).stay s2).stay s3) (r1.mono ((s2.trans s3).ms E.b.pw own)) fun l a xs H4 z s4 n e r4 => q l a xs H4 z (((s1.trans s2).trans s3).trans s4) (((s1.trans s2).trans s3).new (((E.b.stay s1).stay s2).stay s3) n) e r4
/-! truths and ways -/
theorem ex_if {tt : TT} (h : ExT c Γ tt fun b => if b = true then Ex c Γ t k else Ex c Γ u k) : Ex c Γ (tIf tt t u) k := fun H0 own σ H Q E q =>
  h H0 own σ H _ E fun b H1 h1 s1 => by
    cases b with
    | true => exact h1 H0 own σ H1 Q (E.stay s1) fun d v H2 z s2 r2 => q d v H2 z (s1.trans s2) r2
    | false => exact h1 H0 own σ H1 Q (E.stay s1) fun d v H2 z s2 r2 => q d v H2 z (s1.trans s2) r2
theorem ex_and (h : Ex c Γ t fun x => ∃ b, x = .bl b ∧ if b = true then Ex c Γ u k else k (.bl false)) : Ex c Γ (tAndV t u) k := fun H0 own σ H Q E q =>
  h H0 own σ H _ E fun x v H1 ⟨b, e, h1⟩ s1 r1 => by
    subst e
    cases r1
    refine ⟨b, rfl, ?_⟩
    cases b with
    | true => exact h1 H0 own σ H1 Q (E.stay s1) fun d v H2 z s2 r2 => q d v H2 z (s1.trans s2) r2
    | false => exact q _ _ H1 h1 s1 (.bl false)
theorem ex_or (h : Ex c Γ t fun x => ∃ b, x = .bl b ∧ if b = true then k (.bl true) else Ex c Γ u k) : Ex c Γ (tOrV t u) k := fun H0 own σ H Q E q =>
  h H0 own σ H _ E fun x v H1 ⟨b, e, h1⟩ s1 r1 => by
    subst e
    cases r1
    refine ⟨b, rfl, ?_⟩
    cases b with
    | true => exact q _ _ H1 h1 s1 (.bl true)
    | false => exact h1 H0 own σ H1 Q (E.stay s1) fun d v H2 z s2 r2 => q d v H2 z (s1.trans s2) r2
theorem ex_not (h : Ex c Γ t fun x => ∃ b, x = .bl b ∧ k (.bl (!b))) : Ex c Γ (tNotV t) k := fun H0 own σ H Q E q =>
  h H0 own σ H _ E fun x v H1 ⟨b, e, h1⟩ s1 r1 => by
    subst e
    cases r1
    exact ⟨b, rfl, q _ _ H1 h1 s1 (.bl _)⟩
theorem ext_test {k : Bool → Prop} (h : Ex c Γ t fun x => ∃ b, x = .bl b ∧ k b) : ExT c Γ (tTest t) k := fun H0 own σ H Q E q =>
  h H0 own σ H _ E fun x v H1 ⟨b, e, h1⟩ s1 r1 => by
    subst e
    cases r1
    exact ⟨b, rfl, q _ H1 h1 s1⟩
theorem ext_b {k : Bool → Prop} (h : Ex c Γ t fun x => ∃ b, x = .bl b ∧ k b) : ExT c Γ (tB t) k := ext_test h
theorem ext_not {tt : TT} {k : Bool → Prop} (h : ExT c Γ tt fun b => k (!b)) : ExT c Γ (tNot tt) k := fun H0 own σ H Q E q => h H0 own σ H _ E fun b H1 h1 s1 => q _ H1 h1 s1
theorem ext_and {tt tu : TT} {k : Bool → Prop} (h : ExT c Γ tt fun b => if b = true then ExT c Γ tu k else k false) : ExT c Γ (tAnd tt tu) k := fun H0 own σ H Q E q =>
  h H0 own σ H _ E fun b H1 h1 s1 => by
    cases b with
    | true => exact h1 H0 own σ H1 Q (E.stay s1) fun d H2 z s2 => q d H2 z (s1.trans s2)
    | false => exact q _ H1 h1 s1
theorem ext_or {tt tu : TT} {k : Bool → Prop} (h : ExT c Γ tt fun b => if b = true then k true else ExT c Γ tu k) : ExT c Γ (tOr tt tu) k := fun H0 own σ H Q E q =>
  h H0 own σ H _ E fun b H1 h1 s1 => by
    cases b with
    | true => exact q _ H1 h1 s1
    | false => exact h1 H0 own σ H1 Q (E.stay s1) fun d H2 z s2 => q d H2 z (s1.trans s2)
theorem ext_yes {k : Bool → Prop} (h : k true) : ExT c Γ tYes k := fun H0 own σ H Q E q => q _ H h Stay.refl
end
end Tl
/-! ## T2 -/
set_option Elab.async false
set_option linter.all false
set_option maxRecDepth 100000
set_option maxHeartbeats 4000000
namespace Tl
open PySem PySem.Spec PyProof.Rows L2 He Vx

/-! ### what is walked -/
/-- J walks what reads as l; H1: the heap at the start of the walk -/
def ItD (c : C1) (own : List Addr) (H1 : Hp) (J : It) (l : List D) : Prop := ∀ (own' : List Addr) (H' : Hp), Same (msk (c.W ++ own) H1) (msk (c.W ++ own') H') → (∀ a ∈ c.W ++ own', H' a ≠ none) → ∀ i,
  (i < l.length → J.go i H') ∧ (l.length ≤ i → J.stop i H') ∧ ∀ x H'', i < l.length → J.yld i H' x H'' → ∃ d, l[i]? = some d ∧ Same H' H'' ∧ DR c.K (msk (c.W ++ own') H'') x d
def ExI (c : C1) (Γ : List Sl) (w : TI) (k : List D → Prop) : Prop := ∀ H0 own σ H (R : It → Hp → Prop), EnvR c H0 own H σ Γ → (∀ l J H', k l → Stay c H H' → ItD c own H' J l → R J H') → w σ H R
/-- a target takes a value; js: its slots -/
def GxD (c : C1) (Γ : List Sl) (g : TG) (js : List Nat) (d : D) (k : List Sl → Prop) : Prop := ∀ H0 own σ H v (R : L2.St → Hp → Prop), EnvR c H0 own H σ Γ → DR c.K (msk (c.W ++ own) H) v d →
  (∀ Γ' σ', k Γ' → EnvR c H0 own H σ' Γ' → (∀ i, i ∉ js → σ'[i]? = σ[i]?) → σ'.length = σ.length → R σ' H) → g v σ H R
section
variable {c : C1} {Γ : List Sl} {k : List D → Prop}
theorem base_all {H0 H : Hp} {own : List Addr} (b : Base c H0 own H) : ∀ a ∈ c.W ++ own, H a ≠ none := fun a h => (List.mem_append.mp h).elim (fun z => b.some_ (b.wf a z)) (b.here a)
theorem itd_list {own : List Addr} {H : Hp} {a : Addr} {xs : List V} {l : List D} (K : PySem.W.Frag) (e : msk (c.W ++ own) H a = some (.lst xs)) (r : DRs c.K (msk (c.W ++ own) H) xs l) : ItD c own H (Itl K a) l := fun own' H' s _ i => by
  have e' : H' a = some (.lst xs) := (mk_some (s _ _ e)).2
  have hl := r.len
  refine ⟨fun h => ⟨xs, xs[i]'(by omega), SqL.of e', List.getElem?_eq_getElem _⟩, fun h => ⟨xs, SqL.of e', by omega⟩, fun x H'' hi ⟨y1, y2⟩ => ?_⟩
  subst y1
  obtain ⟨v, h1, h2⟩ := r.get (i := i) (List.getElem?_eq_getElem hi)
  have q := y2 xs (SqL.of e')
  rw [h1] at q
  cases q
  exact ⟨_, List.getElem?_eq_getElem hi, Same.refl _, h2.mono s⟩
theorem itd_tup {own : List Addr} {H : Hp} {a : Addr} {xs : List V} {l : List D} (K : PySem.W.Frag) (e : msk (c.W ++ own) H a = some (.tup xs)) (r : DRs c.K (msk (c.W ++ own) H) xs l) : ItD c own H (Itt K a) l := fun own' H' s _ i => by
  have e' : H' a = some (.tup xs) := (mk_some (s _ _ e)).2
  have hl := r.len
  refine ⟨fun h => ⟨xs, xs[i]'(by omega), SqT.of e', List.getElem?_eq_getElem _⟩, fun h => ⟨xs, SqT.of e', by omega⟩, fun x H'' hi ⟨y1, y2⟩ => ?_⟩
  subst y1
  obtain ⟨v, h1, h2⟩ := r.get (i := i) (List.getElem?_eq_getElem hi)
  have q := y2 xs (SqT.of e')
  rw [h1] at q
  cases q
  exact ⟨_, List.getElem?_eq_getElem hi, Same.refl _, h2.mono s⟩
def rngD (lo : Int) (n : Nat) : List D := (List.range n).map fun i => D.int (lo + (i : Nat))
theorem itd_rng {own : List Addr} {H : Hp} (lo : Int) (n : Nat) : ItD c own H (Itr lo n) (rngD lo n) := fun own' H' s _ i => by
  have hl : (rngD lo n).length = n := by unfold rngD; rw [List.length_map, List.length_range]
  refine ⟨fun h => ?_, fun h => ?_, fun x H'' hi ⟨y1, y2⟩ => ?_⟩
  · show i < n
    omega
  · show n ≤ i
    omega
  · subst y1 y2
    refine ⟨D.int (lo + (i : Nat)), ?_, Same.refl _, .int _⟩
    unfold rngD
    rw [List.getElem?_map, List.getElem?_range (by omega)]
    rfl
theorem exi_list {K : PySem.W.Frag} {t : TE} (h : Ex c Γ t fun x => ∃ l, x = .lst l ∧ k l) : ExI c Γ (iList K t) k := fun H0 own σ H R E q =>
  h H0 own σ H _ E fun x v H1 ⟨l, e, h1⟩ s1 r1 => by
    subst e
    cases r1 with
    | lst e r => exact ⟨_, rfl, ⟨_, SqL.of (mk_some e).2⟩, q l _ H1 h1 s1 (itd_list K e r)⟩
theorem exi_tup {K : PySem.W.Frag} {t : TE} (h : Ex c Γ t fun x => ∃ l, x = .tup l ∧ l ≠ [] ∧ k l) : ExI c Γ (iTup K t) k := fun H0 own σ H R E q =>
  h H0 own σ H _ E fun x v H1 ⟨l, e, ne, h1⟩ s1 r1 => by
    subst e
    cases r1 with
    | tup e r => exact ⟨_, rfl, ⟨_, SqT.of (mk_some e).2⟩, q l _ H1 h1 s1 (itd_tup K e r)⟩
    | tup0 _ => exact absurd rfl ne
theorem exi_rng1 {ta : TA} (h : ExA c Γ ta fun ds => ∃ j : Int, ds = [.int j] ∧ -(2 ^ 62) ≤ j ∧ j < 2 ^ 62 ∧ k (rngD 0 j.toNat)) : ExI c Γ (iRng1 ta) k := fun H0 own σ H R E q =>
  h H0 own σ H _ E fun ds vs H1 ⟨j, e, j1, j2, h1⟩ s1 r1 => by
    subst e
    cases r1 with
    | cons a b =>
      cases a
      cases b
      exact ⟨j, rfl, j1, j2, q _ _ H1 h1 s1 (itd_rng 0 _)⟩
theorem exi_rng2 {ta : TA} (h : ExA c Γ ta fun ds => ∃ i j : Int, ds = [.int i, .int j] ∧ (-(2 ^ 62) ≤ i ∧ i < 2 ^ 62 ∧ -(2 ^ 62) ≤ j ∧ j < 2 ^ 62) ∧ k (rngD i (j - i).toNat)) : ExI c Γ (iRng2 ta) k := fun H0 own σ H R E q =>
  h H0 own σ H _ E fun ds vs H1 ⟨i, j, e, jj, h1⟩ s1 r1 => by
    subst e
    cases r1 with
    | cons a b =>
      cases a
      cases b with
      | cons a b =>
        cases a
        cases b
        exact ⟨i, j, rfl, jj, q _ _ H1 h1 s1 (itd_rng i _)⟩
/-! targets -/
theorem gx_name {i : Nat} {d : D} {k : List Sl → Prop} (h : k (Γ.set i (.val d))) : GxD c Γ (gName i) [i] d k := fun H0 own σ H v R E r q =>
  q _ _ h (E.put r i) (fun j hj => List.getElem?_set_ne (fun z => hj (by rw [z]; exact List.mem_singleton.mpr rfl))) List.length_set
/-- several targets take several values -/
def GsD (c : C1) (Γ : List Sl) (g : TGs) (js : List Nat) (ds : List D) (k : List Sl → Prop) : Prop := ∀ H0 own σ H vs (R : L2.St → Hp → Prop), EnvR c H0 own H σ Γ → DRs c.K (msk (c.W ++ own) H) vs ds →
  (∀ Γ' σ', k Γ' → EnvR c H0 own H σ' Γ' → (∀ i, i ∉ js → σ'[i]? = σ[i]?) → σ'.length = σ.length → R σ' H) → g vs σ H R
theorem gs_nil {k : List Sl → Prop} (h : k Γ) : GsD c Γ gNil [] [] k := fun H0 own σ H vs R E r q => by
  cases r
  exact ⟨rfl, q _ _ h E (fun _ _ => rfl) rfl⟩
theorem gs_cons {g : TG} {gs : TGs} {js ks : List Nat} {d : D} {ds : List D} {k : List Sl → Prop} (h : GxD c Γ g js d fun Γ' => GsD c Γ' gs ks ds k) : GsD c Γ (gCons g gs) (js ++ ks) (d :: ds) k := fun H0 own σ H vs R E r q => by
  cases r with
  | cons a b =>
    refine ⟨_, _, rfl, h H0 own σ H _ _ E a fun Γ1 σ1 h1 E1 f1 l1 => ?_⟩
    exact h1 H0 own σ1 H _ R E1 b fun Γ2 σ2 h2 E2 f2 l2 => q Γ2 σ2 h2 E2 (fun i hi => (f2 i fun z => hi (List.mem_append_right _ z)).trans (f1 i fun z => hi (List.mem_append_left _ z))) (l2.trans l1)
theorem gx_tup {K : PySem.W.Frag} {n : Nat} {gs : TGs} {js : List Nat} {ds : List D} {k : List Sl → Prop} (hn : ds.length = n) (ne : ds ≠ []) (h : GsD c Γ gs js ds k) : GxD c Γ (gTup K n gs) js (.tup ds) k := fun H0 own σ H v R E r q => by
  cases r with
  | tup e r => exact ⟨_, _, rfl, SqT.of (mk_some e).2, r.len.trans hn, h H0 own σ H _ R E r q⟩
  | tup0 _ => exact absurd rfl ne
end

/-! ### comprehensions -/
def wipeG (Γ : List Sl) : List Nat → List Sl
  | [] => Γ
  | v :: vs => (wipeG Γ vs).set v .un
section
variable {c : C1} {Γ : List Sl}
theorem EnvR.wipe {H0 H : Hp} {own : List Addr} {σ : L2.St} (E : EnvR c H0 own H σ Γ) : ∀ vs : List Nat, EnvR c H0 own H (L2.wipe σ vs) (wipeG Γ vs)
  | [] => E
  | v :: vs => (E.wipe vs).drop v none
theorem wipe_at {σ τ : L2.St} : ∀ (vs : List Nat) (i : Nat), σ.length = τ.length → (i ∉ vs → σ[i]? = τ[i]?) → (L2.wipe σ vs)[i]? = (L2.wipe τ vs)[i]?
  | [], i, _, h => h (List.not_mem_nil)
  | v :: vs, i, hl, h => by
    have l1 : (L2.wipe σ vs).length = (L2.wipe τ vs).length := by rw [wipe_length, wipe_length, hl]
    show ((L2.wipe σ vs).set v none)[i]? = ((L2.wipe τ vs).set v none)[i]?
    rw [List.getElem?_set, List.getElem?_set, l1]
    by_cases e : v = i
    · rw [if_pos e, if_pos e]
    · rw [if_neg e, if_neg e]
      exact wipe_at vs i hl fun z => h fun y => (List.mem_cons.mp y).elim (fun w => e w.symm) z
theorem wipe_eq {σ τ : L2.St} {vs js : List Nat} (hj : ∀ j ∈ js, j ∈ vs) (hl : σ.length = τ.length) (h : ∀ i, i ∉ js → σ[i]? = τ[i]?) : L2.wipe σ vs = L2.wipe τ vs :=
  List.ext_getElem? fun i => wipe_at vs i hl fun n => h i fun z => n (hj i z)
theorem wipe_wipe (σ : L2.St) (vs : List Nat) : L2.wipe (L2.wipe σ vs) vs = L2.wipe σ vs := by
  refine wipe_eq (js := vs) (fun _ h => h) (wipe_length σ vs) fun i hi => ?_
  induction vs with
  | nil => rfl
  | cons v vs ih =>
    show ((L2.wipe σ vs).set v none)[i]? = σ[i]?
    rw [List.getElem?_set_ne fun z => hi (by rw [z]; exact List.mem_cons_self ..)]
    exact ih fun z => hi (List.mem_cons_of_mem _ z)
/-- [e for target in it if test] -/
theorem exl_lc {wi : TI} {g : TG} {tt : TT} {te : TE} {vs js : List Nat} {k : List D → Prop} (hj : ∀ j ∈ js, j ∈ vs)
    (h : ExI c Γ wi fun l => l.length < sizeLine ∧ ∃ Pv : Nat → List D → Prop, Pv 0 [] ∧ (∀ i d acc, l[i]? = some d → Pv i acc → GxD c (wipeG Γ vs) g js d fun Γ2 => ExT c Γ2 tt fun b => if b = true then Ex c Γ2 te fun y => Pv (i + 1) (acc ++ [y]) else Pv (i + 1) acc) ∧
      ∀ acc, Pv l.length acc → k acc) : ExL c Γ (tLc wi g tt te vs) k := fun H0 own σ H Q E q =>
  h H0 own σ H _ E fun l J H1 ⟨hl, Pv, p0, step, fin⟩ s1 it Dn nD => by
    have E1 := E.stay s1
    have b1 := E1.b
    have EW : EnvR c H0 (Dn :: own) (upd H1 Dn (.lst [])) (L2.wipe σ vs) (wipeG Γ vs) := (E1.wipe vs).hold nD
    -- what was there ahead of the comprehension stays
    have old : ∀ {H' : Hp}, Stay c (upd H1 Dn (.lst [])) H' → Same (msk (c.W ++ own) H1) (msk (c.W ++ Dn :: own) H') := fun {H'} s x u e => by
      obtain ⟨n, e⟩ := mk_some e
      have ne := ne_of_none e nD
      have n2 : x ∉ c.W ++ Dn :: own := fun z => by
        rcases List.mem_append.mp z with z | z
        · exact n (List.mem_append_left _ z)
        · rcases List.mem_cons.mp z with z | z
          · exact ne z
          · exact n (List.mem_append_right _ z)
      refine s.ms EW.b.pw (Dn :: own) x u ?_
      rw [mk_out n2, upd_ne ne]
      exact e
    refine ⟨fun i m H' => m = l.length - i ∧ i ≤ l.length ∧ ∃ xs acc, H' Dn = some (.lst xs) ∧ DRs c.K (msk (c.W ++ Dn :: own) H') xs acc ∧ acc.length ≤ i ∧ Base c H0 (Dn :: own) H' ∧ EnvR c H0 (Dn :: own) H' (L2.wipe σ vs) (wipeG Γ vs) ∧ Stay c H1 H' ∧ Same (msk (c.W ++ own) H1) (msk (c.W ++ Dn :: own) H') ∧ Pv i acc, ⟨_, rfl, Nat.zero_le _, [], [], upd_same, .nil, Nat.le_refl _, EW.b, EW, b1.made nD, old Stay.refl, p0⟩, ?_⟩
    rintro i m H' ⟨rfl, hi, xs, acc, eD, rD, ha, bH, EH, sH, oH, pH⟩
    obtain ⟨i1, i2, i3⟩ := it (Dn :: own) H' oH (base_all bH) i
    by_cases lt : i < l.length
    · refine .inr ⟨i1 lt, fun H3 => ∃ xs acc, H3 Dn = some (.lst xs) ∧ DRs c.K (msk (c.W ++ Dn :: own) H3) xs acc ∧ acc.length ≤ i + 1 ∧ Base c H0 (Dn :: own) H3 ∧ EnvR c H0 (Dn :: own) H3 (L2.wipe σ vs) (wipeG Γ vs) ∧ Stay c H1 H3 ∧ Same (msk (c.W ++ own) H1) (msk (c.W ++ Dn :: own) H3) ∧ Pv (i + 1) acc,
        fun H3 z => ⟨_, by omega, rfl, lt, z⟩, fun x H2 y => ?_⟩
      obtain ⟨d, ed, s2, r2⟩ := i3 x H2 lt y
      have st2 : Stay c H' H2 := Stay.of s2
      have E2 := EH.stay st2
      refine step i d acc ed pH H0 (Dn :: own) _ H2 x _ E2 r2 fun Γ2 σ2 h2 E3 fr fl => ?_
      refine ⟨?_, h2 H0 (Dn :: own) σ2 H2 _ E3 fun b H3 h3 s3 => ?_⟩
      · rw [wipe_eq hj fl fr, wipe_wipe]
      have dn : Dn ∈ Dn :: own := List.mem_cons_self ..
      have st3 := st2.trans s3
      have eD3 := bH.at_ st3 dn eD
      have rD3 := rD.mono (st3.ms bH.pw (Dn :: own))
      have same3 : Same (msk (c.W ++ own) H1) (msk (c.W ++ Dn :: own) H3) := oH.trans (st3.ms bH.pw (Dn :: own))
      cases b with
      | false => exact ⟨xs, acc, eD3, rD3, Nat.le_succ_of_le ha, bH.stay st3, EH.stay st3, sH.trans st3, same3, h3⟩
      | true =>
        refine h3 H0 (Dn :: own) σ2 H3 _ (E3.stay s3) fun yd yv H4 h4 s4 r4 => ?_
        have st4 := st3.trans s4
        have eD4 := bH.at_ st4 dn eD
        have rD4 := rD.mono (st4.ms bH.pw (Dn :: own))
        have b4 := bH.stay st4
        have E4 := EH.stay st4
        refine ⟨xs, eD4, by rw [rD.len]; omega, xs ++ [yv], acc ++ [yd], upd_same, (rD4.app (.cons r4 .nil)).mono (Base.wsame dn), by rw [List.length_append]; exact Nat.succ_le_succ ha, b4.write dn, ?_, ?_, ?_, h4⟩
        · -- the environment does not see the list
          refine ⟨b4.write dn, E4.len, fun j s o g1 g2 => ?_, E4.inj⟩
          have q0 := (E.wipe vs).sl j s o g1 g2
          refine (E4.sl j s o g1 g2).mv (Base.wsame dn) fun a hs ho hm => ⟨hm, fun u e => ?_⟩
          have ne : a ≠ Dn := fun z => by
            have hD0 : Dn ∉ own := (b1.free nD).2.1
            cases s with
            | own l =>
              obtain ⟨y, _, e, hy, _⟩ := q0
              rw [ho] at e
              cases e
              exact hD0 (z ▸ hy)
            | ownK ks l =>
              obtain ⟨y, _, e, hy, _⟩ := q0
              rw [ho] at e
              cases e
              exact hD0 (z ▸ hy)
            | ownT ks l =>
              obtain ⟨y, _, e, hy, _⟩ := q0
              rw [ho] at e
              cases e
              exact hD0 (z ▸ hy)
            | _ => cases hs
          rw [upd_ne ne]
          exact e
        · have h1D : Dn ∉ c.P := fun z => (b1.free nD).1 (b1.pw _ z)
          refine ⟨fun a e z => (b4.write dn).pot a e, fun a u e => ?_⟩
          have q := (sH.trans st4).keep a u e
          obtain ⟨n, q⟩ := mk_some q
          have ne : a ≠ Dn := fun z => by
            obtain ⟨_, e⟩ := mk_some e
            rw [z, nD] at e
            cases e
          rw [mk_out n, upd_ne ne]
          exact q
        · exact (oH.trans (st4.ms bH.pw (Dn :: own))).trans (Base.wsame dn)
    · have e : i = l.length := by omega
      subst e
      refine .inl ⟨i2 (Nat.le_refl _), q acc Dn xs H' (fin acc pH) (s1.trans sH) (s1.new b1 nD) eD rD⟩
end
end Tl
/-! ## T3 -/
set_option Elab.async false
set_option linter.all false
set_option maxRecDepth 100000
set_option maxHeartbeats 4000000
namespace Tl
open PySem PySem.Spec PyProof.Rows L2 He Vx

/-! ### statements -/
structure Post where
  nx : List Sl → Prop
  rt : D → Prop
  bk : List Sl → Prop
  ct : List Sl → Prop
  rl : List D → Prop := fun _ => False
  rb : Int → List Int → List Mv → Prop := fun _ _ _ => False
structure EndsOk (c : C1) (H0 : Hp) (P : Post) (E : Ends) : Prop where
  nx : ∀ own σ H Γ, EnvR c H0 own H σ Γ → P.nx Γ → E.nx σ H
  rt : ∀ own H v d, Base c H0 own H → DR c.K (msk (c.W ++ own) H) v d → P.rt d → E.rt v H
  bk : ∀ own σ H Γ, EnvR c H0 own H σ Γ → P.bk Γ → E.bk σ H
  ct : ∀ own σ H Γ, EnvR c H0 own H σ Γ → P.ct Γ → E.ct σ H
  rl : ∀ own H a xs l, Base c H0 own H → H0 a = none → H a = some (.lst xs) → DRs c.K (msk (c.W ++ [a]) H) xs l → P.rl l → E.rt (.ref a) H
  rb : ∀ own H a dx p q n s m, Base c H0 own H → H0 p = none → H0 q = none → H0 a = none → H a = some (.ins (ga c.K "Box") dx (bxF n p q)) → DR c.K (msk c.W H) (.ref p) (.lst (s.map D.int)) → DR c.K (msk c.W H) (.ref q) (.lst (m.map mvD)) → P.rb n s m → E.rt (.ref a) H
def Sx (c : C1) (Γ : List Sl) (t : TS) (P : Post) : Prop := ∀ H0 own σ H (E : Ends), EnvR c H0 own H σ Γ → EndsOk c H0 P E → t E σ H
section
variable {c : C1} {Γ : List Sl} {t u : TS} {te : TE} {P : Post}
theorem Base.old0 {H0 H : Hp} {own : List Addr} (b : Base c H0 own H) {a : Addr} (n : msk own H a = none) : H0 a = none := by
  by_cases h : a ∈ own
  · exact b.fresh a h
  · rw [mk_out h] at n
    exact (b.free n).2.2
theorem EndsOk.less {H0 H : Hp} {own : List Addr} {E : Ends} (b : Base c H0 own H) (e : EndsOk c H0 P E) : EndsOk c (msk own H) P E where
  nx := fun own' σ H' Γ E' z => e.nx own' σ H' Γ (EnvR.back b E') z
  rt := fun own' H' v d b' r z => e.rt own' H' v d (b.back b') r z
  bk := fun own' σ H' Γ E' z => e.bk own' σ H' Γ (EnvR.back b E') z
  ct := fun own' σ H' Γ E' z => e.ct own' σ H' Γ (EnvR.back b E') z
  rl := fun own' H' a xs l b' n h r z => e.rl own' H' a xs l (b.back b') (b.old0 n) h r z
  rb := fun own' H' a dx p q n s m b' n1 n2 na h r1 r2 z => e.rb own' H' a dx p q n s m (b.back b') (b.old0 n1) (b.old0 n2) (b.old0 na) h r1 r2 z
theorem sx_seq (h : Sx c Γ t { P with nx := fun Γ' => Sx c Γ' u P }) : Sx c Γ (tSeq t u) P := fun H0 own σ H E R e =>
  h H0 own σ H _ R ⟨fun own' σ' H' Γ' R' z => z H0 own' σ' H' E R' e, e.rt, e.bk, e.ct, e.rl, e.rb⟩
theorem sx_next (h : P.nx Γ) : Sx c Γ tNext P := fun H0 own σ H E R e => e.nx own σ H Γ R h
theorem sx_brk (h : P.bk Γ) : Sx c Γ tBreak P := fun H0 own σ H E R e => e.bk own σ H Γ R h
theorem sx_ct (h : P.ct Γ) : Sx c Γ tCont P := fun H0 own σ H E R e => e.ct own σ H Γ R h
theorem sx_asg {g : TG} {js : List Nat} (h : Ex c Γ te fun d => GxD c Γ g js d P.nx) : Sx c Γ (tAsg te g) P := fun H0 own σ H E R e =>
  h H0 own σ H _ R fun d v H' h1 s1 r1 => h1 H0 own σ H' v _ (R.stay s1) r1 fun Γ' σ' z R' _ _ => e.nx own σ' H' Γ' R' z
theorem sx_set {i : Nat} (h : Ex c Γ te fun d => P.nx (Γ.set i (.val d))) : Sx c Γ (tAsg te (gName i)) P := sx_asg (h.imp fun _ z => gx_name z)
/-- a slot gets a list of its own -/
theorem sx_setO {i : Nat} (h : ExL c Γ te fun l => P.nx (Γ.set i (.own l))) : Sx c Γ (tAsg te (gName i)) P := fun H0 own σ H E R e =>
  h H0 own σ H _ R fun l a xs H' z st n ea r => by
    have b' := R.b.stay st
    obtain ⟨nw, no, n0⟩ := R.b.free n
    have hb : Base c H0 (a :: own) H' := ⟨b'.pot, b'.pw, b'.wf, b'.keep, fun x hx => (List.mem_cons.mp hx).elim (fun y => y ▸ n0) (b'.fresh x), fun x hx => (List.mem_cons.mp hx).elim (fun y => by rw [y, ea]; exact fun z => by cases z) (b'.here x)⟩
    have E' := R.stay st
    -- what the slots hold does not lean on the new list
    have old : ∀ (j : Nat) (s : Sl) (o : Option V), Γ[j]? = some s → σ[j]? = some o → SlR c (a :: own) H' o s := fun j s o h1 h2 => (R.sl j s o h1 h2).mv (fun x u e => by
        obtain ⟨nx, e⟩ := mk_some e
        have ne := ne_of_none e n
        have q := st.ms R.b.pw own x u (by rw [mk_out nx]; exact e)
        rw [mk_out fun z => ?_]
        · exact (mk_some q).2
        · rcases List.mem_append.mp z with z | z
          · exact nx (List.mem_append_left _ z)
          · rcases List.mem_cons.mp z with z | z
            · exact ne z
            · exact nx (List.mem_append_right _ z)) fun x _ _ hx => ⟨List.mem_cons_of_mem _ hx, fun u e => R.b.at_ st hx e⟩
    exact e.nx (a :: own) _ H' _ (E'.putO no ea hb r i (Same.refl _) old) z
theorem sx_ret (h : Ex c Γ te P.rt) : Sx c Γ (tRet te) P := fun H0 own σ H E R e => h H0 own σ H _ R fun d v H' z st r => e.rt own H' v d (R.b.stay st) r z
theorem sx_retN (h : P.rt .non) : Sx c Γ tRetN P := fun H0 own σ H E R e => e.rt own H _ .non R.b .non h
theorem sx_drop (h : Ex c Γ te fun _ => P.nx Γ) : Sx c Γ (tDrop te) P := fun H0 own σ H E R e => h H0 own σ H _ R fun d v H' z st r => e.nx own σ H' Γ (R.stay st) z
theorem sx_if {tt : TT} (h : ExT c Γ tt fun b => if b = true then Sx c Γ t P else Sx c Γ u P) : Sx c Γ (tIfS tt t u) P := fun H0 own σ H E R e =>
  h H0 own σ H _ R fun b H' z st => by
    cases b with
    | true => exact z H0 own σ H' E (R.stay st) e
    | false => exact z H0 own σ H' E (R.stay st) e
/-- what is held is held no longer -/
theorem EnvR.free {H0 H : Hp} {own : List Addr} {σ : L2.St} {i : Nat} {l : List D} (R : EnvR c H0 own H σ Γ) (h : Γ[i]? = some (.own l)) : ∃ own', EnvR c H0 own' H σ (Γ.set i (.val (.lst l))) := by
  obtain ⟨o, e, a, xs, rfl, ha, hx, r⟩ := R.at_ h
  refine ⟨own.filter fun x => decide (x ≠ a), R.b.less fun x hx => (List.mem_filter.mp hx).1, by rw [List.length_set, R.len], fun j s o h1 h2 => ?_, fun j k s t x h1 h2 s1 s2 h3 h4 => ?_⟩
  · have sub : Same (msk (c.W ++ own) H) (msk (c.W ++ own.filter fun x => decide (x ≠ a)) H) := mk_sub fun x hx => by
      rcases List.mem_append.mp hx with hx | hx
      · exact List.mem_append_left _ hx
      · exact List.mem_append_right _ (List.mem_filter.mp hx).1
    by_cases e1 : i = j
    · subst e1
      have l1 : i < Γ.length := by
        have q := (List.getElem?_eq_some_iff.mp h1).1
        rwa [List.length_set] at q
      rw [List.getElem?_set_self l1] at h1
      cases h1
      rw [e] at h2
      cases h2
      have na : a ∉ c.W ++ own.filter fun x => decide (x ≠ a) := fun z => by
        rcases List.mem_append.mp z with z | z
        · exact R.b.apart ha z
        · exact absurd rfl (of_decide_eq_true (List.mem_filter.mp z).2)
      exact ⟨_, rfl, .lst ((mk_out na).trans hx) (r.mono sub)⟩
    · rw [List.getElem?_set_ne e1] at h1
      refine (R.sl j s o h1 h2).mv sub fun y hs ho hy => ⟨List.mem_filter.mpr ⟨hy, decide_eq_true fun z => ?_⟩, fun u q => q⟩
      subst z
      rw [ho] at h2
      exact e1 (R.inj i j _ s y h h1 rfl hs e h2)
  · have ne : ∀ {j : Nat} {s : Sl}, (Γ.set i (.val (.lst l)))[j]? = some s → s.isOwn = true → i ≠ j := fun {j s} h q e => by
      subst e
      have l1 : i < Γ.length := by
        have q := (List.getElem?_eq_some_iff.mp h).1
        rwa [List.length_set] at q
      rw [List.getElem?_set_self l1] at h
      cases h
      cases q
    have n1 := ne h1 s1
    have n2 := ne h2 s2
    rw [List.getElem?_set_ne n1] at h1
    rw [List.getElem?_set_ne n2] at h2
    exact R.inj j k s t x h1 h2 s1 s2 h3 h4
theorem sx_free {i : Nat} {l : List D} (h : Γ[i]? = some (.own l)) (k : Sx c (Γ.set i (.val (.lst l))) t P) : Sx c Γ t P := fun H0 own σ H E R e => by
  obtain ⟨own', R'⟩ := R.free h
  exact k H0 own' σ H E R' e
/-- an own list is written -/
theorem EnvR.lset {H0 H : Hp} {own : List Addr} {σ : L2.St} {i : Nat} {l l' : List D} {a : Addr} {xs : List V} (R : EnvR c H0 own H σ Γ) (h : Γ[i]? = some (.own l)) (e : σ[i]? = some (some (.ref a))) (ha : a ∈ own) (r : DRs c.K (msk (c.W ++ own) H) xs l') :
    EnvR c H0 own (upd H a (.lst xs)) σ (Γ.set i (.own l')) := by
  refine ⟨R.b.write ha, by rw [List.length_set, R.len], fun j s o h1 h2 => ?_, fun j k s t x h1 h2 s1 s2 h3 h4 => ?_⟩
  · by_cases e1 : i = j
    · subst e1
      have l1 : i < Γ.length := by
        have q := (List.getElem?_eq_some_iff.mp h1).1
        rwa [List.length_set] at q
      rw [List.getElem?_set_self l1] at h1
      cases h1
      rw [e] at h2
      cases h2
      exact ⟨a, xs, rfl, ha, upd_same, r.mono (Base.wsame ha)⟩
    · rw [List.getElem?_set_ne e1] at h1
      refine (R.sl j s o h1 h2).mv (Base.wsame ha) fun y hs ho hy => ⟨hy, fun u q => ?_⟩
      have ne : y ≠ a := fun z => by
        subst z
        rw [ho] at h2
        exact e1 (R.inj i j _ s y h h1 rfl hs e h2)
      rw [upd_ne ne]
      exact q
  · have old : ∀ {j : Nat} {s : Sl}, (Γ.set i (.own l'))[j]? = some s → s.isOwn = true → ∃ s', Γ[j]? = some s' ∧ s'.isOwn = true := fun {j s} h' q => by
      by_cases e1 : i = j
      · subst e1
        exact ⟨_, h, rfl⟩
      · rw [List.getElem?_set_ne e1] at h'
        exact ⟨s, h', q⟩
    obtain ⟨s', g1, g2⟩ := old h1 s1
    obtain ⟨t', g3, g4⟩ := old h2 s2
    exact R.inj j k s' t' x g1 g3 g2 g4 h3 h4
/-- xs.append(e) -/
theorem sx_app {K : PySem.W.Frag} {i : Nat} {l : List D} (h : Γ[i]? = some (.own l)) (k : Ex c Γ te fun d => l.length < sizeLine ∧ P.nx (Γ.set i (.own (l ++ [d])))) : Sx c Γ (tDrop (tBM K "list" rAppend (tVar i) (tCons te tNil))) P := fun H0 own σ H E R e => by
  obtain ⟨o, es, a, xs, rfl, ha, hx, r⟩ := R.at_ h
  refine ⟨_, es, .inl ⟨rfl, xs, SqL.of hx⟩, k H0 own σ H _ R fun d v H' ⟨hl, z⟩ st rd => ?_⟩
  have R' := R.stay st
  have hx' := R.b.at_ st ha hx
  refine ⟨a, xs, v, rfl, rfl, hx', by rw [r.len]; exact hl, ?_⟩
  exact e.nx own σ _ _ (R'.lset h es ha ((r.mono (st.ms R.b.pw own)).app (.cons rd .nil))) z
/-- for -/
theorem sx_for {wi : TI} {g : TG} {tb : TS} {js : List Nat} (h : ExI c Γ wi fun l => ∃ Iv : Nat → List Sl → Prop, Iv 0 Γ ∧
    (∀ i d Γ', l[i]? = some d → Iv i Γ' → GxD c Γ' g js d fun Γ2 => Sx c Γ2 tb { P with nx := Iv (i + 1), ct := Iv (i + 1), bk := P.nx }) ∧ ∀ Γ', Iv l.length Γ' → P.nx Γ') : Sx c Γ (tFor wi g tb) P := fun H0 own σ H E R e =>
  h H0 own σ H _ R fun l J H1 ⟨Iv, p0, step, fin⟩ s1 it => by
    have R1 := R.stay s1
    have b1 := R1.b
    have e1 := e.less b1
    refine ⟨fun i m σ' H' => m = l.length - i ∧ i ≤ l.length ∧ ∃ own' Γ', EnvR c (msk own H1) own' H' σ' Γ' ∧ Iv i Γ', ⟨_, rfl, Nat.zero_le _, own, Γ, R1.anew, p0⟩, ?_⟩
    rintro i m σ' H' ⟨rfl, hi, own', Γ', R', pI⟩
    have sm : Same (msk (c.W ++ own) H1) (msk (c.W ++ own') H') := fun x u q => by
      obtain ⟨n, q⟩ := mk_some q
      have nW : x ∉ c.W := fun z => n (List.mem_append_left _ z)
      have no : x ∉ own := fun z => n (List.mem_append_right _ z)
      have q0 : msk own H1 x = some u := by rw [mk_out no]; exact q
      have no' : x ∉ own' := fun z => by
        rw [R'.b.fresh x z] at q0
        cases q0
      rw [mk_out fun z => (List.mem_append.mp z).elim nW no']
      exact (mk_some (R'.b.keep x u (by rw [mk_out fun z => nW (b1.pw x z)]; exact q0))).2
    obtain ⟨i1, i2, i3⟩ := it own' H' sm (base_all R'.b) i
    by_cases lt : i < l.length
    · refine .inr ⟨i1 lt, fun σ3 H3 => ∃ own' Γ', EnvR c (msk own H1) own' H3 σ3 Γ' ∧ Iv (i + 1) Γ', fun σ3 H3 z => ⟨_, by omega, rfl, lt, z⟩, fun x H2 y => ?_⟩
      obtain ⟨d, ed, s2, r2⟩ := i3 x H2 lt y
      refine step i d Γ' ed pI (msk own H1) own' σ' H2 x _ (R'.stay (Stay.of s2)) r2 fun Γ2 σ2 h2 R3 _ _ => ?_
      refine h2 (msk own H1) own' σ2 H2 _ R3 ⟨fun own3 σ3 H3 Γ3 R4 z => ⟨own3, Γ3, R4, z⟩, e1.rt, e1.nx, fun own3 σ3 H3 Γ3 R4 z => ⟨own3, Γ3, R4, z⟩, e1.rl, e1.rb⟩
    · have q : i = l.length := by omega
      subst q
      exact .inl ⟨i2 (Nat.le_refl _), e1.nx own' σ' H' Γ' R' (fin Γ' pI)⟩
/-- while -/
theorem sx_while {tt : TT} {tb : TS} (Iv : Nat → List Sl → Prop) {m0 : Nat} (h0 : Iv m0 Γ)
    (h : ∀ m Γ', Iv m Γ' → ExT c Γ' tt fun b => if b = true then Sx c Γ' tb { P with nx := fun Γ2 => ∃ m', m' < m ∧ Iv m' Γ2, ct := fun Γ2 => ∃ m', m' < m ∧ Iv m' Γ2, bk := P.nx } else P.nx Γ') : Sx c Γ (tWhile tt tb) P := fun H0 own σ H E R e => by
  refine ⟨fun m σ' H' => ∃ own' Γ', EnvR c H0 own' H' σ' Γ' ∧ Iv m Γ', ⟨m0, own, Γ, R, h0⟩, ?_⟩
  rintro m σ' H' ⟨own', Γ', R', pI⟩
  refine h m Γ' pI H0 own' σ' H' _ R' fun b H1 z st => ?_
  cases b with
  | false => exact e.nx own' σ' H1 Γ' (R'.stay st) z
  | true =>
    refine ⟨fun σ3 H3 => ∃ m', m' < m ∧ ∃ own' Γ', EnvR c H0 own' H3 σ3 Γ' ∧ Iv m' Γ', fun σ3 H3 ⟨m', q, w⟩ => ⟨m', q, w⟩, ?_⟩
    exact z H0 own' σ' H1 _ (R'.stay st) ⟨fun own3 σ3 H3 Γ3 R4 ⟨m', q, w⟩ => ⟨m', q, own3, Γ3, R4, w⟩, e.rt, e.nx, fun own3 σ3 H3 Γ3 R4 ⟨m', q, w⟩ => ⟨m', q, own3, Γ3, R4, w⟩, e.rl, e.rb⟩
end

/-! ### defs -/
/-- what a def gives -/
abbrev Fn := List D → (D → Prop) → Prop
def spD (K : PySem.W.Frag) (f : Fn) : Sp := fun vs H Q _ => ∃ (W : List Addr) (ds : List D) (k : D → Prop), (∀ a ∈ W, H a ≠ none) ∧ DRs K (msk W H) vs ds ∧ f ds k ∧ ∀ d v H', k d → Same H H' → DR K (msk W H') v d → Q v H'
/-- .. with a pot -/
def spP (K : PySem.W.Frag) (f : Fn) : Sp := fun vs H Q _ => ∃ (p : Addr) (W : List Addr) (vs' : List V) (ds : List D) (k : D → Prop), vs = .ref p :: vs' ∧ p ∈ W ∧ Pot p H ∧ (∀ a ∈ W, H a ≠ none) ∧ DRs K (msk W H) vs' ds ∧ f ds k ∧
  ∀ d v H', k d → Stp p H H' → DR K (msk W H') v d → Q v H'
def valG (n : Nat) (ds : List D) : List Sl := ds.map .val ++ List.replicate (n - ds.length) .un
section
variable {K : PySem.W.Frag} {N : List Str} {t : TS}
theorem start_env {W own : List Addr} {H : Hp} {vs : List V} {ds : List D} {c : C1} (b : Base c H [] H) (hc : c.W = W) (r : DRs c.K (msk W H) vs ds) : EnvR c H [] H (L2.start N vs) (valG N.length ds) where
  b := b
  len := by
    unfold L2.start valG
    rw [List.length_append, List.length_append, List.length_map, List.length_map, List.length_replicate, List.length_replicate, r.len]
  sl := fun i s o h1 h2 => by
    unfold L2.start at h2
    unfold valG at h1
    by_cases lt : i < ds.length
    · rw [List.getElem?_append_left (by rw [List.length_map]; exact lt), List.getElem?_map] at h1
      rw [List.getElem?_append_left (by rw [List.length_map, r.len]; exact lt), List.getElem?_map] at h2
      obtain ⟨d, e1, rfl⟩ := Option.map_eq_some_iff.mp h1
      obtain ⟨v, e2, e3⟩ := Option.map_eq_some_iff.mp h2
      obtain ⟨v', g1, g2⟩ := r.get e1
      rw [e2] at g1
      cases g1
      subst e3
      refine ⟨v, rfl, ?_⟩
      rw [hc, List.append_nil]
      exact g2
    · rw [List.getElem?_append_right (by rw [List.length_map]; omega)] at h1
      rw [List.getElem?_replicate] at h1
      split at h1
      · cases h1
        trivial
      · cases h1
  inj := fun i j s u a h1 h2 s1 s2 _ _ => by
    unfold valG at h1
    by_cases lt : i < ds.length
    · rw [List.getElem?_append_left (by rw [List.length_map]; exact lt), List.getElem?_map] at h1
      obtain ⟨d, e1, rfl⟩ := Option.map_eq_some_iff.mp h1
      cases s1
    · rw [List.getElem?_append_right (by rw [List.length_map]; omega), List.getElem?_replicate] at h1
      split at h1
      · cases h1
        cases s1
      · cases h1
/-- a def without a pot, by its body -/
theorem body_D {f : Fn} (h : ∀ W ds k, f ds k → Sx ⟨K, none, W⟩ (valG N.length ds) t { nx := fun _ => k .non, rt := k, bk := fun _ => False, ct := fun _ => False }) {vs : List V} {H : Hp} {Q : VK} {E : XK} (s : spD K f vs H Q E) : t { nx := fun _ H' => Q .non H', rt := Q } (L2.start N vs) H := by
  obtain ⟨W, ds, k, hW, r, hf, q⟩ := s
  have b : Base ⟨K, none, W⟩ H [] H := ⟨fun _ e => (by cases e), fun _ e => (by cases e), hW, Same.refl _, fun _ h => (by cases h), fun _ h => (by cases h)⟩
  have same : ∀ {own : List Addr} {H' : Hp}, Base ⟨K, none, W⟩ H own H' → Same H H' := fun {own H'} b => by
    have q := b.keep
    rw [show C1.P ⟨K, none, W⟩ = [] from rfl, mk_nil, mk_nil] at q
    exact q
  refine h W ds k hf H [] (L2.start N vs) H _ (start_env (W := W) (own := []) b rfl r) ⟨fun own σ H' Γ R z => ?_, fun own H' v d b' r' z => ?_, fun _ _ _ _ _ z => z.elim, fun _ _ _ _ _ z => z.elim, fun _ _ _ _ _ _ _ _ _ z => z.elim, fun _ _ _ _ _ _ _ _ _ _ _ _ _ _ _ _ z => z.elim⟩
  · exact q .non .non H' z (same R.b) .non
  · exact q d v H' z (same b') (r'.mono (mk_sub fun x hx => List.mem_append_left _ hx))
/-- a def with a pot -/
theorem body_P {f : Fn} (h : ∀ p W ds k, f ds k → Sx ⟨K, some p, W⟩ (.pot :: valG (N.length - 1) ds) t { nx := fun _ => k .non, rt := k, bk := fun _ => False, ct := fun _ => False }) {vs : List V} {H : Hp} {Q : VK} {E : XK} (hN : N ≠ []) (s : spP K f vs H Q E) : t { nx := fun _ H' => Q .non H', rt := Q } (L2.start N vs) H := by
  obtain ⟨p, W, vs', ds, k, rfl, hp, hP, hW, r, hf, q⟩ := s
  have b : Base ⟨K, some p, W⟩ H [] H := ⟨fun a e => (by cases e; exact hP), fun a e => (by rw [C1.mem] at e; cases e; exact hp), hW, Same.refl _, fun _ h => (by cases h), fun _ h => (by cases h)⟩
  have stp : ∀ {own : List Addr} {H' : Hp}, Base ⟨K, some p, W⟩ H own H' → Stp p H H' := fun {own H'} b => ⟨b.pot p rfl, fun a o e => by
    have q := b.keep a o (by
      unfold Vx.off at e
      unfold msk
      rw [show C1.P ⟨K, some p, W⟩ = [p] from rfl]
      simpa using e)
    unfold Vx.off
    unfold msk at q
    rw [show C1.P ⟨K, some p, W⟩ = [p] from rfl] at q
    simpa using q⟩
  have e0 : start N (.ref p :: vs') = some (.ref p) :: L2.start N.tail vs' := by
    cases N with
    | nil => exact absurd rfl hN
    | cons x N =>
      unfold L2.start
      rw [List.map_cons, List.cons_append, List.tail_cons, List.length_cons, List.length_cons, Nat.add_sub_add_right]
  have l0 : N.tail.length = N.length - 1 := List.length_tail ..
  have R0 := start_env (N := N.tail) (W := W) (own := []) b rfl r
  have R : EnvR ⟨K, some p, W⟩ H [] H (L2.start N (.ref p :: vs')) (.pot :: valG (N.length - 1) ds) := by
    rw [e0, ← l0]
    refine ⟨b, by rw [List.length_cons, List.length_cons, R0.len], fun i s o h1 h2 => ?_, fun i j s u a h1 h2 s1 s2 h3 h4 => ?_⟩
    · cases i with
      | zero =>
        cases h1
        cases h2
        exact ⟨p, rfl, rfl⟩
      | succ i => exact R0.sl i s o (by simpa using h1) (by simpa using h2)
    · cases i with
      | zero =>
        cases h1
        cases s1
      | succ i =>
        cases j with
        | zero =>
          cases h2
          cases s2
        | succ j => exact congrArg (· + 1) (R0.inj i j s u a (by simpa using h1) (by simpa using h2) s1 s2 (by simpa using h3) (by simpa using h4))
  refine h p W ds k hf H [] _ H _ R ⟨fun own σ H' Γ R z => ?_, fun own H' v d b' r' z => ?_, fun _ _ _ _ _ z => z.elim, fun _ _ _ _ _ z => z.elim, fun _ _ _ _ _ _ _ _ _ z => z.elim, fun _ _ _ _ _ _ _ _ _ _ _ _ _ _ _ _ z => z.elim⟩
  · exact q .non .non H' z (stp R.b) .non
  · exact q d v H' z (stp b') (r'.mono (mk_sub fun x hx => List.mem_append_left _ hx))
end
section
variable {c : C1} {Γ : List Sl} {ta : TA} {E : XK} {f : Fn} {k : D → Prop}
/-- f(e, ..) -/
theorem ex_call (h : ExA c Γ ta fun ds => f ds k) : Ex c Γ (tCall (spD c.K f) [] E ta) k := fun H0 own σ H Q R q =>
  h H0 own σ H _ R fun ds vs H1 h1 s1 r1 => by
    rw [List.append_nil]
    exact ⟨c.W ++ own, ds, k, base_all (R.b.stay s1), r1, h1, fun d v H2 z s2 r2 => q d v H2 z (s1.trans (Stay.of s2)) r2⟩
/-- f(pot, e, ..) -/
theorem ex_callP {i : Nat} (hp : Γ[i]? = some .pot) (h : ExA c Γ ta fun ds => f ds k) : Ex c Γ (tCall (spP c.K f) [] E (tCons (tVar i) ta)) k := fun H0 own σ H Q R q => by
  obtain ⟨o, e, p, hc, rfl⟩ := R.at_ hp
  refine ⟨_, e, h H0 own σ H _ R fun ds vs H1 h1 s1 r1 => ?_⟩
  show spP c.K f ((V.ref p :: vs) ++ []) H1 Q E
  rw [List.append_nil]
  have b1 := R.b.stay s1
  refine ⟨p, c.W ++ own, vs, ds, k, rfl, List.mem_append_left _ (b1.pw p (C1.mem.mpr hc)), b1.pot p hc, base_all b1, r1, h1, fun d v H2 z s2 r2 => q d v H2 z (s1.trans ⟨fun a e _ => ?_, fun a o e => ?_⟩) r2⟩
  · rw [hc] at e
    cases e
    exact s2.pot
  · obtain ⟨n, e⟩ := mk_some e
    have ne : a ≠ p := fun z => n (C1.mem.mpr (z ▸ hc))
    have q := s2.k a o (by unfold Vx.off; rw [if_neg ne]; exact e)
    unfold Vx.off at q
    rw [if_neg ne] at q
    rw [mk_out n]
    exact q
end
end Tl
/-! ## T4 -/
set_option Elab.async false
set_option linter.all false
set_option maxRecDepth 100000
set_option maxHeartbeats 4000000
namespace Tl
open PySem PySem.Spec PyProof.Rows L2 He Vx

/-! ### data -/
mutual
def D.py : D → PyData
  | .non => .none
  | .bl b => .bool b
  | .int i => .int i
  | .str x => .str x
  | .lst l => .list (D.pys l)
  | .tup l => .tuple (D.pys l)
  | .dK ks l => .dict ((ks.map keyD).zip (D.pys l))
  | .dT ks l => .dict ((ks.map keyT).zip (D.pys l))
  | .box _ _ _ => .none
def D.pys : List D → List PyData
  | [] => []
  | d :: l => D.py d :: D.pys l
end
mutual
/-- no box in it -/
def D.data : D → Bool
  | .lst l => D.datas l
  | .tup l => D.datas l
  | .dK _ l => D.datas l
  | .dT _ l => D.datas l
  | .box _ _ _ => false
  | _ => true
def D.datas : List D → Bool
  | [] => true
  | d :: l => D.data d && D.datas l
end
mutual
/-- no box and no dict in it -/
def D.plain : D → Bool
  | .lst l => D.plains l
  | .tup l => D.plains l
  | .dK _ _ => false
  | .dT _ _ => false
  | .box _ _ _ => false
  | _ => true
def D.plains : List D → Bool
  | [] => true
  | d :: l => D.plain d && D.plains l
end
theorem pys_map : ∀ l : List D, D.pys l = l.map D.py
  | [] => rfl
  | d :: l => by rw [D.pys, List.map_cons, pys_map l]
theorem datas_all : ∀ l : List D, D.datas l = l.all D.data
  | [] => rfl
  | d :: l => by rw [D.datas, List.all_cons, datas_all l]
theorem plains_all : ∀ l : List D, D.plains l = l.all D.plain
  | [] => rfl
  | d :: l => by rw [D.plains, List.all_cons, plains_all l]
theorem sqT_lift {K : PySem.W.Frag} {H : Hp} {a : Addr} {xs : List V} (h : SqT K (fun _ => none) a xs) : SqT K H a xs := by
  rcases h with (h | ⟨o, h⟩) | h
  · cases h
  · cases h
  · exact .inr h
section
variable {K : PySem.W.Frag} {H : Hp}
mutual
theorem DR.da : ∀ {v : V} {d : D}, DR K H v d → d.data = true → Da K H v d.py
  | _, _, .non, _ => .non
  | _, _, .bl b, _ => .bl b
  | _, _, .int i, _ => .int i
  | _, _, .str x, _ => .str x
  | _, _, .lst h g, e => .lst (SqL.of h) (DRs.da g e)
  | _, _, .tup h g, e => .tup (SqT.of h) (DRs.da g e)
  | _, _, .tup0 h, e => .tup (sqT_lift h) .nil
  | _, _, .dK (kvs := kvs) h g, e => by
    have q := Da.dK h (DRs.da g e)
    rw [D.py, List.map_map]
    exact q
  | _, _, .dT (kvs := kvs) h g, e => by
    have q := Da.dT h (DRs.da g e)
    rw [D.py, List.map_map]
    exact q
  | _, _, .box _ _ _, e => by cases e
theorem DRs.da : ∀ {vs : List V} {ds : List D}, DRs K H vs ds → D.datas ds = true → Das K H vs (D.pys ds)
  | _, _, .nil, _ => .nil
  | _, _, .cons a b, e => by
    rw [D.datas, Bool.and_eq_true] at e
    exact .cons (DR.da a e.1) (DRs.da b e.2)
end
mutual
theorem DR.dp : ∀ {v : V} {d : D}, DR K H v d → d.plain = true → Dp K H v d.py
  | _, _, .non, _ => .non
  | _, _, .bl b, _ => .bl b
  | _, _, .int i, _ => .int i
  | _, _, .str x, _ => .str x
  | _, _, .lst h g, e => .lst (SqL.of h) (DRs.dp g e)
  | _, _, .tup h g, e => .tup (SqT.of h) (DRs.dp g e)
  | _, _, .tup0 h, e => .tup (sqT_lift h) .nil
  | _, _, .dK _ _, e => by cases e
  | _, _, .dT _ _, e => by cases e
  | _, _, .box _ _ _, e => by cases e
theorem DRs.dp : ∀ {vs : List V} {ds : List D}, DRs K H vs ds → D.plains ds = true → DpAll K H vs (D.pys ds)
  | _, _, .nil, _ => .nil
  | _, _, .cons a b, e => by
    rw [D.plains, Bool.and_eq_true] at e
    exact .cons (DR.dp a e.1) (DRs.dp b e.2)
end
mutual
theorem D.data_of : ∀ d : D, d.plain = true → d.data = true
  | .non, _ => rfl
  | .bl _, _ => rfl
  | .int _, _ => rfl
  | .str _, _ => rfl
  | .lst l, e => D.datas_of l e
  | .tup l, e => D.datas_of l e
  | .dK _ _, e => by cases e
  | .dT _ _, e => by cases e
  | .box _ _ _, e => by cases e
theorem D.datas_of : ∀ l : List D, D.plains l = true → D.datas l = true
  | [], _ => rfl
  | d :: l, e => by
    rw [D.plains, Bool.and_eq_true] at e
    rw [D.datas, D.data_of d e.1, D.datas_of l e.2]
    rfl
end
end
/-- data of a known depth and size -/
structure Fin (k n : Nat) (d : D) : Prop where
  dt : d.data = true
  lf : d.py.leavesShort 40 = true
  sh : d.py.showable = true
  dp : d.py.depth ≤ k
  wt : d.py.weight ≤ n
theorem Fin.up {k n k' n' : Nat} {d : D} (h : Fin k n d) (hk : k ≤ k') (hn : n ≤ n') : Fin k' n' d := ⟨h.dt, h.lf, h.sh, Nat.le_trans h.dp hk, Nat.le_trans h.wt hn⟩
theorem fin_non : Fin 0 0 .non := ⟨rfl, rfl, rfl, Nat.le_refl _, Nat.le_refl _⟩
theorem fin_bl (b : Bool) : Fin 0 0 (.bl b) := ⟨rfl, rfl, rfl, Nat.le_refl _, Nat.le_refl _⟩
theorem fin_str {z : Str} (h : Asc z) {n : Nat} (hl : z.length ≤ n) : Fin 0 n (.str z) := by
  refine ⟨rfl, ?_, rfl, Nat.le_refl _, hl⟩
  simp only [D.py, PyData.leavesShort, List.all_eq_true, decide_eq_true_eq]
  intro c hc
  exact Nat.lt_of_lt_of_le (h c hc) (by decide)
theorem fin_int {i : Int} (h : i.natAbs < 10 ^ 31) : Fin 0 104 (.int i) := by
  obtain ⟨_, h2, h3, _, _⟩ := G_int h
  refine ⟨rfl, h2, h3, Nat.le_refl _, ?_⟩
  have hl : i.natAbs.log2 < 104 := by
    by_cases z : i.natAbs = 0
    · rw [z]
      decide
    · exact (Nat.log2_lt z).2 (Nat.lt_of_lt_of_le h (by decide))
  simp only [D.py, PyData.weight]
  split <;> omega
theorem fin_all {k n : Nat} : ∀ {l : List D}, (∀ d ∈ l, Fin k n d) → D.datas l = true ∧ PyData.leavesShortAll 40 (D.pys l) = true ∧ PyData.showableAll (D.pys l) = true ∧ PyData.depthAll (D.pys l) ≤ k ∧ PyData.weightAll (D.pys l) ≤ l.length * (n + 1)
  | [], _ => ⟨rfl, rfl, rfl, Nat.zero_le _, Nat.zero_le _⟩
  | d :: l, h => by
    obtain ⟨a1, a2, a3, a4, a5⟩ := fin_all fun e he => h e (List.mem_cons_of_mem _ he)
    have b := h d (List.mem_cons_self ..)
    refine ⟨?_, ?_, ?_, ?_, ?_⟩
    · rw [D.datas, a1, b.dt]
      rfl
    · rw [D.pys, PyData.leavesShortAll, a2, b.lf]
      rfl
    · rw [D.pys, PyData.showableAll, a3, b.sh]
      rfl
    · rw [D.pys, PyData.depthAll]
      have := b.dp
      omega
    · rw [D.pys, PyData.weightAll, List.length_cons, Nat.add_mul]
      have := b.wt
      omega
theorem fin_lst {k n m : Nat} {l : List D} (h : ∀ d ∈ l, Fin k n d) (hl : l.length ≤ m) : Fin (k + 1) (m * (n + 1)) (.lst l) := by
  obtain ⟨a1, a2, a3, a4, a5⟩ := fin_all h
  refine ⟨a1, ?_, ?_, ?_, Nat.le_trans a5 (Nat.mul_le_mul_right _ hl)⟩
  · simpa only [D.py, PyData.leavesShort] using a2
  · simpa only [D.py, PyData.showable] using a3
  · simp only [D.py, PyData.depth]
    omega
theorem fin_tup {k n m : Nat} {l : List D} (h : ∀ d ∈ l, Fin k n d) (hl : l.length ≤ m) : Fin (k + 1) (m * (n + 1)) (.tup l) := by
  obtain ⟨a1, a2, a3, a4, a5⟩ := fin_all h
  refine ⟨a1, ?_, ?_, ?_, Nat.le_trans a5 (Nat.mul_le_mul_right _ hl)⟩
  · simpa only [D.py, PyData.leavesShort] using a2
  · simpa only [D.py, PyData.showable] using a3
  · simp only [D.py, PyData.depth]
    omega
end Tl
/-! ## S1 -/
set_option Elab.async false
set_option linter.all false
set_option maxRecDepth 100000
set_option maxHeartbeats 4000000
/-! Sets whose members are tuples of any depth. -/
namespace Sb
open PySem PySem.Spec PyProof.Rows L2

abbrev NIs (h : Heap) (k : NestedKey) (a : Addr) : Prop := NestedIs h k (.ref a) ∧ k.depth ≤ 8
section
variable {P : Program} {w : World} {A : Around} {E : Value → Shared → Prop}
/-! ### what a search among such tuples asks -/
mutual
theorem cls_no : ∀ (k : NestedKey) (v : Value) (n : Nat) (s : Shared) (Q : Bool → Shared → Prop), NestedIs s.heap k v → k.depth ≤ n → Q false s → wpAny (model P w) A (ofAClassStatement n v) Q E s
  | .none, _, n, s, Q, x, _, h => by
    cases x
    cases n <;> exact wpAny_pure h
  | .num i, _, n, s, Q, x, _, h => by
    cases x <;> cases n <;> exact wpAny_pure h
  | .text y, _, n, s, Q, x, _, h => by
    cases x
    cases n <;> exact wpAny_pure h
  | .tup ks, _, n, s, Q, x, hn, h => by
    cases x with
    | @tup a o vs m ks ho hc hd hk =>
    simp only [NestedKey.depth] at hn
    cases n with
    | zero => omega
    | succ n =>
    unfold ofAClassStatement
    refine wpAny_bind (wpAny_typeOf (T := "tuple") ⟨o, ho, hc⟩ ?_)
    dsimp only
    simp only [show (("tuple" : String) == "tuple") = true from by decide, if_true]
    refine wpAny_bind (wpAny_pure ?_)
    simp only [Bool.not_true, Bool.false_eq_true, if_false]
    refine wpAny_bind (wpAny_seqItems ho hd ?_)
    dsimp only
    refine wpAny_bind ?_
    rw [← Array.forIn_toList]
    refine cls_nos ks vs.toList n s _ hk (by omega) ?_
    exact wpAny_pure h
theorem cls_nos : ∀ (ks : List NestedKey) (vs : List Value) (n : Nat) (s : Shared) (Q : Option Bool × Unit → Shared → Prop), NestedAll s.heap ks vs → NestedKey.depthAll ks ≤ n → Q (none, ()) s →
    wpAny (model P w) A (forIn vs ((none, ()) : Option Bool × Unit) fun y r => do if ← ofAClassStatement n y then pure (.done (some true, ())) else pure (.yield (none, ()))) Q E s
  | [], _, n, s, Q, x, _, h => by
    cases x
    rw [List.forIn_nil]
    exact wpAny_pure h
  | k :: ks, _, n, s, Q, x, hn, h => by
    cases x with
    | cons a b =>
    simp only [NestedKey.depthAll] at hn
    rw [List.forIn_cons]
    refine wpAny_bind (wpAny_bind (cls_no k _ n s _ a (by omega) ?_))
    simp only [Bool.false_eq_true, if_false]
    exact wpAny_pure (cls_nos ks _ n s Q b (by omega) h)
end
mutual
theorem hash_any : ∀ (k : NestedKey) (v : Value) (n : Nat) (s : Shared) (Q : Bool → Shared → Prop), NestedIs s.heap k v → (∀ b, Q b s) → wpAny (model P w) A (hashByValue n v) Q E s
  | .none, _, n, s, Q, x, h => by
    cases x
    cases n <;> exact wpAny_pure (h _)
  | .num i, _, n, s, Q, x, h => by
    cases x <;> cases n <;> exact wpAny_pure (h _)
  | .text y, _, n, s, Q, x, h => by
    cases x
    cases n <;> exact wpAny_pure (h _)
  | .tup ks, _, n, s, Q, x, h => by
    cases x with
    | @tup a o vs m ks ho hc hd hk =>
    cases n with
    | zero => exact wpAny_pure (h _)
    | succ n =>
    unfold hashByValue
    refine wpAny_bind (wpAny_specialOf (T := "tuple") ⟨o, ho, hc⟩ F.slot_tuple_hash.lookup ?_)
    show wpAny _ _ (seqItems? (.ref a) >>= _) _ _ s
    refine wpAny_bind (wpAny_seqItems ho hd ?_)
    refine wpAny_bind ?_
    show wpAny _ _ (forIn vs _ _) _ _ s
    rw [← Array.forIn_toList]
    refine hash_anys ks vs.toList n s _ hk fun r => ?_
    obtain ⟨r1, r2⟩ := r
    cases r1 <;> exact wpAny_pure (h _)
theorem hash_anys : ∀ (ks : List NestedKey) (vs : List Value) (n : Nat) (s : Shared) (Q : Option Bool × Unit → Shared → Prop), NestedAll s.heap ks vs → (∀ r, Q r s) →
    wpAny (model P w) A (forIn vs ((none, ()) : Option Bool × Unit) fun y r => do if !(← hashByValue n y) then pure (.done (some false, ())) else pure (.yield (none, ()))) Q E s
  | [], _, n, s, Q, x, h => by
    cases x
    rw [List.forIn_nil]
    exact wpAny_pure (h _)
  | k :: ks, _, n, s, Q, x, h => by
    cases x with
    | cons a b =>
    rw [List.forIn_cons]
    refine wpAny_bind (wpAny_bind (hash_any k _ n s _ a fun r => ?_))
    cases r with
    | true =>
      simp only [Bool.not_true, Bool.false_eq_true, if_false]
      exact wpAny_pure (hash_anys ks _ n s Q b h)
    | false =>
      simp only [Bool.not_false, if_true]
      exact wpAny_pure (wpAny_pure (h _))
end
variable {s : Shared}
/-- a search for k among tuples shows nothing -/
theorem unseen {k : NestedKey} {b : Addr} {Q : Bool → Shared → Prop} (hk : NIs s.heap k b) : ∀ {ys : List Value}, (∀ y ∈ ys, ∃ k' c, y = Value.ref c ∧ NIs s.heap k' c) → Q false s → wpAny (model P w) A (searchCouldBeSeen (.ref b) ys) Q E s := by
  intro ys hy h
  unfold searchCouldBeSeen
  refine wpAny_bind ?_
  have go : ∀ (ys : List Value), (∀ y ∈ ys, ∃ k' c, y = Value.ref c ∧ NIs s.heap k' c) → ∀ (f : Value → Option Bool × Unit → Sem (ForInStep (Option Bool × Unit))), (∀ c k', NIs s.heap k' c → ∀ R : ForInStep (Option Bool × Unit) → Shared → Prop, R (.yield (none, ())) s → wpAny (model P w) A (f (.ref c) (none, ())) R E s) →
      ∀ R : Option Bool × Unit → Shared → Prop, R (none, ()) s → wpAny (model P w) A (forIn ys ((none, ()) : Option Bool × Unit) f) R E s := by
    intro ys
    induction ys with
    | nil =>
      intro _ f _ R h
      rw [List.forIn_nil]
      exact wpAny_pure h
    | cons y ys ih =>
      intro hy f hf R h
      obtain ⟨k', c, rfl, hc⟩ := hy y List.mem_cons_self
      rw [List.forIn_cons]
      exact wpAny_bind (hf c k' hc _ (ih (fun z hz => hy z (List.mem_cons_of_mem _ hz)) f hf R h))
  refine go ys hy _ (fun c k' hc R hR => ?_) _ (wpAny_pure h)
  dsimp only
  by_cases hv : (b == c || (carriedByValue (.ref b) && carriedByValue (.ref c))) = true
  · rw [if_pos hv]
    exact wpAny_pure hR
  · rw [if_neg hv]
    refine wpAny_bind (quiet_key k _ 8 s hk.1 hk.2 _ _ _ ?_)
    simp only [Bool.not_true, Bool.false_eq_true, if_false]
    refine wpAny_bind (quiet_key k' _ 8 s hc.1 hc.2 _ _ _ ?_)
    simp only [Bool.not_true, Bool.false_eq_true, if_false]
    refine wpAny_bind (cls_no k _ 8 s _ hk.1 hk.2 ?_)
    simp only [Bool.false_eq_true, if_false]
    refine wpAny_bind (cls_no k' _ 8 s _ hc.1 hc.2 ?_)
    simp only [Bool.false_eq_true, if_false]
    exact wpAny_pure hR
end
end Sb
/-! ## S2 -/
set_option Elab.async false
set_option linter.all false
set_option maxRecDepth 100000
set_option maxHeartbeats 4000000
namespace Sb
open PySem PySem.Spec PyProof.Rows L2

abbrev Ent := Addr × NestedKey
def rowsE (w : World) (L : List Ent) : List (Int × Value) := L.map fun p => (p.2.hash w, Value.ref p.1)
abbrev hsE (w : World) (L : List Ent) : List Int := L.map fun p => p.2.hash w
/-- a set's table holds the entries L -/
structure Tb (w : World) (L : List Ent) (es : Array (Int × Value)) (t : SetTable) : Prop where
  rows : es.toList = rowsE w L
  tab : TabOk t (hsE w L)
  nd : (L.map Prod.snd).Nodup
  led : w.params.followText "set-order" = true ∨ t.led = true
  room : L.length * 5 < t.mask * 3
  few : L.length < 64
/-- the set at a holds the tuples L -/
structure Hs (w : World) (h : Heap) (a : Addr) (L : List Ent) (es : Array (Int × Value)) (ep : Nat) (t : SetTable) : Prop where
  ob : ∃ o, h.get? a = some o ∧ o.ExactSet ∧ o.data = .set es ep t
  tb : Tb w L es t
  at_ : ∀ p ∈ L, NIs h p.2 p.1
section
variable {P : Program} {w : World} {A : Around} {E : Value → Shared → Prop} {s : Shared} {L : List Ent} {es : Array (Int × Value)} {ep : Nat} {t : SetTable} {a : Addr}
theorem len_of {w : World} {L : List Ent} {es : Array (Int × Value)} (h : es.toList = rowsE w L) : es.size = L.length := by
  have q := congrArg List.length h
  rwa [Array.length_toList, rowsE, List.length_map] at q
theorem Tb.size (T : Tb w L es t) : es.size = L.length := len_of T.rows
theorem Tb.place (T : Tb w L es t) : t.place.toList.length = L.length := by
  rw [Array.length_toList, T.tab.sz, List.length_map]
theorem fits_of {n : Nat} (h1 : t.place.size = n) (h2 : t.dummies = #[]) (h3 : n ≤ t.mask) : t.fits n = true := by
  unfold SetTable.fits SetTable.fill
  rw [h1, h2, Bool.and_eq_true, beq_iff_eq, decide_eq_true_eq]
  exact ⟨rfl, h3⟩
theorem Tb.fits (T : Tb w L es t) : t.fits es.size = true := by
  refine fits_of ?_ T.tab.dm ?_
  · rw [T.size, T.tab.sz, List.length_map]
  · have := T.room
    rw [T.size]
    omega
theorem Tb.at_ (T : Tb w L es t) {i : Nat} {p : Ent} (h : L[i]? = some p) : es[i]? = some (p.2.hash w, Value.ref p.1) := by
  rw [← Array.getElem?_toList, T.rows, rowsE, List.getElem?_map, h]
  rfl
theorem Tb.hashAt (T : Tb w L es t) {i : Nat} {p : Ent} (h : L[i]? = some p) : (es[i]?.map (·.1)).getD 0 = p.2.hash w := by
  rw [T.at_ h]
  rfl
/-- the probe after c turns -/
abbrev wp' (t : SetTable) (h : Int) (c : Nat) : SetTable.Probe := nth t.mask (runAt t.mask (SetTable.bits h % (t.mask + 1)) (SetTable.bits h)) c
theorem wp_dummy (t : SetTable) (h : Int) (c : Nat) : (wp' t h c).dummy = none := by
  have go : ∀ (n : Nat) (p : SetTable.Probe), p.dummy = none → (nth t.mask p n).dummy = none := fun n => by
    induction n with
    | zero => exact fun p h => h
    | succ n ih =>
      intro p h
      refine ih (adv t.mask p) ?_
      unfold adv
      split <;> exact h
  exact go c _ rfl
theorem wp_add (t : SetTable) (h : Int) (c q : Nat) : nth t.mask (wp' t h c) q = wp' t h (c + q) := (nth_add t.mask c _ q).symm
/-- the search, from its c-th turn on; K: the first free place; no entry with the key k stands ahead of c -/
theorem go_on (R : Hs w s.heap a L es ep t) {x : Addr} {k : NestedKey} (hx : NIs s.heap k x) (hu : A.units + 8 < cLine) {K : Nat} (free : way t.mask (k.hash w) K ∉ t.place.toList) (full : ∀ c, c < K → way t.mask (k.hash w) c ∈ t.place.toList)
    (few : K < 10 * SetTable.turns t.mask) {Q : SetFound → Shared → Prop} (yes : k ∈ L.map Prod.snd → Q (.there none) s) (no : k ∉ L.map Prod.snd → Q (.free (way t.mask (k.hash w) K) false) s) :
    ∀ (f c : Nat) (st : Option SetTable.Probe), st.getD (t.probeStart (k.hash w)) = wp' t (k.hash w) c → c ≤ K → K < c + f → (∀ (i : Nat) (p : Ent), L[i]? = some p → p.2 = k → ∃ d, c ≤ d ∧ d < K ∧ t.place.toList[i]? = some (way t.mask (k.hash w) d)) →
      wpAny (model P w) A (setSearchFrom a (.ref x) (k.hash w) true f st) Q E s := by
  obtain ⟨o, ho, hex, hd⟩ := R.ob
  have T := R.tb
  intro f
  induction f with
  | zero => exact fun c st _ h1 h2 _ => absurd h2 (by omega)
  | succ f ih =>
    intro c st hst hc hf ahead
    rw [setSearchFrom_succ]
    refine wpAny_bind (wpAny_setState_of ho hd T.fits ?_)
    have odd : ¬ t.gaveWay = true := by
      unfold SetTable.gaveWay
      rw [mask_odd T.tab.mok]
      decide
    dsimp only
    rw [if_neg odd]
    refine wpAny_bind (wpAny_pure ?_)
    have jj : ∀ q, (nth t.mask (wp' t (k.hash w) c) q).j = way t.mask (k.hash w) (c + q) := fun q => congrArg SetTable.Probe.j (wp_add t _ c q)
    have found := go_spec t T.tab.ris T.tab.dm (fun i => (es[i]?.map (·.1)).getD 0) (k.hash w) (10 * SetTable.turns t.mask) (K - c) (wp' t (k.hash w) c) (wp_dummy t _ c) (by omega)
      (fun q hq => by rw [jj]; exact full (c + q) (by omega)) (by rw [jj, show c + (K - c) = K by omega]; exact free)
    rcases found with ⟨q, i, hq, hi, hh, fresh, hp⟩ | ⟨fresh, hp⟩
    · rw [jj] at hi
      rw [show t.probe (fun i => (es[i]?.map (·.1)).getD 0) (k.hash w) (st.getD (t.probeStart (k.hash w))) = some (.candidate (way t.mask (k.hash w) (c + q)) i (wp' t (k.hash w) (c + (q + 1)))) from by
        rw [hst, ← jj, ← wp_add]
        exact hp]
      dsimp only
      have hiL : i < L.length := by
        rw [← T.place]
        exact (List.getElem?_eq_some_iff.mp hi).1
      obtain ⟨p, hpi⟩ : ∃ p, L[i]? = some p := ⟨L[i], List.getElem?_eq_getElem hiL⟩
      have hpL : p ∈ L := List.mem_of_getElem? hpi
      have live := slot_live T.tab.ris hi
      -- behind the look whether the search could be seen
      have rest : wpAny (model P w) A (searchRest a (.ref x) (k.hash w) true f es t (way t.mask (k.hash w) (c + q)) i (wp' t (k.hash w) (c + (q + 1)))) Q E s := by
        unfold searchRest
        rw [T.at_ hpi]
        dsimp only
        refine wpAny_bind (wpAny_holding ((nestedKind P w).eqBool hu (R.at_ p hpL) hx ?_))
        refine wpAny_bind (wpAny_setState_of ho hd T.fits ?_)
        dsimp only
        by_cases e : p.2 = k
        · rw [if_pos (by rw [decide_eq_true e]; rfl)]
          exact wpAny_pure (yes (List.mem_map.mpr ⟨p, hpL, e⟩))
        · rw [if_neg (by rw [decide_eq_false e]; decide)]
          refine wpAny_bind (wpAny_pure ?_)
          rw [sameMem]
          dsimp only
          rw [if_pos rfl, live]
          dsimp only
          rw [T.at_ hpi]
          dsimp only
          refine wpAny_bind (wpAny_isSame_ref_self (wpAny_bind (wpAny_pure ?_)))
          rw [if_pos rfl]
          dsimp only
          rw [if_neg (by rw [decide_eq_false e]; decide)]
          refine ih (c + (q + 1)) _ rfl (by omega) (by omega) fun i' p' h1 h2 => ?_
          obtain ⟨d, d1, d2, d3⟩ := ahead i' p' h1 h2
          refine ⟨d, ?_, d2, d3⟩
          rcases Nat.lt_trichotomy d (c + q) with z | z | z
          · exact absurd ((T.hashAt h1).trans (by rw [h2])) (fresh (d - c) i' (by omega) (by rw [jj, show c + (d - c) = d by omega]; exact d3))
          · subst z
            have same : i = i' := by
              have l2 := slot_live T.tab.ris d3
              rw [live] at l2
              injection l2
            subst same
            rw [hpi] at h1
            cases h1
            exact absurd h2 e
          · omega
      by_cases led : t.led = true
      · rw [if_neg (by rw [led]; decide)]
        exact wpAny_bind (wpAny_pure rest)
      · rw [if_pos (by simp [led])]
        refine wpAny_bind (unseen hx (fun y hy => ?_) ?_)
        · obtain ⟨e, he, rfl⟩ := List.mem_map.mp hy
          have he : e ∈ es.toList := by
            have q : e ∈ (es.filter fun z => z.1 == k.hash w) := by simpa using he
            simpa using (Array.mem_filter.mp q).1
          rw [T.rows, rowsE] at he
          obtain ⟨p2, hp2, rfl⟩ := List.mem_map.mp he
          exact ⟨p2.2, p2.1, rfl, R.at_ p2 hp2⟩
        · rw [if_neg (by decide)]
          first | exact rest | exact wpAny_bind (wpAny_pure rest)
    · rw [show t.probe (fun i => (es[i]?.map (·.1)).getD 0) (k.hash w) (st.getD (t.probeStart (k.hash w))) = some (.empty (way t.mask (k.hash w) K) none) from by
        have e2 : way t.mask (k.hash w) K = (nth t.mask (wp' t (k.hash w) c) (K - c)).j := by rw [jj, show c + (K - c) = K by omega]
        rw [hst, e2]
        exact hp]
      dsimp only
      refine wpAny_pure (no fun hm => ?_)
      obtain ⟨p, hpL, e⟩ := List.mem_map.mp hm
      obtain ⟨i, hi⟩ := List.getElem?_of_mem hpL
      obtain ⟨d, d1, d2, d3⟩ := ahead i p hi e
      exact fresh (d - c) i (by omega) (by rw [jj, show c + (d - c) = d by omega]; exact d3) ((T.hashAt hi).trans (by rw [e]))
theorem turns_le (t : SetTable) (h : MaskOk t.mask) : 10 * SetTable.turns t.mask ≤ 1420 := by
  unfold SetTable.turns
  rcases h with e | e | e <;> omega
theorem search (R : Hs w s.heap a L es ep t) {x : Addr} {k : NestedKey} (hx : NIs s.heap k x) (hu : A.units + 8 < cLine) {Q : SetFound → Shared → Prop} (yes : k ∈ L.map Prod.snd → Q (.there none) s)
    (no : ∀ K, k ∉ L.map Prod.snd → way t.mask (k.hash w) K ∉ t.place.toList → (∀ c, c < K → way t.mask (k.hash w) c ∈ t.place.toList) → Q (.free (way t.mask (k.hash w) K) false) s) :
    wpAny (model P w) A (setSearch a (.ref x) (k.hash w) true) Q E s := by
  have T := R.tb
  obtain ⟨K, k1, k2, k3⟩ := T.tab.first (by have := T.room; rw [List.length_map]; omega) (k.hash w)
  have := turns_le t T.tab.mok
  refine go_on R hx hu k2 k3 k1 yes (fun z => no K z k2 k3) 100000 0 none rfl (Nat.zero_le _) (by omega) fun i p hi e => ?_
  have h1 : (hsE w L)[i]? = some (k.hash w) := by rw [List.getElem?_map, hi, ← e]; rfl
  have h2 : i < t.place.toList.length := by rw [T.place]; exact (List.getElem?_eq_some_iff.mp hi).1
  obtain ⟨d, d1, d2⟩ := T.tab.before k2 h1 (List.getElem?_eq_getElem h2)
  exact ⟨d, Nat.zero_le _, d1, by rw [List.getElem?_eq_getElem h2, d2]⟩
end
end Sb
/-! ## S3 -/
set_option Elab.async false
set_option linter.all false
set_option maxRecDepth 100000
set_option maxHeartbeats 4000000
namespace Sb
open PySem PySem.Spec PyProof.Rows L2
section
variable {P : Program} {w : World} {A : Around} {E : Value → Shared → Prop} {s : Shared} {L : List Ent} {es : Array (Int × Value)} {ep : Nat} {t : SetTable} {a : Addr}
/-- a tuple is no set: what is written at a set leaves it -/
theorem nis_but {h h' : Heap} {k : NestedKey} {b : Addr} {o : Obj} (x : NIs h k b) (ho : h.get? a = some o) (hd : o.data = .set es ep t) (sb : Heap.SameBut a h h') : NIs h' k b :=
  ⟨NestedIs.at (fun c u vs n hc hu => (sb.2 c fun z => by
    subst z
    rw [ho] at hc
    cases hc
    rw [hd] at hu
    cases hu).trans hc) k _ x.1, x.2⟩
theorem nis_keep {h h' : Heap} {k : NestedKey} {b : Addr} (x : NIs h k b) (kp : ∀ c o, h.get? c = some o → h'.get? c = some o) : NIs h' k b := ⟨NestedIs.at (fun c u vs n hc _ => kp c u hc) k _ x.1, x.2⟩
/-- entries taken in another order -/
theorem order_ent {order : Array Nat} (hr : es.toList = rowsE w L) (hp : order.toList.Perm (List.range L.length)) :
    ∃ L2 : List Ent, (order.filterMap (es[·]?)).toList = rowsE w L2 ∧ L2.Perm L ∧ hsE w L2 = order.toList.map fun i => (es.map (·.1)).getD i 0 := by
  have at_ : ∀ i : Nat, es[i]? = (L[i]?).map (fun p : Ent => (p.2.hash w, Value.ref p.1)) := fun i => by rw [← Array.getElem?_toList, hr, rowsE, List.getElem?_map]
  have all : ∀ l : List Nat, l.filterMap (fun i => es[i]?) = rowsE w (l.filterMap fun i => L[i]?) := fun l => by
    rw [rowsE, List.map_filterMap]
    exact congrArg (fun f => l.filterMap f) (funext at_)
  refine ⟨order.toList.filterMap fun i => L[i]?, by rw [Array.toList_filterMap]; exact all _, ?_, ?_⟩
  · have q := hp.filterMap fun i => L[i]?
    have e : ∀ M : List Ent, (List.range M.length).filterMap (fun i => M[i]?) = M := fun M => by
      refine List.ext_getElem? fun j => ?_
      have key : ∀ n, n ≤ M.length → (List.range n).filterMap (fun i => M[i]?) = M.take n := fun n => by
        induction n with
        | zero => exact fun _ => rfl
        | succ n ih =>
          intro hn
          have e2 : M[n]? = some M[n] := List.getElem?_eq_getElem hn
          rw [List.range_succ, List.filterMap_append, ih (Nat.le_of_succ_le hn), List.take_succ, e2, List.filterMap_cons, e2]
          rfl
      rw [key M.length (Nat.le_refl _), List.take_length]
    rwa [e L] at q
  · have lt : ∀ i ∈ order.toList, i < L.length := fun i hi => List.mem_range.mp (hp.mem_iff.mp hi)
    generalize order.toList = l at lt
    induction l with
    | nil => rfl
    | cons i l ih =>
      have hi := lt i List.mem_cons_self
      have e1 : L[i]? = some L[i] := List.getElem?_eq_getElem hi
      have e2 : (es.map (·.1)).getD i 0 = (L[i]).2.hash w := by
        have e3 : (es.map (·.1))[i]? = some ((L[i]).2.hash w) := by rw [Array.getElem?_map, at_ i, e1]; rfl
        rw [Array.getD_eq_getD_getElem?, e3]
        rfl
      rw [List.filterMap_cons, e1, List.map_cons, e2]
      show (L[i]).2.hash w :: hsE w _ = _
      rw [ih fun j hj => lt j (List.mem_cons_of_mem _ hj)]
/-- the table laid anew -/
theorem relay {o : Obj} (ho : s.heap.get? a = some o) (hex : o.ExactSet) (hd : o.data = .set es ep t) (hr : es.toList = rowsE w L) (hsz : t.place.size = es.size) (hdm : t.dummies = #[]) (hfl : es.size ≤ t.mask) (nd : (L.map Prod.snd).Nodup)
    (at_ : ∀ p ∈ L, NIs s.heap p.2 p.1) (ld : w.params.followText "set-order" = true ∨ t.led = true) (few : L.length < 64) {wanted M : Nat} (hw : SetTable.sizeAbove wanted - 1 = M) (hM : MaskOk M) (hw2 : SetTable.sizeAbove wanted ≤ 128) (hn : L.length * 5 < M * 3)
    {Q : Unit → Shared → Prop} (q : ∀ h' L' es' ep' t', Heap.SameBut a s.heap h' → Hs w h' a L' es' ep' t' → L'.Perm L → Q () { s with heap := h' }) : wpAny (model P w) A (setRelay a wanted) Q E s := by
  have sl := len_of hr
  obtain ⟨t', order, e, hp, T, em, el, ep', ed⟩ := relaid_ok t (hs := es.map (·.1)) (wanted := wanted) hw hM (by rw [Array.size_map, sl]; omega)
  rw [Array.size_map, sl] at hp
  obtain ⟨L2, r1, r2, r3⟩ := order_ent hr hp
  rw [← r3] at T
  have s2 : (order.filterMap (es[·]?)).size = es.size := by rw [len_of r1, r2.length_eq, sl]
  rw [setRelay_eq]
  refine wpAny_bind (wpAny_setState_of ho hd (fits_of hsz hdm hfl) ?_)
  dsimp only
  rw [if_neg (by rw [sizeLine_eq]; omega)]
  rw [e]
  dsimp only
  refine wpAny_bind ?_
  rw [if_neg (by rw [s2]; simp)]
  refine wpAny_pure ?_
  dsimp only
  refine wpAny_storeSet_of ho hd ?_ (by rw [s2, sl, sizeLine_eq]; omega)
  have sb : Heap.SameBut a s.heap (s.heap.update a (Obj.putSet (order.filterMap (es[·]?)) t')) := Heap.SameBut.update ..
  exact q _ L2 _ (ep + 1) t' sb ⟨⟨_, store_at ho hd, ⟨hex.1, hex.2.1, hex.2.2⟩, rfl⟩, ⟨r1, T, (r2.map Prod.snd).nodup_iff.mpr nd, by rw [el]; exact ld, by rw [r2.length_eq, em]; exact hn, by rw [r2.length_eq]; exact few⟩,
    fun p hpm => nis_but (at_ p (r2.mem_iff.mp hpm)) ho hd sb⟩ r2
/-- a tuple is put in -/
theorem put_in (R : Hs w s.heap a L es ep t) {x : Addr} {k : NestedKey} (hx : NIs s.heap k x) (hu : A.units + 8 < cLine) (few : L.length + 1 < 64) {Q : Bool → Shared → Prop}
    (q : ∀ b h' L' es' ep' t', Heap.SameBut a s.heap h' → Hs w h' a L' es' ep' t' → (k ∈ L.map Prod.snd → L' = L) → (k ∉ L.map Prod.snd → L'.Perm ((x, k) :: L)) → Q b { s with heap := h' }) :
    wpAny (model P w) A (setAddHashed a (.ref x) (k.hash w)) Q E s := by
  obtain ⟨o, ho, hex, hd⟩ := R.ob
  have T := R.tb
  have sl := T.size
  unfold setAddHashed
  refine wpAny_holding ?_
  rw [show (100000 : Nat) = 99999 + 1 from rfl, setAddHashedIn_succ]
  refine wpAny_bind (wpAny_setState_of ho hd T.fits ?_)
  dsimp only
  rw [if_neg (by simp [byScan, Value.scannable])]
  refine wpAny_bind (search R hx hu (fun hm => ?_) fun K hm k2 k3 => ?_)
  · dsimp only
    exact wpAny_pure (q false s.heap L es ep t (Heap.SameBut.refl a s.heap) R (fun _ => rfl) fun z => absurd hm z)
  dsimp only
  refine wpAny_bind (wpAny_setState_of ho hd T.fits ?_)
  dsimp only
  obtain ⟨q1, q2, q3, q4, q5, q6, q7, q8, q9⟩ := T.tab.put k2 k3
  generalize t.put (way t.mask (k.hash w) K) = pt at q1 q3 q4 q5 q6 q7 q8 q9 ⊢
  obtain ⟨t1, i⟩ := pt
  dsimp only at q1 q3 q4 q5 q6 q7 q8 q9 ⊢
  subst q1
  generalize hi : SetTable.below t.place (way t.mask (k.hash w) K) = i at q2 q3 ⊢
  -- whatever the hash goes by
  have fin : ∀ b : Bool, wpAny (model P w) A (do
      storeSet a (SetTable.insertAt es i (k.hash w, Value.ref x)) (if b = true then t1 else { t1 with plain := false })
      if !false && (if b = true then t1 else { t1 with plain := false }).tooFull then setRelay a (SetTable.grown (es.size + 1))
      return true) Q E s := fun b => by
    generalize ht2 : (if b = true then t1 else { t1 with plain := false }) = t2
    have tt : t2.mask = t1.mask ∧ t2.led = t1.led ∧ t2.place = t1.place ∧ t2.dummies = t1.dummies ∧ t2.fill = t1.fill := by
      rw [← ht2]
      cases b <;> exact ⟨rfl, rfl, rfl, rfl, rfl⟩
    obtain ⟨m1, m2, m3, m4, m5⟩ := tt
    have pm : (L.take i ++ (x, k) :: L.drop i).Perm ((x, k) :: L) := by
      refine List.perm_middle.trans ?_
      rw [List.take_append_drop]
    have hr : (SetTable.insertAt es i (k.hash w, Value.ref x)).toList = rowsE w (L.take i ++ (x, k) :: L.drop i) := by
      rw [SetTable.toList_insertAt, T.rows, rowsE, rowsE, List.map_append, List.map_cons, List.map_take, List.map_drop]
    have tab2 : TabOk t2 (hsE w (L.take i ++ (x, k) :: L.drop i)) := by
      have e : hsE w (L.take i ++ (x, k) :: L.drop i) = (hsE w L).take i ++ k.hash w :: (hsE w L).drop i := by
        rw [hsE, List.map_append, List.map_cons, List.map_take, List.map_drop]
      rw [e]
      exact ⟨by rw [m3]; exact q3.ris, by rw [m4]; exact q3.dm, by rw [m3]; exact q3.sz, by rw [m1]; exact q3.mok, by rw [m3, m1]; exact q3.bd, by rw [m3, m1]; exact q3.reach⟩
    have nd : ((L.take i ++ (x, k) :: L.drop i).map Prod.snd).Nodup := (pm.map Prod.snd).nodup_iff.mpr (List.nodup_cons.mpr ⟨hm, T.nd⟩)
    have ln : (L.take i ++ (x, k) :: L.drop i).length = L.length + 1 := pm.length_eq
    generalize SetTable.insertAt es i (k.hash w, Value.ref x) = es1 at hr ⊢
    generalize L.take i ++ (x, k) :: L.drop i = L1 at pm ln nd hr tab2
    have sl1 := len_of hr
    refine wpAny_bind (wpAny_storeSet_of ho hd ?_ (by rw [sl1, ln, sizeLine_eq]; omega))
    have sb : Heap.SameBut a s.heap (s.heap.update a (Obj.putSet es1 t2)) := Heap.SameBut.update ..
    have ho1 := store_at (es' := es1) (t' := t2) ho hd
    generalize s.heap.update a (Obj.putSet es1 t2) = h1 at sb ho1 ⊢
    have at1 : ∀ p ∈ L1, NIs h1 p.2 p.1 := fun p hp => by
      rcases List.mem_cons.mp (pm.mem_iff.mp hp) with e | hp
      · rw [e]
        exact nis_but hx ho hd sb
      · exact nis_but (R.at_ p hp) ho hd sb
    have led1 : w.params.followText "set-order" = true ∨ t2.led = true := by rw [m2, q5]; exact T.led
    have fill1 : t2.fill = L.length + 1 := by rw [m5, q9, List.length_map]
    have room := T.room
    by_cases full : t2.tooFull = true
    · rw [if_pos (by rw [full]; rfl)]
      have over : (L.length + 1) * 5 ≥ t.mask * 3 := by
        have f := full
        unfold SetTable.tooFull at f
        rw [decide_eq_true_eq, fill1, m1, q4] at f
        exact f
      have go : ∀ M, SetTable.sizeAbove (SetTable.grown (L.length + 1)) - 1 = M → MaskOk M → SetTable.sizeAbove (SetTable.grown (L.length + 1)) ≤ 128 → (L.length + 1) * 5 < M * 3 → t.mask ≥ L.length + 1 →
          wpAny (model P w) A (setRelay a (SetTable.grown (es.size + 1))) (fun _ s' => wpAny (model P w) A (pure true) Q E s') E { s with heap := h1 } := fun M g1 g2 g3 g4 g5 => by
        rw [sl]
        refine relay (s := { s with heap := h1 }) ho1 ⟨hex.1, hex.2.1, hex.2.2⟩ rfl hr (by rw [tab2.sz, List.length_map, sl1]) tab2.dm (by rw [sl1, ln, m1, q4]; exact g5) nd at1 led1 (by rw [ln]; exact few) g1 g2 g3 (by rw [ln]; exact g4) ?_
        intro h2 L2 es2 ep2 t3 sb2 R2 pm2
        exact wpAny_pure (q true h2 L2 es2 ep2 t3 (sb.trans sb2) R2 (fun z => absurd z hm) fun _ => pm2.trans pm)
      refine wpAny_bind ?_
      rcases T.tab.mok with e | e | e
      · have l4 : L.length = 4 := by rw [e] at over room; omega
        exact go 31 (by rw [l4, size_20]) (.inr (.inl rfl)) (by rw [l4, size_20]; decide) (by omega) (by omega)
      · have l18 : L.length = 18 := by rw [e] at over room; omega
        exact go 127 (by rw [l18, size_76]) (.inr (.inr rfl)) (by rw [l18, size_76]; decide) (by omega) (by omega)
      · rw [e] at over
        omega
    · rw [if_neg (by rw [Bool.eq_false_iff.mpr full]; decide)]
      refine wpAny_pure (q true h1 L1 es1 (ep + 1) t2 sb ⟨⟨_, ho1, ⟨hex.1, hex.2.1, hex.2.2⟩, rfl⟩, ⟨hr, tab2, nd, led1, ?_, by rw [ln]; exact few⟩, at1⟩ (fun z => absurd z hm) fun _ => pm)
      have f := full
      unfold SetTable.tooFull at f
      rw [decide_eq_true_eq, fill1] at f
      rw [ln]
      omega
  by_cases pl : t1.plain = true
  · rw [if_pos pl]
    exact wpAny_bind (hash_any k _ 8 s _ hx.1 fun b => fin b)
  · rw [if_neg pl]
    exact wpAny_bind (wpAny_pure (fin true))
end
end Sb
/-! ## S4 -/
set_option Elab.async false
set_option linter.all false
set_option maxRecDepth 100000
set_option maxHeartbeats 6000000
namespace Sb
open PySem PySem.Spec PyProof.Rows L2 He Vx
/-- what of the first i tuples the set has got -/
structure Took (ps : List Ent) (i : Nat) (L : List Ent) : Prop where
  sub : ∀ p ∈ L, p ∈ ps
  all : ∀ p ∈ ps.take i, p.2 ∈ L.map Prod.snd
  len : L.length ≤ i
theorem Took.next {ps L L' : List Ent} {i : Nat} {p : Ent} (g : Took ps i L) (hp : ps[i]? = some p) (c1 : p.2 ∈ L.map Prod.snd → L' = L) (c2 : p.2 ∉ L.map Prod.snd → L'.Perm (p :: L)) : Took ps (i + 1) L' := by
  have cut : ∀ q ∈ ps.take (i + 1), q ∈ ps.take i ∨ q = p := fun q hq => by
    rw [List.take_succ, hp] at hq
    rcases List.mem_append.mp hq with h | h
    · exact .inl h
    · exact .inr (List.mem_singleton.mp h)
  by_cases e : p.2 ∈ L.map Prod.snd
  · rw [c1 e]
    refine ⟨g.sub, fun q hq => ?_, Nat.le_succ_of_le g.len⟩
    rcases cut q hq with h | rfl
    · exact g.all q h
    · exact e
  · have pm := c2 e
    refine ⟨fun q hq => ?_, fun q hq => ?_, by rw [pm.length_eq]; exact Nat.succ_le_succ g.len⟩
    · rcases List.mem_cons.mp (pm.mem_iff.mp hq) with rfl | h
      · exact List.mem_of_getElem? hp
      · exact g.sub q h
    · refine (pm.map Prod.snd).mem_iff.mpr ?_
      rcases cut q hq with h | rfl
      · exact List.mem_cons_of_mem _ (g.all q h)
      · exact List.mem_cons_self ..
section
variable {P : Program} {w : World} {A : Around} {E : Value → Shared → Prop} {s : Shared}
theorem Hs.keep {h h' : Heap} {a : Addr} {L : List Ent} {es : Array (Int × Value)} {ep : Nat} {t : SetTable} (R : Hs w h a L es ep t) (ka : ∀ o, h.get? a = some o → h'.get? a = some o) (kt : ∀ p ∈ L, NIs h' p.2 p.1) : Hs w h' a L es ep t := by
  obtain ⟨o, ho, r⟩ := R.ob
  exact ⟨⟨o, ka o ho, r⟩, R.tb, kt⟩
theorem hs_new {h : Heap} {a : Addr} (ho : h.get? a = some (set0 w)) : Hs w h a [] #[] 0 (.fresh 0 0 (!w.params.followText "set-order")) where
  ob := ⟨_, ho, ⟨rfl, rfl, rfl⟩, rfl⟩
  tb := ⟨rfl, ⟨List.Pairwise.nil, rfl, rfl, .inl rfl, fun x hx => (by cases hx), fun i h j hi => (by simp at hi)⟩, List.nodup_nil, by
    show _ ∨ (!w.params.followText "set-order") = true
    cases w.params.followText "set-order"
    · exact .inr rfl
    · exact .inl rfl, (by show 0 * 5 < 7 * 3; decide), (by show 0 < 64; decide)⟩
  at_ := fun p hp => (by cases hp)
/-- the loop of set.update over tuples -/
theorem fill {I S : Addr} {fp wr : List Addr} {G : Array GenState → Array GenState → Prop} {n : Nat} {Pv : Nat → Value → Prop} {St : Nat → Shared → Prop} {R : Result → Shared → Prop} (W : WalksS P w A.in1 I fp wr G n Pv St) (nS : S ∉ fp) {ps : List Ent}
    (hn : n = ps.length) (few : ps.length < 64) (each : ∀ i v, Pv i v → ∃ p, ps[i]? = some p ∧ v = .ref p.1) {h0 : Heap} (tup : ∀ p ∈ ps, NIs h0 p.2 p.1) (nS0 : h0.get? S = none) (nw : ∀ b ∈ wr, h0.get? b = none) (hu : A.in1.units + 8 < cLine) :
    ∀ (m i : Nat) (s : Shared), n = i + m → St i s → (∀ b o, h0.get? b = some o → s.heap.get? b = some o) → (∃ L es ep t, Hs w s.heap S L es ep t ∧ Took ps i L) →
      (∀ s' L es ep t, Moved (S :: wr) G s s' → Hs w s'.heap S L es ep t → Took ps n L → (∀ b o, h0.get? b = some o → s'.heap.get? b = some o) → R (.ok (.ret .none)) s') →
      codeAny (model P w) A (.builtin "set.update.loop" ⟨[.ref S, .ref I], []⟩) R s := by
  have nSw : S ∉ wr := fun h => nS (W.sub _ h)
  have wide : ∀ b ∈ wr, b ∈ S :: wr := fun b hb => List.mem_cons_of_mem _ hb
  have stay : ∀ {s s' : Shared}, Moved wr G s s' → (∀ b o, h0.get? b = some o → s.heap.get? b = some o) → ∀ b o, h0.get? b = some o → s'.heap.get? b = some o := fun mv kp b o e =>
    mv.heap b o (fun hb => by rw [nw b hb] at e; cases e) (kp b o e)
  intro m
  induction m with
  | zero =>
    intro i s e st kp ⟨L, es, ep, t, hs, g⟩ q
    obtain rfl : n = i := e
    refine codeAny_builtin PyProof.Rows.F.entry_set_update_loop ?_
    rw [Around.under_plainId PyProof.Rows.F.plain_set_update_loop _]
    refine wpAny_bind (W.done s _ _ st fun s' mv => ?_)
    have kp' := stay mv kp
    exact wpAny_pure (q s' L es ep t (mv.mono wide) (hs.keep (fun o e => mv.heap S o nSw e) fun p hp => nis_keep (tup p (g.sub p hp)) kp') g kp')
  | succ m ih =>
    intro i s e st kp ⟨L, es, ep, t, hs, g⟩ q
    refine codeAny_builtin PyProof.Rows.F.entry_set_update_loop ?_
    rw [Around.under_plainId PyProof.Rows.F.plain_set_update_loop _]
    refine wpAny_bind (W.item i s _ _ (by omega) st fun v s' hP st' mv => ?_)
    obtain ⟨p, hp, rfl⟩ := each i v hP
    have kp' := stay mv kp
    have hs' : Hs w s'.heap S L es ep t := hs.keep (fun o e => mv.heap S o nSw e) fun p hp => nis_keep (tup p (g.sub p hp)) kp'
    have hx : NIs s'.heap p.2 p.1 := nis_keep (tup p (List.mem_of_getElem? hp)) kp'
    show wpAny _ A.in1 (holding [Value.ref p.1] (setAdd S (.ref p.1)) >>= _) _ _ s'
    refine wpAny_bind (wpAny_holding ?_)
    unfold setAdd
    refine wpAny_holding (wpAny_bind ((nestedKind P w).pyHash (k := p.2) hu hx ?_))
    refine put_in (s := { s' with toks := s'.toks + p.2.draws }) hs' hx hu (by have := g.len; omega) fun b h' L' es' ep' t' sb hs2 c1 c2 => ?_
    have g' := g.next hp c1 c2
    have kp2 : ∀ b o, h0.get? b = some o → h'.get? b = some o := fun b o e => (sb.2 b fun z => by rw [z, nS0] at e; cases e).trans (kp' b o e)
    refine wpAny_pure ⟨plainId_quiet PyProof.Rows.F.plain_set_update_loop _, ih (i + 1) _ (by omega) (W.frame _ s' _ _ st' (Nat.le_add_right _ _) fun b hb o e => ?_) kp2 ⟨L', es', ep', t', hs2, g'⟩ fun s2 L2 es2 ep2 t2 mv2 hs3 g2 kp3 => ?_⟩
    · exact (sb.2 b fun z => nS (z ▸ hb)).trans e
    · refine q s2 L2 es2 ep2 t2 (Moved.trans W.gtrans ((mv.mono wide).then_heap (Nat.le_add_right _ _) fun b o hb e => ?_) mv2) hs3 g2 kp3
      exact (sb.2 b fun z => hb (by rw [z]; exact List.mem_cons_self ..)).trans e
/-- what stands behind the making of the set -/
def MadeT (w : World) (s : Shared) (ps : List Ent) (s' : Shared) : Prop := ∃ (g : Heap) (k : Nat) (L : List Ent) (es : Array (Int × Value)) (ep : Nat) (t : SetTable), s' = { s with heap := g, toks := k } ∧ Hs w g s.heap.objs.size L es ep t ∧ Took ps ps.length L ∧ ∀ b ob, s.heap.get? b = some ob → g.get? b = some ob
theorem init_tups {l : Addr} {its : Array Value} {ps : List Ent} (free : A.handled = none) (isL : s.heap.IsList l its) (ee : its.toList = ps.map fun p => Value.ref p.1) (tup : ∀ p ∈ ps, NIs s.heap p.2 p.1) (few : ps.length < 64) (hu : A.units + 12 < cLine) :
    codeAny (model P w) A (.call (.builtin "set.__init__") ⟨[.ref s.heap.objs.size, .ref l], []⟩) (wants (fun r s' => r = .none ∧ MadeT w s ps s') E) { s with heap := s.heap.push (set0 w) } := by
  have at0 : (s.heap.push (set0 w)).get? s.heap.objs.size = some (set0 w) := Heap.get?_push_size _ rfl
  have ty0 : Shared.TypeIs { s with heap := s.heap.push (set0 w) } (.ref s.heap.objs.size) "set" := ⟨_, at0, rfl⟩
  have size : its.size = ps.length := by
    rw [← Array.length_toList, ee, List.length_map]
  refine codeAny_call_builtin PySem.F.called_set.init.plain PySem.F.entry_set_init (check_set_init_1 ty0 ?_)
  obtain ⟨⟨cl, dc, dt, sl⟩, atL, hc, n, hd⟩ := isL
  obtain rfl : cl = .type "list" := hc
  obtain rfl : dt = .seq its n := hd
  have atL' := Heap.get?_push_of_some (set0 w) atL
  have a1 := PySem.F.sub_list_set
  have a2 := PySem.F.sub_list_frozenset
  have a3 : (Value.type "list" == Value.type "dict") = false := by decide
  have isL' : (s.heap.push (set0 w)).IsList l its := ⟨_, atL', rfl, n, rfl⟩
  unfold Builtin.«set.__init__» noKeywords Builtin.Frozenset.updateFrom
  generalize it : pyIter = pit
  wp_walk
  subst it
  refine wpAny_pyIter_list isL' (wpAny_bind (wpAny_runValue ?_))
  have low : l < s.heap.objs.size := Heap.lt_size atL
  have sz : (s.heap.push (set0 w)).objs.size = s.heap.objs.size + 1 := Heap.size_push ..
  have ne1 : l ≠ (s.heap.push (set0 w)).objs.size := by
    rw [sz]
    exact Nat.ne_of_lt (Nat.lt_succ_of_lt low)
  have ne2 : s.heap.objs.size ∉ [(s.heap.push (set0 w)).objs.size, l] := by
    rw [sz]
    intro bad
    rcases List.mem_cons.mp bad with z | z
    · exact Nat.succ_ne_self _ z.symm
    · exact Nat.lt_irrefl _ (List.mem_singleton.mp z ▸ low)
  have gone : ∀ b, s.heap.objs.size ≤ b → s.heap.get? b = none := fun b hb => by
    cases q : s.heap.get? b with
    | none => rfl
    | some o => exact absurd (Nat.lt_of_lt_of_le (Heap.lt_size q) hb) (Nat.lt_irrefl _)
  have each : ∀ (i : Nat) (v : Value), its[i]? = some v → ∃ p, ps[i]? = some p ∧ v = .ref p.1 := by
    intro i v hv
    rw [← Array.getElem?_toList, ee, List.getElem?_map] at hv
    obtain ⟨p, h1, h2⟩ := Option.map_eq_some_iff.mp hv
    exact ⟨p, h1, h2.symm⟩
  have calm : A.in1.in1.handled = none := free
  refine fill (h0 := s.heap) ((Walks.list calm _ l ne1 its).toS) ne2 size few each tup (gone _ (Nat.le_refl _)) (fun b hb => gone b (by rw [List.mem_singleton.mp hb, sz]; exact Nat.le_succ _)) (by show A.units + 1 + 1 + 8 < cLine; omega) its.size 0 _ (Nat.zero_add _).symm
    ⟨⟨_, Heap.get?_push_size _ rfl, rfl, rfl⟩, isL'.push _⟩ (fun b o e => Heap.get?_push_of_some _ (Heap.get?_push_of_some _ e)) ⟨[], #[], 0, _, hs_new (Heap.get?_push_of_some _ at0), ⟨fun _ h => (by cases h), fun _ h => (by simp at h), Nat.le_refl _⟩⟩ ?_
  rintro ⟨g, gs, dr, k, os⟩ L es ep t mv hs g2 kp
  obtain rfl : gs = s.gens := mv.gens
  obtain rfl : dr = s.drawn := mv.drawn
  obtain rfl : os = s.os := mv.os
  exact wpAny_pure (wpAny_pure ⟨rfl, g, k, L, es, ep, t, rfl, hs, size ▸ g2, kp⟩)
/-- set(xs), xs a list of tuples -/
theorem set_tups {l : Addr} {its : Array Value} {ps : List Ent} {Q : Value → Shared → Prop} (free : A.handled = none) (isL : s.heap.IsList l its) (ee : its.toList = ps.map fun p => Value.ref p.1) (tup : ∀ p ∈ ps, NIs s.heap p.2 p.1) (few : ps.length < 64) (hu : A.units + 16 < cLine)
    (fin : ∀ s', MadeT w s ps s' → Q (.ref s.heap.objs.size) s') : wpAny (model P w) A (call (.type "set") [.ref l]) Q E s := by
  obtain ⟨c, tl, mro⟩ := PySem.F.called_set.mro
  have b1 := PySem.F.called_set.made
  have b2 := PySem.F.called_set.sub
  have b3 := PySem.F.called_set.notType
  have b4 := PySem.F.called_set.canCreate
  have b5 := PySem.F.typeCall_set_1 (.ref l)
  refine wpAny_call (codeAny_of_tree (show wpAny _ _ (callAny (.type "set") _) _ _ _ from wpAny_pure ⟨Code.quiet_builtin _ (by decide +kernel), codeAny_builtin PySem.F.entry_type_call ?_⟩))
  rw [Around.under_plain (weight_type_call_type "set" [.ref l] []) rfl]
  repeat (any_goals (first | assumption | wp_step))
  refine codeAny_mono (code_set_led1 (.ref l) (E := E) (Q₁ := fun ob s1 => ob = .ref s.heap.objs.size ∧ s1 = { s with heap := s.heap.push (set0 w) }) ⟨rfl, rfl⟩) fun r s1 hr => ?_
  rcases r with er | fl
  · exact hr
  rcases fl with _ | _ | _ | ob
  all_goals first | exact hr.elim | skip
  obtain ⟨rfl, rfl⟩ := hr
  have at0 : (s.heap.push (set0 w)).get? s.heap.objs.size = some (set0 w) := Heap.get?_push_size _ rfl
  have ty0 : Shared.TypeIs { s with heap := s.heap.push (set0 w) } (.ref s.heap.objs.size) "set" := ⟨_, at0, rfl⟩
  have b6 := PySem.F.called_set.init.lookup
  have b7 := PySem.F.called_set.init.bind (.ref s.heap.objs.size)
  repeat (any_goals (first | assumption | wp_step))
  refine codeAny_mono (init_tups (E := E) (ps := ps) free isL ee tup few (by show A.units + 1 + 12 < cLine; omega)) fun r s2 hr => ?_
  rcases r with er | fl
  · exact hr
  rcases fl with _ | _ | _ | v
  all_goals first | exact hr.elim | skip
  obtain ⟨rfl, made⟩ := hr
  repeat (any_goals (first | assumption | wp_step))
  exact fin _ made
end
end Sb
/-! ## S5 -/
set_option Elab.async false
set_option linter.all false
set_option maxRecDepth 100000
set_option maxHeartbeats 6000000
namespace Tl
open PySem PySem.Spec PyProof.Rows PySem.Calls L2 He Vx
mutual
/-- the key that d is -/
def D.key : D → Option NestedKey
  | .non => some .none
  | .bl b => some (.num (if b = true then 1 else 0))
  | .int i => some (.num i)
  | .str x => some (.text x)
  | .tup l => (D.keys l).map .tup
  | _ => none
def D.keys : List D → Option (List NestedKey)
  | [] => some []
  | d :: l => (D.key d).bind fun k => (D.keys l).map fun ks => k :: ks
end
section
variable {X : Cx} {pins : List (Addr × Obj)} {σ : L2.St} {H : Hp} {s : Shared}
mutual
theorem DR.nis (I : L2.Inv X pins σ H s) : ∀ {v : V} {d : D} {u : Value} {k : NestedKey}, DR X.K H v d → d.key = some k → RelV v u → NestedIs s.heap k u
  | _, _, _, _, .non, e, r => by
    cases e
    cases r
    exact .none
  | _, _, _, _, .bl b, e, r => by
    cases e
    cases r
    exact .bool rfl
  | _, _, _, _, .int i, e, r => by
    cases e
    obtain ⟨t, rfl⟩ := r
    exact .int i t
  | _, _, _, _, .str x, e, r => by
    cases e
    obtain ⟨t, rfl⟩ := r
    exact .text x t
  | _, _, _, _, .tup (ds := ds) h g, e, r => by
    cases r
    obtain ⟨ks, e1, rfl⟩ := Option.map_eq_some_iff.mp (show (D.keys ds).map NestedKey.tup = some _ from e)
    obtain ⟨its, rv, ⟨o, ho, hc, n, hd⟩, _⟩ := I.tuple (SqT.of h)
    exact .tup ho hc hd (by simpa using DRs.nis I g e1 rv)
  | _, _, _, _, .tup0 h, e, r => by
    cases r
    cases e
    obtain ⟨its, rv, ⟨o, ho, hc, n, hd⟩, _⟩ := I.tuple (sqT_lift h)
    cases rv
    exact .tup ho hc hd .nil
  | _, _, _, _, .lst _ _, e, _ => by cases e
  | _, _, _, _, .dK _ _, e, _ => by cases e
  | _, _, _, _, .dT _ _, e, _ => by cases e
  | _, _, _, _, .box _ _ _, e, _ => by cases e
theorem DRs.nis (I : L2.Inv X pins σ H s) : ∀ {vs : List V} {ds : List D} {us : List Value} {ks : List NestedKey}, DRs X.K H vs ds → D.keys ds = some ks → Vals vs us → NestedAll s.heap ks us
  | _, _, _, _, .nil, e, r => by
    cases e
    cases r
    exact .nil
  | _, _, _, _, .cons (d := d) (ds := ds) a b, e, r => by
    cases r with
    | cons r1 r2 =>
    obtain ⟨k, e1, e2⟩ := Option.bind_eq_some_iff.mp (show (D.key d).bind (fun k => (D.keys ds).map fun ks => k :: ks) = some _ from e)
    obtain ⟨ks, e3, rfl⟩ := Option.map_eq_some_iff.mp e2
    exact .cons (DR.nis I a e1 r1) (DRs.nis I b e3 r2)
end
end
/-- the set at a holds the tuples L -/
def SetH (w : World) (a : Addr) (L : List Sb.Ent) : HO := .ext fun h => ∃ (es : Array (Int × Value)) (ep : Nat) (t : SetTable), (∃ o, h.get? a = some o ∧ o.ExactSet ∧ o.data = .set es ep t) ∧ Sb.Tb w L es t
theorem setH_new {P : Program} {w : World} {H : Hp} {h : Heap} {a : Addr} {L : List Sb.Ent} {es : Array (Int × Value)} {ep : Nat} {t : SetTable} (R : Sb.Hs w h a L es ep t) : ObjOk P w H h a (SetH w a L) := by
  obtain ⟨o, ho, r⟩ := R.ob
  exact ⟨⟨es, ep, t, ⟨o, ho, r⟩, R.tb⟩, ⟨o, ho⟩, fun h1 h2 ⟨es, ep, t, ⟨o, ho, r⟩, T⟩ k => ⟨es, ep, t, ⟨o, k o ho, r⟩, T⟩⟩
/-- set(xs), xs a list of tuples -/
def rSetT (K : PySem.W.Frag) (w : World) : List V → Hp → VK → Prop := fun vs H Q => ∃ (a : Addr) (ps : List Sb.Ent), vs = [.ref a] ∧ SqL K H a (ps.map fun p => V.ref p.1) ∧ (∀ p ∈ ps, ∃ d, DR K H (.ref p.1) d ∧ d.key = some p.2 ∧ p.2.depth ≤ 8) ∧ ps.length < 64 ∧
  ∀ q L, H q = none → (∀ p ∈ L, p ∈ ps) → (∀ p ∈ ps, p.2 ∈ L.map Prod.snd) → (L.map Prod.snd).Nodup → Q (.ref q) (upd H q (SetH w q L))
theorem cr_setT {X : Cx} (hc : X.calm = true) (hu : X.A.units + 64 < cLine) : CallR X (.type "set") (rSetT X.K X.w) := by
  intro pins s σ H vs us Q I r h
  obtain ⟨a, ps, rfl, sq, tp, few, q⟩ := h
  obtain ⟨u, rfl, ru⟩ := vals1 r
  obtain rfl : u = Value.ref a := ru
  obtain ⟨its, rel, pl, _⟩ := I.list sq
  have refs : ∀ {ps : List Sb.Ent} {us : List Value}, Vals (ps.map fun p => V.ref p.1) us → us = ps.map fun p => Value.ref p.1 := by
    intro ps
    induction ps with
    | nil =>
      intro us r
      cases r
      rfl
    | cons p ps ih =>
      intro us r
      cases r with
      | cons r1 r2 =>
      cases r1
      rw [ih r2]
      rfl
  refine Sb.set_tups (its := its.toArray) (ps := ps) (I.ok.hd hc) pl.isList (by simpa using refs rel) (fun p hp => ?_) few (by omega) fun s' made => ?_
  · obtain ⟨d, h1, h2, h3⟩ := tp p hp
    exact ⟨h1.nis I h2 rfl, h3⟩
  · obtain ⟨g, k, L, es, ep, t, rfl, R, tk, keep⟩ := made
    exact ⟨.ref s.heap.objs.size, _, I.laid (t' := k) keep (Nat.le_refl _) (setH_new R), rfl, q _ L (I.hok.fresh (Nat.le_refl _)) tk.sub (fun p hp => tk.all p (by rw [List.take_length]; exact hp)) R.tb.nd⟩
/-- sorted(set) -/
def rSortH (K : PySem.W.Frag) (w : World) : List V → Hp → VK → Prop := fun vs H Q => ∃ (a : Addr) (L : List Sb.Ent) (enc : Sb.Ent → PyData), vs = [V.ref a] ∧ H a = some (SetH w a L) ∧ (∀ b ∈ L, Da K H (.ref b.1) (enc b)) ∧
  PySem.W.AllAlike (L.map enc) ∧ PySem.W.Sortable (L.map enc) ∧ (∀ b ∈ L, (enc b).depth ≤ 20) ∧ ∀ (p : Addr) (L1 : List Sb.Ent), H p = none → L1.Perm L → Q (.ref p) (upd H p (.lst ((L1.mergeSort (PySem.W.dataLe false enc)).map fun b => V.ref b.1)))
theorem perm_back {α β : Type} (f : α → β) : ∀ (L : List α) (out : List β), out.Perm (L.map f) → ∃ L1 : List α, L1.Perm L ∧ out = L1.map f := by
  intro L
  induction L with
  | nil =>
    intro out h
    exact ⟨[], List.Perm.refl _, by rw [List.map_nil] at h; rw [h.eq_nil, List.map_nil]⟩
  | cons x L ih =>
    intro out h
    have hm : f x ∈ out := h.mem_iff.mpr (List.mem_cons_self ..)
    obtain ⟨as, bs, e⟩ := List.append_of_mem hm
    subst e
    have h2 : (as ++ bs).Perm (L.map f) := (List.perm_cons (f x)).mp (List.perm_middle.symm.trans h)
    obtain ⟨L1, p1, e1⟩ := ih _ h2
    obtain ⟨c1, c2, e2, e3, e4⟩ := List.map_eq_append_iff.mp e1.symm
    subst e2
    exact ⟨c1 ++ x :: c2, List.perm_middle.trans (List.Perm.cons x p1), by rw [List.map_append, List.map_cons, e3, e4]⟩
theorem cr_sortH {X : Cx} (hc : X.calm = true) (hu : X.A.units + 64 < cLine) : CallR X (.builtin "sorted") (rSortH X.K X.w) := by
  intro pins s σ H vs us Q I r h
  obtain ⟨a, L, enc, rfl, ha, good, al, srt, dep, q⟩ := h
  obtain ⟨u, rfl, ru⟩ := vals1 r
  obtain rfl : u = Value.ref a := ru
  obtain ⟨es, ep, t, ⟨o, ho, hex, hd⟩, T⟩ := (I.hok a _ ha).1
  have small : L.length ≤ sizeLine := by have := T.few; rw [sizeLine_eq]; omega
  refine call_function_entry kind_sorted plain_sorted entry_sorted (args_sorted1 _) ?_
  unfold Builtin.«sorted»
  refine wpAny_bind (m := checkCount "sorted" 1 1 _) (wpAny_pure ?_)
  have hh : X.A.in1.handled = none := I.ok.hd hc
  refine wpAny_bind (collect_set (A := X.A.in1) hh ⟨o, ho, hex.1, hd⟩ T.fits (by have := T.few; have := T.size; unfold scanBound; omega) T.tab.ris T.led fun s1 out k1 z1 g1 o1 pm => ?_)
  have hes : es.toList.map (·.2) = L.map fun b => Value.ref b.1 := by
    rw [T.rows, Sb.rowsE, List.map_map]
    rfl
  rw [hes] at pm
  obtain ⟨L1, pL, rfl⟩ := perm_back (fun b : Sb.Ent => Value.ref b.1) L out pm
  have l1 : L1.length = L.length := pL.length_eq
  have lv : (L1.map fun b => Value.ref b.1).length ≤ sizeLine := by rw [List.length_map, l1]; exact small
  refine wpAny_bind (wpAny_newList ?_ lv)
  have old2 : ∀ b ob, s.heap.get? b = some ob → (s1.heap.push (seqObj "list" (L1.map fun b => Value.ref b.1).toArray 0)).get? b = some ob := fun b ob z => Heap.get?_push_of_some _ (k1 b ob z)
  have new : (s1.heap.push (seqObj "list" (L1.map fun b => Value.ref b.1).toArray 0)).get? s1.heap.objs.size = some (seqObj "list" (L1.map fun b => Value.ref b.1).toArray 0) := Heap.get?_push_size _ rfl
  have reads : ∀ M : List Sb.Ent, (∀ b ∈ M, b ∈ L) → PySem.W.EachIs (fun v b => ∃ as, Reads (s1.heap.push (seqObj "list" (L1.map fun b => Value.ref b.1).toArray 0)) v (enc b) as ∧ s1.heap.objs.size ∉ as) (M.map fun b => Value.ref b.1) M := by
    intro M
    induction M with
    | nil => exact fun _ => .nil
    | cons b M ih =>
      intro hM
      obtain ⟨as, rd⟩ := Da.reads I (good b (hM b (List.mem_cons_self ..))) rfl
      refine .cons ⟨as, PyProof.Rows.Reads.keeps old2 rd, fun bad => ?_⟩ (ih fun c hc => hM c (List.mem_cons_of_mem _ hc))
      obtain ⟨ob, z⟩ := PyProof.On.reads_mem_get rd _ bad
      exact absurd (Nat.lt_of_lt_of_le (Heap.lt_size z) z1) (Nat.lt_irrefl _)
  have sub : ∀ b ∈ L1, b ∈ L := fun b hb => pL.mem_iff.mp hb
  have vals : ∀ M : List Sb.Ent, PySem.W.EachIs (fun v b => v = Value.ref b.1) (M.map fun b => Value.ref b.1) M := by
    intro M
    induction M with
    | nil => exact .nil
    | cons b M ih => exact .cons rfl ih
  refine wpAny_bind (wpAny_holding ?_)
  refine PySem.W.list_sort_data (R := fun v (b : Sb.Ent) => v = Value.ref b.1) (vs := L1.map fun b => Value.ref b.1) (bs := L1) (enc := enc) (n := 0) new (vals L1) (reads L1 sub) (fun d hd e he => ?_) ?_ (by rw [l1]; exact small) (fun b hb => ?_) fun out len each => ?_
  · exact al d ((pL.map enc).mem_iff.mp hd) e ((pL.map enc).mem_iff.mp he)
  · rcases srt with srt | srt
    · exact .inl fun d hd => srt d ((pL.map enc).mem_iff.mp hd)
    · exact .inr fun d hd => srt d ((pL.map enc).mem_iff.mp hd)
  · have z := dep b (sub b hb)
    show X.A.in1.units + 1 + (enc b).depth < cLine
    show X.A.units + 1 + 1 + (enc b).depth < cLine
    omega
  · obtain ⟨ep2, fin⟩ := PyProof.Rows.sortedHeap_at (vs := L1.map fun b => Value.ref b.1) (out := out.toArray) new
    have eo : ∀ {us : List Value} {M : List Sb.Ent}, PySem.W.EachIs (fun v b => v = Value.ref b.1) us M → us = M.map fun b => Value.ref b.1 := by
      intro us M h
      induction h with
      | nil => rfl
      | cons h _ ih => rw [h, ih]; rfl
    have e1 := eo each
    have vv : ∀ M : List Sb.Ent, Vals (M.map fun b => V.ref b.1) (M.map fun b => Value.ref b.1) := by
      intro M
      induction M with
      | nil => exact .nil
      | cons b M ih => exact .cons rfl ih
    generalize hM : L1.mergeSort (PySem.W.dataLe false enc) = M at each e1
    have pM : M.Perm L1 := hM ▸ List.mergeSort_perm _ _
    have hn : H s1.heap.objs.size = none := I.hok.fresh z1
    have kk : ∀ b ob, s.heap.get? b = some ob → (PyProof.Rows.sortedHeap (s1.heap.push (seqObj "list" (L1.map fun b => Value.ref b.1).toArray 0)) s1.heap.objs.size (L1.map fun b => Value.ref b.1) out.toArray).get? b = some ob := fun b ob z => by
      have y := old2 b ob z
      have z2 := k1 b ob z
      exact (PyProof.Rows.sortedHeap_old (Nat.ne_of_lt (Heap.lt_size z2)) (Heap.lt_size y)).trans y
    generalize PyProof.Rows.sortedHeap (s1.heap.push (seqObj "list" (L1.map fun b => Value.ref b.1).toArray 0)) s1.heap.objs.size (L1.map fun b => Value.ref b.1) out.toArray = g at fin kk
    have J : L2.Inv X pins σ (upd H s1.heap.objs.size (.lst (M.map fun b => V.ref b.1))) { s with heap := g, gens := s1.gens, drawn := s1.drawn, toks := s1.toks } :=
      I.call (ch := []) (Un.laid kk z1 hn) (I.hok.laid kk z1 ⟨by rw [List.length_map, pM.length_eq, l1]; exact small, out, ep2, by rw [e1]; exact vv M, fin⟩) (by rw [g1]; exact I.bare) (fun _ z => nomatch z)
    have qq := q _ L1 hn pL
    rw [hM] at qq
    exact wpAny_pure ⟨_, rfl, .ref s1.heap.objs.size, _, (o1 ▸ J), rfl, qq⟩
end Tl
/-! ## T5 -/
set_option Elab.async false
set_option linter.all false
set_option maxRecDepth 100000
set_option maxHeartbeats 4000000
/-! what the operators do to plain data -/
namespace Tl
open PySem PySem.Spec PyProof.Rows L2 He Vx
section
variable {K : PySem.W.Frag} {W : List Addr} {H : Hp} {v : V} {l : List D}
theorem DR.lst_of (r : DR K (msk W H) v (.lst l)) : ∃ a xs, v = .ref a ∧ H a = some (.lst xs) ∧ a ∉ W ∧ DRs K (msk W H) xs l := by
  cases r with
  | lst h g => exact ⟨_, _, rfl, (mk_some h).2, (mk_some h).1, g⟩
theorem DR.tup_of (r : DR K (msk W H) v (.tup l)) : ∃ a xs, v = .ref a ∧ SqT K H a xs ∧ DRs K (msk W H) xs l := by
  cases r with
  | tup h g => exact ⟨_, _, rfl, SqT.of (mk_some h).2, g⟩
  | tup0 h => exact ⟨_, _, rfl, sqT_lift h, .nil⟩
theorem DR.dK_of {ks : List L2.Key} (r : DR K (msk W H) v (.dK ks l)) : ∃ a kvs, v = .ref a ∧ H a = some (.dK kvs) ∧ a ∉ W ∧ kvs.map Prod.fst = ks ∧ DRs K (msk W H) (kvs.map Prod.snd) l := by
  cases r with
  | dK h g => exact ⟨_, _, rfl, (mk_some h).2, (mk_some h).1, rfl, g⟩
theorem DR.dT_of {ks : List (List L2.Key)} (r : DR K (msk W H) v (.dT ks l)) : ∃ a kvs, v = .ref a ∧ H a = some (.dT kvs) ∧ a ∉ W ∧ kvs.map Prod.fst = ks ∧ DRs K (msk W H) (kvs.map Prod.snd) l := by
  cases r with
  | dT h g => exact ⟨_, _, rfl, (mk_some h).2, (mk_some h).1, rfl, g⟩
theorem DR.box_of {n : Int} {s : List Int} {m : List Mv} (r : DR K (msk W H) v (.box n s m)) : ∃ a dx p q, v = .ref a ∧ H a = some (.ins (ga K "Box") dx (bxF n p q)) ∧ DR K (msk W H) (.ref p) (.lst (s.map D.int)) ∧ DR K (msk W H) (.ref q) (.lst (m.map mvD)) := by
  cases r with
  | box h g f => exact ⟨_, _, _, _, rfl, (mk_some h).2, g, f⟩
end
/-! ### pure data: ints, texts, None, lists and tuples of them -/
mutual
def D.pure : D → Bool
  | .non => true
  | .int _ => true
  | .str x => PyData.strOk x
  | .lst l => D.pures l
  | .tup l => D.pures l
  | _ => false
def D.pures : List D → Bool
  | [] => true
  | d :: l => D.pure d && D.pures l
end
theorem pures_all : ∀ l : List D, D.pures l = l.all D.pure
  | [] => rfl
  | d :: l => by rw [D.pures, List.all_cons, pures_all l]
theorem pures_mem {l : List D} (h : ∀ d ∈ l, d.pure = true) : D.pures l = true := by
  rw [pures_all, List.all_eq_true]
  exact h
theorem pures_of {l : List D} (h : D.pures l = true) : ∀ d ∈ l, d.pure = true := by
  rw [pures_all, List.all_eq_true] at h
  exact h
mutual
theorem D.plain_of : ∀ d : D, d.pure = true → d.plain = true
  | .non, _ => rfl
  | .bl _, e => by cases e
  | .int _, _ => rfl
  | .str _, _ => rfl
  | .lst l, e => D.plains_of l e
  | .tup l, e => D.plains_of l e
  | .dK _ _, e => by cases e
  | .dT _ _, e => by cases e
  | .box _ _ _, e => by cases e
theorem D.plains_of : ∀ l : List D, D.pures l = true → D.plains l = true
  | [], _ => rfl
  | d :: l, e => by
    rw [D.pures, Bool.and_eq_true] at e
    rw [D.plains, D.plain_of d e.1, D.plains_of l e.2]
    rfl
end
mutual
theorem D.lay_of : ∀ d : D, d.pure = true → d.py.canLay0 = true
  | .non, _ => by simp only [D.py, PyData.canLay0]
  | .bl _, e => by cases e
  | .int _, _ => by simp only [D.py, PyData.canLay0]
  | .str x, e => by
    simp only [D.py, PyData.canLay0]
    exact e
  | .lst l, e => by
    simp only [D.py, PyData.canLay0]
    exact D.lays_of l e
  | .tup l, e => by
    simp only [D.py, PyData.canLay0]
    exact D.lays_of l e
  | .dK _ _, e => by cases e
  | .dT _ _, e => by cases e
  | .box _ _ _, e => by cases e
theorem D.lays_of : ∀ l : List D, D.pures l = true → PyData.canLayAll0 (D.pys l) = true
  | [], _ => by simp only [D.pys, PyData.canLayAll0]
  | d :: l, e => by
    rw [D.pures, Bool.and_eq_true] at e
    simp only [D.pys, PyData.canLayAll0]
    rw [D.lay_of d e.1, D.lays_of l e.2]
    rfl
end
mutual
theorem D.eqv_iff : ∀ d e : D, d.pure = true → e.pure = true → (PyData.eqv d.py e.py = true ↔ d = e)
  | .non, e, _, h => by cases e <;> first | (simp [D.py, PyData.eqv]; done) | cases h
  | .bl _, _, h, _ => by cases h
  | .int i, e, _, h => by cases e <;> first | (simp [D.py, PyData.eqv]; done) | cases h
  | .str x, e, _, h => by cases e <;> first | (simp [D.py, PyData.eqv]; done) | cases h
  | .lst l, e, h, g => by
    cases e with
    | lst m =>
      simp only [D.py, PyData.eqv, D.lst.injEq]
      exact D.eqvs_iff l m h g
    | _ => first | (simp [D.py, PyData.eqv]; done) | cases g
  | .tup l, e, h, g => by
    cases e with
    | tup m =>
      simp only [D.py, PyData.eqv, D.tup.injEq]
      exact D.eqvs_iff l m h g
    | _ => first | (simp [D.py, PyData.eqv]; done) | cases g
  | .dK _ _, _, h, _ => by cases h
  | .dT _ _, _, h, _ => by cases h
  | .box _ _ _, _, h, _ => by cases h
theorem D.eqvs_iff : ∀ l m : List D, D.pures l = true → D.pures m = true → (PyData.eqvAll (D.pys l) (D.pys m) = true ↔ l = m)
  | [], [], _, _ => by simp [D.pys, PyData.eqvAll]
  | [], _ :: _, _, _ => by simp [D.pys, PyData.eqvAll]
  | _ :: _, [], _, _ => by simp [D.pys, PyData.eqvAll]
  | d :: l, e :: m, h, g => by
    rw [D.pures, Bool.and_eq_true] at h g
    simp only [D.pys, PyData.eqvAll, Bool.and_eq_true, List.cons.injEq]
    rw [D.eqv_iff d e h.1 g.1, D.eqvs_iff l m h.2 g.2]
end
/-- .. of a known depth -/
structure Pu (d : D) : Prop where
  pu : d.pure = true
  dp : d.py.depth ≤ 64
theorem Pu.shaped {d : D} (h : Pu d) : SeqAt.shaped d.py = true := by
  unfold SeqAt.shaped
  rw [D.lay_of d h.pu, decide_eq_true h.dp]
  rfl
theorem pu_int (i : Int) : Pu (.int i) := ⟨rfl, by simp only [D.py, PyData.depth]; omega⟩
theorem pu_str {x : Str} (h : PyData.strOk x = true) : Pu (.str x) := ⟨h, by simp only [D.py, PyData.depth]; omega⟩
section
variable {c : C1} {k : D → Prop}
theorem od_ii {g : Int → Int → Int} {i j : Int} (hk : k (.int (g i j))) : OpD c (rI0 fun i j => .int (g i j)) (.int i) (.int j) k := fun H0 own H v w Q b rv rw q => by
  cases rv
  cases rw
  exact ⟨i, j, rfl, rfl, q _ _ H hk Stay.refl (.int _)⟩
theorem od_ib {g : Int → Int → Bool} {i j : Int} (hk : k (.bl (g i j))) : OpD c (rI0 fun i j => .bl (g i j)) (.int i) (.int j) k := fun H0 own H v w Q b rv rw q => by
  cases rv
  cases rw
  exact ⟨i, j, rfl, rfl, q _ _ H hk Stay.refl (.bl _)⟩
theorem od_iic {C : Int → Int → Prop} {g : Int → Int → Int} {i j : Int} (hc : C i j) (hk : k (.int (g i j))) : OpD c (rI C fun i j => .int (g i j)) (.int i) (.int j) k := fun H0 own H v w Q b rv rw q => by
  cases rv
  cases rw
  exact ⟨i, j, rfl, rfl, hc, q _ _ H hk Stay.refl (.int _)⟩
theorem od_eqi {i j : Int} (hk : k (.bl (decide (i = j)))) : OpD c rEq (.int i) (.int j) k := fun H0 own H v w Q b rv rw q => by
  cases rv
  cases rw
  refine ⟨rfl, q _ _ H hk Stay.refl ?_⟩
  rw [show decide (V.int i = V.int j) = decide (i = j) from by simp]
  exact .bl _
theorem od_nei {i j : Int} (hk : k (.bl (!decide (i = j)))) : OpD c rNe (.int i) (.int j) k := fun H0 own H v w Q b rv rw q => by
  cases rv
  cases rw
  refine ⟨rfl, q _ _ H hk Stay.refl ?_⟩
  rw [show decide (V.int i = V.int j) = decide (i = j) from by simp]
  exact .bl _
theorem od_eqs {i j : Str} (hk : k (.bl (decide (i = j)))) : OpD c rEq (.str i) (.str j) k := fun H0 own H v w Q b rv rw q => by
  cases rv
  cases rw
  refine ⟨rfl, q _ _ H hk Stay.refl ?_⟩
  rw [show decide (V.str i = V.str j) = decide (i = j) from by simp]
  exact .bl _
theorem od_nes {i j : Str} (hk : k (.bl (!decide (i = j)))) : OpD c rNe (.str i) (.str j) k := fun H0 own H v w Q b rv rw q => by
  cases rv
  cases rw
  refine ⟨rfl, q _ _ H hk Stay.refl ?_⟩
  rw [show decide (V.str i = V.str j) = decide (i = j) from by simp]
  exact .bl _
/-- is it None -/
def D.isNon : D → Bool
  | .non => true
  | _ => false
theorem DR.isNon {K : PySem.W.Frag} {H : Hp} {v : V} {d : D} (r : DR K H v d) : decide (v = .non) = d.isNon := by
  cases r <;> simp [D.isNon]
theorem od_isN {x : D} (hk : k (.bl x.isNon)) : OpD c (fun x y H Q => y = .non ∧ Q (.bl (decide (x = .non))) H) x .non k := fun H0 own H v w Q b rv rw q => by
  cases rw
  refine ⟨rfl, ?_⟩
  rw [rv.isNon]
  exact q _ _ H hk Stay.refl (.bl _)
theorem od_notN {x : D} (hk : k (.bl (!x.isNon))) : OpD c (fun x y H Q => y = .non ∧ Q (.bl (!decide (x = .non))) H) x .non k := fun H0 own H v w Q b rv rw q => by
  cases rw
  refine ⟨rfl, ?_⟩
  rw [rv.isNon]
  exact q _ _ H hk Stay.refl (.bl _)
/-! equal, in -/
theorem od_eqD {x y : D} (hx : Pu x) (hy : Pu y) (hk : ∀ b : Bool, (b = true ↔ x = y) → k (.bl b)) : OpD c (rEqD c.K) x y k := fun H0 own H v w Q b rv rw q =>
  ⟨x.py, y.py, (rv.mono mk_all).dp (D.plain_of x hx.pu), (rw.mono mk_all).dp (D.plain_of y hy.pu), hx.shaped, hy.shaped, q _ _ H (hk _ (D.eqv_iff x y hx.pu hy.pu)) Stay.refl (.bl _)⟩
theorem od_neD {x y : D} (hx : Pu x) (hy : Pu y) (hk : ∀ b : Bool, (b = true ↔ x = y) → k (.bl (!b))) : OpD c (rNeD c.K) x y k := fun H0 own H v w Q b rv rw q =>
  ⟨x.py, y.py, (rv.mono mk_all).dp (D.plain_of x hx.pu), (rw.mono mk_all).dp (D.plain_of y hy.pu), hx.shaped, hy.shaped, q _ _ H (hk _ (D.eqv_iff x y hx.pu hy.pu)) Stay.refl (.bl _)⟩
theorem any_eqv {x : D} {l : List D} (hx : x.pure = true) (hl : D.pures l = true) : (((D.pys l).any fun z => PyData.eqv z x.py) = true ↔ x ∈ l) := by
  rw [pys_map, List.any_map, List.any_eq_true]
  constructor
  · rintro ⟨z, hz, e⟩
    have := (D.eqv_iff z x (pures_of hl z hz) hx).mp e
    exact this ▸ hz
  · intro h
    exact ⟨x, h, (D.eqv_iff x x hx hx).mpr rfl⟩
theorem od_inD {x : D} {l : List D} (hx : Pu x) (hl : Pu (.lst l)) (hk : ∀ b : Bool, (b = true ↔ x ∈ l) → k (.bl b)) : OpD c (rInD c.K) x (.lst l) k := fun H0 own H v w Q b rv rw q =>
  ⟨x.py, D.pys l, (rv.mono mk_all).dp (D.plain_of x hx.pu), (rw.mono mk_all).dp (D.plain_of _ hl.pu), hx.shaped, hl.shaped, q _ _ H (hk _ (any_eqv hx.pu hl.pu)) Stay.refl (.bl _)⟩
theorem od_notInD {x : D} {l : List D} (hx : Pu x) (hl : Pu (.lst l)) (hk : ∀ b : Bool, (b = true ↔ x ∈ l) → k (.bl (!b))) : OpD c (rNotInD c.K) x (.lst l) k := fun H0 own H v w Q b rv rw q =>
  ⟨x.py, D.pys l, (rv.mono mk_all).dp (D.plain_of x hx.pu), (rw.mono mk_all).dp (D.plain_of _ hl.pu), hx.shaped, hl.shaped, q _ _ H (hk _ (any_eqv hx.pu hl.pu)) Stay.refl (.bl _)⟩
/-! sequences -/
theorem drs_at {K : PySem.W.Frag} {H : Hp} {xs : List V} {l : List D} {i : Int} {d : D} (r : DRs K H xs l) (e : atI l i = some d) : ∃ v, atI xs i = some v ∧ DR K H v d := by
  unfold atI at *
  rw [r.len]
  cases h : ixN l.length i with
  | none => rw [h] at e; cases e
  | some j =>
    rw [h] at e
    exact r.get e
theorem od_ixL {l : List D} {i : Int} {d : D} (e : atI l i = some d) (hk : k d) : OpD c (rIxL c.K) (.lst l) (.int i) k := fun H0 own H v w Q b rv rw q => by
  cases rw
  obtain ⟨a, xs, rfl, ha, _, r⟩ := rv.lst_of
  obtain ⟨u, e1, r1⟩ := drs_at r e
  exact ⟨a, xs, i, u, rfl, rfl, SqL.of ha, e1, q _ _ H hk Stay.refl r1⟩
theorem od_ixT {l : List D} {i : Int} {d : D} (e : atI l i = some d) (hk : k d) : OpD c (rIxT c.K) (.tup l) (.int i) k := fun H0 own H v w Q b rv rw q => by
  cases rw
  obtain ⟨a, xs, rfl, ha, r⟩ := rv.tup_of
  obtain ⟨u, e1, r1⟩ := drs_at r e
  exact ⟨a, xs, i, u, rfl, rfl, ha, e1, q _ _ H hk Stay.refl r1⟩
/-- a tuple that is new, as it is laid -/
theorem laidT {H0 H : Hp} {own : List Addr} {a : Addr} {xs : List V} {l : List D} {Q : VK} (b : Base c H0 own H) (n : H a = none) (hk : k (.tup l)) (r : DRs c.K (msk (c.W ++ own) H) xs l)
    (q : ∀ d v H', k d → Stay c H H' → DR c.K (msk (c.W ++ own) H') v d → Q v H') : Q (.ref a) (upd H a (.tup xs)) := by
  obtain ⟨nw, no, _⟩ := b.free n
  have na : a ∉ c.W ++ own := fun z => (List.mem_append.mp z).elim nw no
  exact q _ _ _ hk (b.made n) (.tup ((mk_out na).trans upd_same) (r.mono (mk_mono (same_new n))))
def cutD (l : List D) (lo hi : Option Int) : List D := (l.drop (HT.sIx l.length 0 lo)).take (HT.sIx l.length l.length hi - HT.sIx l.length 0 lo)
theorem drs_cut {K : PySem.W.Frag} {H : Hp} {xs : List V} {l : List D} (r : DRs K H xs l) (lo hi : Option Int) : DRs K H (cutV xs lo hi) (cutD l lo hi) := by
  unfold cutV cutD
  rw [r.len]
  exact (r.drop _).take _
theorem sl_l {l : List D} {lo hi : Option Int} {k : List D → Prop} (hk : k (cutD l lo hi)) : SlL c (rSlL c.K) (.lst l) lo hi k := fun H0 own H v Q b rv q => by
  obtain ⟨a, xs, rfl, ha, _, r⟩ := rv.lst_of
  exact ⟨a, xs, rfl, SqL.of ha, fun p hp => laid b hp hk (drs_cut r lo hi) q⟩
theorem sl_t {l : List D} {lo hi : Option Int} (nw : ¬ (HT.sIx l.length 0 lo = 0 ∧ HT.sIx l.length l.length hi = l.length)) (hk : k (.tup (cutD l lo hi))) : SlD c (rSlT c.K) (.tup l) lo hi k := fun H0 own H v Q b rv q => by
  obtain ⟨a, xs, rfl, ha, r⟩ := rv.tup_of
  exact ⟨a, xs, rfl, ha, by rw [r.len]; exact nw, fun p hp => laidT b hp hk (drs_cut r lo hi) q⟩
theorem ol_cat {l m : List D} {k : List D → Prop} (hl : l.length + m.length ≤ sizeLine) (hk : k (l ++ m)) : OpL c rCat (.lst l) (.lst m) k := fun H0 own H v w Q b rv rw q => by
  obtain ⟨a, xs, rfl, ha, _, r⟩ := rv.lst_of
  obtain ⟨a', ys, rfl, ha', _, r'⟩ := rw.lst_of
  exact ⟨a, a', xs, ys, rfl, rfl, ha, ha', by rw [r.len, r'.len]; exact hl, fun p hp => laid b hp hk (r.app r') q⟩
theorem ol_rep {l : List D} {i : Int} {k : List D → Prop} (h1 : -(2 ^ 63) ≤ i) (h2 : i < 2 ^ 63) (hl : l.length * i.toNat ≤ sizeLine) (hk : k (List.replicate i.toNat l).flatten) : OpL c rRep (.lst l) (.int i) k := fun H0 own H v w Q b rv rw q => by
  obtain ⟨a, xs, rfl, ha, _, r⟩ := rv.lst_of
  cases rw
  exact ⟨a, i, xs, rfl, rfl, ha, h1, h2, by rw [r.len]; exact hl, fun p hp => laid b hp hk (r.flat _) q⟩
/-! calls -/
theorem DRs.one {K : PySem.W.Frag} {H : Hp} {vs : List V} {d : D} (r : DRs K H vs [d]) : ∃ v, vs = [v] ∧ DR K H v d := by
  cases r with
  | cons a b =>
    cases b
    exact ⟨_, rfl, a⟩
theorem seq_of {K : PySem.W.Frag} {W : List Addr} {H : Hp} {v : V} {d : D} {l : List D} (h : d = .lst l ∨ d = .tup l) (r : DR K (msk W H) v d) : ∃ a xs, v = .ref a ∧ (SqL K H a xs ∨ SqT K H a xs) ∧ DRs K (msk W H) xs l := by
  rcases h with rfl | rfl
  · obtain ⟨a, xs, e, ha, _, r⟩ := r.lst_of
    exact ⟨a, xs, e, .inl (SqL.of ha), r⟩
  · obtain ⟨a, xs, e, ha, r⟩ := r.tup_of
    exact ⟨a, xs, e, .inr ha, r⟩
theorem kd_len {d : D} {l : List D} (h : d = .lst l ∨ d = .tup l) (hk : k (.int l.length)) : CallD c (Evl.rLenS c.K) [d] k := fun H0 own H vs Q b rv q => by
  obtain ⟨v, rfl, r⟩ := rv.one
  obtain ⟨a, xs, rfl, ha, r⟩ := seq_of h r
  refine ⟨a, xs, rfl, ha, ?_⟩
  rw [r.len]
  exact q _ _ H hk Stay.refl (.int _)
theorem kl_list {d : D} {l : List D} {k : List D → Prop} (h : d = .lst l ∨ d = .tup l) (hk : k l) : CallL c (Evl.rListS c.K) [d] k := fun H0 own H vs Q b rv q => by
  obtain ⟨v, rfl, r⟩ := rv.one
  obtain ⟨a, xs, rfl, ha, r⟩ := seq_of h r
  exact ⟨a, xs, rfl, ha, fun p hp => laid b hp hk r q⟩
theorem kd_tup {l : List D} (hk : k (.tup l)) : CallD c (fun xs H Q => ∃ p ys, xs = [.ref p] ∧ ((SqL c.K H p ys ∧ ∀ l, H l = none → Q (.ref l) (upd H l (.tup ys))) ∨ (SqT c.K H p ys ∧ Q (.ref p) H))) [.lst l] k := fun H0 own H vs Q b rv q => by
  obtain ⟨v, rfl, r⟩ := rv.one
  obtain ⟨a, xs, rfl, ha, _, r⟩ := r.lst_of
  exact ⟨a, xs, rfl, .inl ⟨SqL.of ha, fun p hp => laidT b hp hk r q⟩⟩
theorem kd_int {i : Int} (hk : k (.int i)) : CallD c (fun xs H Q => (∃ i, xs = [.int i] ∧ Q (.int i) H) ∨ ∃ k, xs = [.bl k] ∧ Q (.int (if k then 1 else 0)) H) [.int i] k := fun H0 own H vs Q b rv q => by
  obtain ⟨v, rfl, r⟩ := rv.one
  cases r
  exact .inl ⟨i, rfl, q _ _ H hk Stay.refl (.int i)⟩
theorem kd_repr {x : D} {n : Nat} (h : Fin 20 n x) (hs : x.py.shown.length ≤ sizeLine) (hk : k (.str x.py.shown)) : CallD c (rRepr c.K) [x] k := fun H0 own H vs Q b rv q => by
  obtain ⟨v, rfl, r⟩ := rv.one
  exact ⟨v, x.py, rfl, (r.mono mk_all).da h.dt, h.sh, Nat.le_trans h.dp (by decide), hs, q _ _ H hk Stay.refl (.str _)⟩
/-- sorted(a list or a tuple) -/
theorem kl_sort {d : D} {l : List D} {k : List D → Prop} (h : d = .lst l ∨ d = .tup l) (hd : D.datas l = true) (al : PySem.W.AllAlike (l.map D.py)) (st : PySem.W.Sortable (l.map D.py)) (dp : ∀ e ∈ l, e.py.depth ≤ 20)
    (hk : k (l.mergeSort (PySem.W.dataLe false D.py))) : CallL c (rSortS c.K) [d] k := fun H0 own H vs Q b rv q => by
  obtain ⟨v, rfl, r⟩ := rv.one
  obtain ⟨a, xs, rfl, ha, r⟩ := seq_of h r
  have hl := r.len
  have e1 : (xs.zip l).map Prod.fst = xs := List.map_fst_zip (Nat.le_of_eq hl)
  have e2 : (xs.zip l).map Prod.snd = l := List.map_snd_zip (Nat.le_of_eq hl.symm)
  have zr : ∀ p ∈ xs.zip l, DR c.K (msk (c.W ++ own) H) p.1 p.2 := fun p hp => by
    obtain ⟨i, hi⟩ := List.getElem?_of_mem hp
    rw [List.getElem?_zip_eq_some] at hi
    obtain ⟨u, h1, h2⟩ := r.get hi.2
    rw [hi.1] at h1
    cases h1
    exact h2
  have zm : ∀ p ∈ xs.zip l, p.2 ∈ l := fun p hp => by
    have := List.mem_map_of_mem (f := Prod.snd) hp
    rwa [e2] at this
  have e3 : (xs.zip l).map (fun p => p.2.py) = l.map D.py := (List.map_map (f := Prod.snd) (g := D.py) (l := xs.zip l)).symm.trans (congrArg (List.map D.py) e2)
  refine ⟨a, V × D, xs.zip l, fun p => p.2.py, Prod.fst, rfl, by rw [e1]; exact ha, fun p hp => ((zr p hp).mono mk_all).da ?_, by rw [e3]; exact al, by rw [e3]; exact st, fun p hp => dp _ (zm p hp), fun p hp => ?_⟩
  · rw [datas_all, List.all_eq_true] at hd
    exact hd _ (zm p hp)
  · -- the sorted pairs, as values and as data
    have ms : ((xs.zip l).mergeSort (PySem.W.dataLe false fun p : V × D => p.2.py)).map Prod.snd = l.mergeSort (PySem.W.dataLe false D.py) := by
      have q := List.map_mergeSort (r := PySem.W.dataLe false fun p : V × D => p.2.py) (s := PySem.W.dataLe false D.py) (f := Prod.snd) (l := xs.zip l) (fun a _ b _ => rfl)
      rw [q, e2]
    have dr : ∀ L : List (V × D), (∀ p ∈ L, DR c.K (msk (c.W ++ own) H) p.1 p.2) → DRs c.K (msk (c.W ++ own) H) (L.map Prod.fst) (L.map Prod.snd) := by
      intro L
      induction L with
      | nil => exact fun _ => .nil
      | cons p L ih => exact fun g => .cons (g p (List.mem_cons_self ..)) (ih fun x hx => g x (List.mem_cons_of_mem _ hx))
    refine laid b hp hk ?_ q
    rw [← ms]
    exact dr _ fun p hp => zr p ((List.mergeSort_perm _ _).mem_iff.mp hp)
end
end Tl
/-! ## T6 -/
set_option Elab.async false
set_option linter.all false
set_option maxRecDepth 100000
set_option maxHeartbeats 4000000
/-! new lists and new boxes: what gives them, what returns them; lists that are lent -/
namespace Tl
open PySem PySem.Spec PyProof.Rows L2 He Vx
/-- an expression gives a box whose lists are new -/
def ExB (c : C1) (Γ : List Sl) (t : TE) (k : Int → List Int → List Mv → Prop) : Prop := ∀ H0 own σ H (Q : VK), EnvR c H0 own H σ Γ →
  (∀ n s m a dx p q H', k n s m → Stay c H H' → H p = none → H q = none → H a = none → H' a = some (.ins (ga c.K "Box") dx (bxF n p q)) → DR c.K (msk (c.W ++ own) H') (.ref p) (.lst (s.map D.int)) → DR c.K (msk (c.W ++ own) H') (.ref q) (.lst (m.map mvD)) → Q (.ref a) H') → t σ H Q
abbrev FnL := List D → (List D → Prop) → Prop
abbrev FnB := List D → (Int → List Int → List Mv → Prop) → Prop
/-- a def that gives a new list -/
def spL (K : PySem.W.Frag) (f : FnL) : Sp := fun vs H Q _ => ∃ (W : List Addr) (ds : List D) (k : List D → Prop), (∀ a ∈ W, H a ≠ none) ∧ DRs K (msk W H) vs ds ∧ f ds k ∧
  ∀ l a xs H', k l → Same H H' → H a = none → H' a = some (.lst xs) → DRs K (msk (W ++ [a]) H') xs l → Q (.ref a) H'
/-- a def that gives a box with new lists -/
def spB (K : PySem.W.Frag) (f : FnB) : Sp := fun vs H Q _ => ∃ (W : List Addr) (ds : List D) (k : Int → List Int → List Mv → Prop), (∀ a ∈ W, H a ≠ none) ∧ DRs K (msk W H) vs ds ∧ f ds k ∧
  ∀ n s m a dx p q H', k n s m → Same H H' → H p = none → H q = none → H a = none → H' a = some (.ins (ga K "Box") dx (bxF n p q)) → DR K (msk W H') (.ref p) (.lst (s.map D.int)) → DR K (msk W H') (.ref q) (.lst (m.map mvD)) → Q (.ref a) H'
section
variable {c : C1} {Γ : List Sl} {t u : TE} {ts : TS} {P : Post} {k : D → Prop}
theorem ExL.imp {k k' : List D → Prop} (h : ExL c Γ t k) (i : ∀ l, k l → k' l) : ExL c Γ t k' := fun H0 own σ H Q E q => h H0 own σ H Q E fun l a xs H' z => q l a xs H' (i l z)
theorem ExB.imp {k k' : Int → List Int → List Mv → Prop} (h : ExB c Γ t k) (i : ∀ n s m, k n s m → k' n s m) : ExB c Γ t k' := fun H0 own σ H Q E q => h H0 own σ H Q E fun n s m a dx p q' H' z => q n s m a dx p q' H' (i n s m z)
theorem ex_B (h : ExB c Γ t fun n s m => k (.box n s m)) : Ex c Γ t k := fun H0 own σ H Q E q => h H0 own σ H Q E fun n s m a dx p q' H' z st n1 n2 na e r1 r2 => q _ _ H' z st (.box ((mk_out (fun y => (List.mem_append.mp y).elim (E.b.free na).1 (E.b.free na).2.1)).trans e) r1 r2)
/-- f(e, ..), a new list -/
theorem exl_call {ta : TA} {f : FnL} {E : XK} {k : List D → Prop} (h : ExA c Γ ta fun ds => f ds k) : ExL c Γ (tCall (spL c.K f) [] E ta) k := fun H0 own σ H Q R q =>
  h H0 own σ H _ R fun ds vs H1 h1 s1 r1 => by
    rw [List.append_nil]
    have b1 := R.b.stay s1
    refine ⟨c.W ++ own, ds, k, base_all b1, r1, h1, fun l a xs H2 z s2 n e r2 => q l a xs H2 z (s1.trans (Stay.of s2)) (s1.new b1 n) e (r2.mono (mk_sub fun x hx => ?_))⟩
    rcases List.mem_append.mp hx with hx | hx
    · exact List.mem_append_left _ (List.mem_append_left _ hx)
    · rcases List.mem_cons.mp hx with hx | hx
      · exact List.mem_append_right _ (List.mem_singleton.mpr hx)
      · exact List.mem_append_left _ (List.mem_append_right _ hx)
theorem exb_call {ta : TA} {f : FnB} {E : XK} {k : Int → List Int → List Mv → Prop} (h : ExA c Γ ta fun ds => f ds k) : ExB c Γ (tCall (spB c.K f) [] E ta) k := fun H0 own σ H Q R q =>
  h H0 own σ H _ R fun ds vs H1 h1 s1 r1 => by
    rw [List.append_nil]
    have b1 := R.b.stay s1
    exact ⟨c.W ++ own, ds, k, base_all b1, r1, h1, fun n s m a dx p q' H2 z s2 n1 n2 na e r1' r2' => q n s m a dx p q' H2 z (s1.trans (Stay.of s2)) (s1.new b1 n1) (s1.new b1 n2) (s1.new b1 na) e r1' r2'⟩
/-- returns -/
theorem sx_retL (h : ExL c Γ t P.rl) : Sx c Γ (tRet t) P := fun H0 own σ H E R e => h H0 own σ H _ R fun l a xs H' z st n ea r =>
  e.rl own H' a xs l (R.b.stay st) (R.b.free n).2.2 ea (r.mono (mk_sub fun x hx => by
    rcases List.mem_append.mp hx with hx | hx
    · exact List.mem_append_left _ hx
    · exact List.mem_append_right _ (by rw [List.mem_singleton.mp hx]; exact List.mem_cons_self ..))) z
theorem sx_retO {i : Nat} {l : List D} (h : Γ[i]? = some (.own l)) (hk : P.rl l) : Sx c Γ (tRet (tVar i)) P := fun H0 own σ H E R e => by
  obtain ⟨o, es, a, xs, rfl, ha, hx, r⟩ := R.at_ h
  refine ⟨_, es, e.rl own H a xs l R.b (R.b.fresh a ha) hx (r.mono (mk_sub fun x hx => ?_)) hk⟩
  rcases List.mem_append.mp hx with hx | hx
  · exact List.mem_append_left _ hx
  · exact List.mem_append_right _ (by rw [List.mem_singleton.mp hx]; exact ha)
theorem sx_retB (h : ExB c Γ t P.rb) : Sx c Γ (tRet t) P := fun H0 own σ H E R e => h H0 own σ H _ R fun n s m a dx p q H' z st n1 n2 na ea r1 r2 =>
  e.rb own H' a dx p q n s m (R.b.stay st) (R.b.free n1).2.2 (R.b.free n2).2.2 (R.b.free na).2.2 ea (r1.mono (mk_sub fun x hx => List.mem_append_left _ hx)) (r2.mono (mk_sub fun x hx => List.mem_append_left _ hx)) z
/-- lists that are lent: the slot's list is a value while t runs -/
theorem EnvR.lend {H0 H : Hp} {own : List Addr} {σ : L2.St} {i : Nat} {l : List D} (R : EnvR c H0 own H σ Γ) (h : Γ[i]? = some (.own l)) :
    ∃ a xs own', EnvR c H0 own' H σ (Γ.set i (.val (.lst l))) ∧ σ[i]? = some (some (.ref a)) ∧ a ∈ own ∧ H a = some (.lst xs) ∧ (∀ x, x ∈ own ↔ x = a ∨ x ∈ own') ∧ a ∉ c.W ++ own' := by
  obtain ⟨o, e, a, xs, rfl, ha, hx, r⟩ := R.at_ h
  refine ⟨a, xs, own.filter fun x => decide (x ≠ a), ?_, e, ha, hx, fun x => ⟨fun hx => ?_, fun hx => ?_⟩, fun z => ?_⟩
  · obtain ⟨own', R'⟩ := R.free h
    -- the same list of what is held
    refine ⟨R.b.less fun x hx => (List.mem_filter.mp hx).1, by rw [List.length_set, R.len], fun j s o h1 h2 => ?_, fun j k s t x h1 h2 s1 s2 h3 h4 => R'.inj j k s t x h1 h2 s1 s2 h3 h4⟩
    have sub : Same (msk (c.W ++ own) H) (msk (c.W ++ own.filter fun x => decide (x ≠ a)) H) := mk_sub fun x hx => by
      rcases List.mem_append.mp hx with hx | hx
      · exact List.mem_append_left _ hx
      · exact List.mem_append_right _ (List.mem_filter.mp hx).1
    by_cases e1 : i = j
    · subst e1
      have l1 : i < Γ.length := by
        have q := (List.getElem?_eq_some_iff.mp h1).1
        rwa [List.length_set] at q
      rw [List.getElem?_set_self l1] at h1
      cases h1
      rw [e] at h2
      cases h2
      have na : a ∉ c.W ++ own.filter fun x => decide (x ≠ a) := fun z => by
        rcases List.mem_append.mp z with z | z
        · exact R.b.apart ha z
        · exact absurd rfl (of_decide_eq_true (List.mem_filter.mp z).2)
      exact ⟨_, rfl, .lst ((mk_out na).trans hx) (r.mono sub)⟩
    · rw [List.getElem?_set_ne e1] at h1
      refine (R.sl j s o h1 h2).mv sub fun y hs ho hy => ⟨List.mem_filter.mpr ⟨hy, decide_eq_true fun z => ?_⟩, fun u q => q⟩
      subst z
      rw [ho] at h2
      exact e1 (R.inj i j _ s y h h1 rfl hs e h2)
  · by_cases z : x = a
    · exact .inl z
    · exact .inr (List.mem_filter.mpr ⟨hx, decide_eq_true z⟩)
  · rcases hx with rfl | hx
    · exact ha
    · exact (List.mem_filter.mp hx).1
  · rcases List.mem_append.mp z with z | z
    · exact R.b.apart ha z
    · exact absurd rfl (of_decide_eq_true (List.mem_filter.mp z).2)
mutual
/-- no list and no dict in it -/
def D.flat : D → Bool
  | .tup l => D.flats l
  | .lst _ => false
  | .dK _ _ => false
  | .dT _ _ => false
  | .box _ _ _ => false
  | _ => true
def D.flats : List D → Bool
  | [] => true
  | d :: l => D.flat d && D.flats l
end
theorem flats_all : ∀ l : List D, D.flats l = l.all D.flat
  | [] => rfl
  | d :: l => by rw [D.flats, List.all_cons, flats_all l]
mutual
/-- what is flat does not lean on a list -/
theorem DR.hide {K : PySem.W.Frag} {W W' : List Addr} {H : Hp} {a : Addr} {xs : List V} (h : H a = some (.lst xs)) (s : ∀ x, x ∈ W' → x = a ∨ x ∈ W) : ∀ {v : V} {d : D}, DR K (msk W H) v d → d.flat = true → DR K (msk W' H) v d
  | _, _, .non, _ => .non
  | _, _, .bl b, _ => .bl b
  | _, _, .int i, _ => .int i
  | _, _, .str x, _ => .str x
  | _, _, .lst _ _, e => by cases e
  | _, _, .tup (a := b) g r, e => by
    obtain ⟨nb, gb⟩ := mk_some g
    refine .tup ((mk_out fun z => ?_).trans gb) (DRs.hide h s r e)
    rcases s b z with z | z
    · rw [z, h] at gb
      cases gb
    · exact nb z
  | _, _, .tup0 g, _ => .tup0 g
  | _, _, .dK _ _, e => by cases e
  | _, _, .dT _ _, e => by cases e
  | _, _, .box _ _ _, e => by cases e
theorem DRs.hide {K : PySem.W.Frag} {W W' : List Addr} {H : Hp} {a : Addr} {xs : List V} (h : H a = some (.lst xs)) (s : ∀ x, x ∈ W' → x = a ∨ x ∈ W) : ∀ {vs : List V} {ds : List D}, DRs K (msk W H) vs ds → D.flats ds = true → DRs K (msk W' H) vs ds
  | _, _, .nil, _ => .nil
  | _, _, .cons a b, e => by
    rw [D.flats, Bool.and_eq_true] at e
    exact .cons (DR.hide h s a e.1) (DRs.hide h s b e.2)
end
theorem lend_stay {H0 H H' : Hp} {own : List Addr} {a : Addr} {xs : List V} (b : Base c H0 own H) (ha : a ∈ own) (hx : H a = some (.lst xs)) (st : Stay c H H') : H' a = some (.lst xs) := b.at_ st ha hx
/-- t with the list of the slot i lent; what it gives is flat -/
theorem ex_lend {i : Nat} {l : List D} (h : Γ[i]? = some (.own l)) (g : Ex c (Γ.set i (.val (.lst l))) t fun d => d.flat = true ∧ k d) : Ex c Γ t k := fun H0 own σ H Q R q => by
  obtain ⟨a, xs, own', R', _, ha, hx, so, _⟩ := R.lend h
  refine g H0 own' σ H Q R' fun d v H' ⟨fl, z⟩ st r => q d v H' z st (r.hide (lend_stay R.b ha hx st) (fun x hx => ?_) fl)
  rcases List.mem_append.mp hx with hx | hx
  · exact .inr (List.mem_append_left _ hx)
  · exact ((so x).mp hx).imp id fun z => List.mem_append_right _ z
theorem mv_flat (m : List Mv) : D.flats (m.map mvD) = true := by
  rw [flats_all, List.all_eq_true]
  intro d hd
  obtain ⟨x, _, rfl⟩ := List.mem_map.mp hd
  rfl
theorem int_flat (m : List Int) : D.flats (m.map D.int) = true := by
  rw [flats_all, List.all_eq_true]
  intro d hd
  obtain ⟨x, _, rfl⟩ := List.mem_map.mp hd
  rfl
/-- .. what it gives is a box with new lists -/
theorem exb_lend {i : Nat} {l : List D} {k : Int → List Int → List Mv → Prop} (h : Γ[i]? = some (.own l)) (g : ExB c (Γ.set i (.val (.lst l))) t k) : ExB c Γ t k := fun H0 own σ H Q R q => by
  obtain ⟨a, xs, own', R', _, ha, hx, so, na⟩ := R.lend h
  refine g H0 own' σ H Q R' fun n s m b dx p q' H' z st n1 n2 nb e r1 r2 => ?_
  have ea := lend_stay R.b ha hx st
  have sub : ∀ x, x ∈ c.W ++ own → x = a ∨ x ∈ c.W ++ own' := fun x hx => by
    rcases List.mem_append.mp hx with hx | hx
    · exact .inr (List.mem_append_left _ hx)
    · exact ((so x).mp hx).imp id fun z => List.mem_append_right _ z
  have hide : ∀ {p : Addr} {l : List D}, H p = none → D.flats l = true → DR c.K (msk (c.W ++ own') H') (.ref p) (.lst l) → DR c.K (msk (c.W ++ own) H') (.ref p) (.lst l) := fun {p l} np fl r => by
    obtain ⟨p', ys, ep, hp, _, r⟩ := r.lst_of
    cases ep
    refine .lst ((mk_out fun z => ?_).trans hp) (r.hide ea sub fl)
    rcases List.mem_append.mp z with z | z
    · exact R.b.some_ (R.b.wf p z) np
    · exact R.b.here p z np
  exact q n s m b dx p q' H' z st n1 n2 nb e (hide n1 (int_flat s) r1) (hide n2 (mv_flat m) r2)
/-- .. what it gives is a new list of flat things -/
theorem exl_lend {i : Nat} {l : List D} {k : List D → Prop} (h : Γ[i]? = some (.own l)) (g : ExL c (Γ.set i (.val (.lst l))) t fun m => D.flats m = true ∧ k m) : ExL c Γ t k := fun H0 own σ H Q R q => by
  obtain ⟨a, xs, own', R', _, ha, hx, so, na⟩ := R.lend h
  refine g H0 own' σ H Q R' fun m b ys H' ⟨fl, z⟩ st n e r => q m b ys H' z st n e (r.hide (lend_stay R.b ha hx st) (fun x hx => ?_) fl)
  rcases List.mem_append.mp hx with hx | hx
  · exact .inr (List.mem_append_left _ hx)
  · rcases List.mem_cons.mp hx with hx | hx
    · exact .inr (List.mem_append_right _ (by rw [hx]; exact List.mem_cons_self ..))
    · exact ((so x).mp hx).imp id fun z => List.mem_append_right _ (List.mem_cons_of_mem _ z)
end
/-! bodies -/
section
variable {K : PySem.W.Frag} {N : List Str} {t : TS}
theorem body_base {H : Hp} {W : List Addr} (hW : ∀ a ∈ W, H a ≠ none) : Base ⟨K, none, W⟩ H [] H := ⟨fun _ e => (by cases e), fun _ e => (by cases e), hW, Same.refl _, fun _ h => (by cases h), fun _ h => (by cases h)⟩
theorem body_same {H H' : Hp} {W own : List Addr} (b : Base ⟨K, none, W⟩ H own H') : Same H H' := by
  have q := b.keep
  rw [show C1.P ⟨K, none, W⟩ = [] from rfl, mk_nil, mk_nil] at q
  exact q
theorem body_L {f : FnL} (h : ∀ W ds k, f ds k → Sx ⟨K, none, W⟩ (valG N.length ds) t { nx := fun _ => False, rt := fun _ => False, bk := fun _ => False, ct := fun _ => False, rl := k }) {vs : List V} {H : Hp} {Q : VK} {E : XK} (s : spL K f vs H Q E) : t { nx := fun _ H' => Q .non H', rt := Q } (L2.start N vs) H := by
  obtain ⟨W, ds, k, hW, r, hf, q⟩ := s
  exact h W ds k hf H [] (L2.start N vs) H _ (start_env (W := W) (own := []) (body_base hW) rfl r) ⟨fun _ _ _ _ _ z => z.elim, fun _ _ _ _ _ _ z => z.elim, fun _ _ _ _ _ z => z.elim, fun _ _ _ _ _ z => z.elim, fun own H' a xs l b n e r z => q l a xs H' z (body_same b) n e r, fun _ _ _ _ _ _ _ _ _ _ _ _ _ _ _ _ z => z.elim⟩
theorem body_B {f : FnB} (h : ∀ W ds k, f ds k → Sx ⟨K, none, W⟩ (valG N.length ds) t { nx := fun _ => False, rt := fun _ => False, bk := fun _ => False, ct := fun _ => False, rb := k }) {vs : List V} {H : Hp} {Q : VK} {E : XK} (s : spB K f vs H Q E) : t { nx := fun _ H' => Q .non H', rt := Q } (L2.start N vs) H := by
  obtain ⟨W, ds, k, hW, r, hf, q⟩ := s
  exact h W ds k hf H [] (L2.start N vs) H _ (start_env (W := W) (own := []) (body_base hW) rfl r) ⟨fun _ _ _ _ _ z => z.elim, fun _ _ _ _ _ _ z => z.elim, fun _ _ _ _ _ z => z.elim, fun _ _ _ _ _ z => z.elim, fun _ _ _ _ _ _ _ _ _ z => z.elim, fun own H' a dx p q' n s m b n1 n2 na e r1 r2 z => q n s m a dx p q' H' z (body_same b) n1 n2 na e r1 r2⟩
end
end Tl
/-! ## T7 -/
set_option Elab.async false
set_option linter.all false
set_option maxRecDepth 100000
set_option maxHeartbeats 4000000
/-! dicts, what slots hold, walks -/
namespace Tl
open PySem PySem.Spec PyProof.Rows L2 He Vx
section
variable {κ : Type} [DecidableEq κ]
/-- what stands at a key -/
def valD : List κ → List D → κ → Option D
  | k' :: ks, d :: l, k => if k' = k then some d else valD ks l k
  | _, _, _ => none
/-- in its place, or at the end -/
def putD : List κ → List D → κ → D → List D
  | k' :: ks, d' :: l, k, d => if k' = k then d :: l else d' :: putD ks l k d
  | _, _, _, d => [d]
def putKs (ks : List κ) (k : κ) : List κ := if k ∈ ks then ks else ks ++ [k]
theorem drs_val {K : PySem.W.Frag} {H : Hp} : ∀ {kvs : List (κ × V)} {l : List D} (k : κ), DRs K H (kvs.map Prod.snd) l → (∀ d, valD (kvs.map Prod.fst) l k = some d → ∃ v, valV kvs k = some v ∧ DR K H v d) ∧ (valD (kvs.map Prod.fst) l k = none → valV kvs k = none)
  | [], l, k, r => by
    cases r
    exact ⟨fun d e => (by cases e), fun _ => rfl⟩
  | p :: kvs, l, k, r => by
    cases r with
    | cons a b =>
      have ih := drs_val k b
      by_cases e : p.1 = k
      · rw [valV_pos e]
        refine ⟨fun d h => ?_, fun h => ?_⟩
        · rw [List.map_cons, valD, if_pos e] at h
          cases h
          exact ⟨_, rfl, a⟩
        · rw [List.map_cons, valD, if_pos e] at h
          cases h
      · rw [valV_neg e]
        rw [List.map_cons, valD, if_neg e]
        exact ih
theorem drs_sm {K : PySem.W.Frag} {H : Hp} {kvs : List (κ × V)} {l : List D} (k : κ) (r : DRs K H (kvs.map Prod.snd) l) : (valV kvs k).isSome = (valD (kvs.map Prod.fst) l k).isSome := by
  obtain ⟨h1, h2⟩ := drs_val k r
  cases e : valD (kvs.map Prod.fst) l k with
  | none =>
    rw [h2 e]
    rfl
  | some d =>
    obtain ⟨v, e1, _⟩ := h1 d e
    rw [e1]
    rfl
theorem any_mem : ∀ (kvs : List (κ × V)) (k : κ), (kvs.any fun kv => decide (kv.1 = k)) = true ↔ k ∈ kvs.map Prod.fst := fun kvs k => by
  rw [List.any_eq_true, List.mem_map]
  exact ⟨fun ⟨x, h1, h2⟩ => ⟨x, h1, of_decide_eq_true h2⟩, fun ⟨x, h1, h2⟩ => ⟨x, h1, decide_eq_true h2⟩⟩
theorem putK_keys (kvs : List (κ × V)) (k : κ) (v : V) : (putK kvs k v).map Prod.fst = putKs (kvs.map Prod.fst) k := by
  unfold putK putKs
  by_cases h : k ∈ kvs.map Prod.fst
  · rw [if_pos ((any_mem kvs k).mpr h), if_pos h, List.map_map]
    refine List.map_congr_left fun x _ => ?_
    show (if x.1 = k then (x.1, v) else x).1 = x.1
    split <;> rfl
  · rw [if_neg fun z => h ((any_mem kvs k).mp z), if_neg h, List.map_append]
    rfl
theorem putD_new : ∀ (ks : List κ) (l : List D) (k : κ) (d : D), ks.length = l.length → k ∉ ks → putD ks l k d = l ++ [d]
  | [], [], _, _, _, _ => rfl
  | [], _ :: _, _, _, h, _ => by cases h
  | _ :: _, [], _, _, h, _ => by cases h
  | k' :: ks, d' :: l, k, d, h, n => by
    have ne : ¬ k' = k := fun e => n (by rw [e]; exact List.mem_cons_self ..)
    rw [putD, if_neg ne, putD_new ks l k d (by simpa using h) fun z => n (List.mem_cons_of_mem _ z)]
    rfl
theorem drs_put {K : PySem.W.Frag} {H : Hp} {v : V} {d : D} (k : κ) (rv : DR K H v d) : ∀ {kvs : List (κ × V)} {l : List D}, (kvs.map Prod.fst).Nodup → DRs K H (kvs.map Prod.snd) l → DRs K H ((putK kvs k v).map Prod.snd) (putD (kvs.map Prod.fst) l k d) := fun {kvs l} nd r => by
  have hl : (kvs.map Prod.fst).length = l.length := by rw [List.length_map, ← r.len, List.length_map]
  unfold putK
  by_cases h : k ∈ kvs.map Prod.fst
  · rw [if_pos ((any_mem kvs k).mpr h)]
    clear hl
    induction kvs generalizing l with
    | nil => cases h
    | cons p kvs ih =>
      cases r with
      | cons a b =>
        rw [List.map_cons, List.nodup_cons] at nd
        rw [List.map_cons, List.map_cons, List.map_cons, putD]
        by_cases e : p.1 = k
        · rw [if_pos e, if_pos e]
          refine .cons rv ?_
          have q : (kvs.map fun kv => if kv.1 = k then (kv.1, v) else kv) = kvs := by
            have q2 : ∀ x ∈ kvs, (if x.1 = k then (x.1, v) else x) = x := fun x hx => if_neg fun z => nd.1 (by rw [e, ← z]; exact List.mem_map_of_mem hx)
            exact (List.map_congr_left q2).trans (List.map_id' _)
          rw [q]
          exact b
        · rw [if_neg e, if_neg e]
          exact .cons a (ih nd.2 b ((List.mem_cons.mp h).resolve_left fun z => e z.symm))
  · rw [if_neg fun z => h ((any_mem kvs k).mp z), putD_new _ _ _ _ hl h, List.map_append]
    exact r.app (.cons rv .nil)
theorem putKs_nodup {ks : List κ} (h : ks.Nodup) (k : κ) : (putKs ks k).Nodup := by
  unfold putKs
  split
  · exact h
  · rename_i n
    exact List.nodup_append.mpr ⟨h, by simp, fun a ha b hb e => n (by rw [List.mem_singleton.mp hb] at e; exact e ▸ ha)⟩
end
/-- a key as data -/
def keyDD : L2.Key → D
  | .inl i => .int i
  | .inr x => .str x
theorem DR.key {K : PySem.W.Frag} {H : Hp} {v : V} {k : L2.Key} (r : DR K H v (keyDD k)) : v = kV k := by
  cases k with
  | inl i => cases r; rfl
  | inr x => cases r; rfl
theorem dr_key {K : PySem.W.Frag} {H : Hp} : ∀ k : L2.Key, DR K H (kV k) (keyDD k)
  | .inl i => .int i
  | .inr x => .str x
section
variable {c : C1} {Γ : List Sl} {t u tz : TE} {P : Post} {k : D → Prop}
/-- d[y] -/
theorem ex_dget (h : Ex c Γ t fun x => ∃ ks l, x = .dK ks l ∧ Ex c Γ u fun y => ∃ q d, y = keyDD q ∧ valD ks l q = some d ∧ k d) : Ex c Γ (tDGet t u) k := fun H0 own σ H Q E q =>
  h H0 own σ H _ E fun x v H1 ⟨ks, l, e, h1⟩ s1 r1 => by
    subst e
    refine h1 H0 own σ H1 _ (E.stay s1) fun y w H2 ⟨y0, d, e, e2, z⟩ s2 r2 => ?_
    subst e
    cases r2.key
    obtain ⟨a, kvs, rfl, ha, _, rfl, r⟩ := (r1.mono (s2.ms E.b.pw own)).dK_of
    obtain ⟨g, _⟩ := drs_val y0 r
    obtain ⟨v, e3, rv⟩ := g d e2
    exact ⟨a, v, rfl, e3 ▸ DGet.k ha, q d v H2 z (s1.trans s2) rv⟩
/-- d.get(y, z) -/
theorem ex_dget2 (h : Ex c Γ t fun x => ∃ ks l, x = .dK ks l ∧ Ex c Γ u fun y => ∃ q, y = keyDD q ∧ Ex c Γ tz fun z => k ((valD ks l q).getD z)) : Ex c Γ (tDGet2 t u tz) k := fun H0 own σ H Q E q =>
  h H0 own σ H _ E fun x v H1 ⟨ks, l, e, h1⟩ s1 r1 => by
    subst e
    obtain ⟨a, kvs, rfl, ha, na, rfl, r⟩ := r1.dK_of
    refine ⟨a, rfl, .inl ⟨kvs, .inl ha⟩, h1 H0 own σ H1 _ (E.stay s1) fun y w H2 ⟨y0, e, h2⟩ s2 r2 => ?_⟩
    subst e
    cases r2.key
    refine h2 H0 own σ H2 _ ((E.stay s1).stay s2) fun z zv H3 hz s3 r3 => ?_
    have ha3 : H3 a = some (.dK kvs) := (mk_some ((s2.trans s3).ms E.b.pw own a _ (by rw [mk_out na]; exact ha))).2
    have rr := r.mono ((s2.trans s3).ms E.b.pw own)
    obtain ⟨g1, g2⟩ := drs_val y0 rr
    refine ⟨_, DGet.k ha3, ?_⟩
    cases e : valD (kvs.map Prod.fst) l y0 with
    | none =>
      rw [e] at hz
      rw [g2 e]
      exact q z zv H3 hz ((s1.trans s2).trans s3) r3
    | some d =>
      rw [e] at hz
      obtain ⟨v, e3, rv⟩ := g1 d e
      rw [e3]
      exact q d v H3 hz ((s1.trans s2).trans s3) rv
/-- y in d -/
theorem ex_din (h : Ex c Γ u fun y => ∃ q, y = keyDD q ∧ Ex c Γ t fun x => ∃ ks l, x = .dK ks l ∧ k (.bl (valD ks l q).isSome)) : Ex c Γ (tDIn u t) k := fun H0 own σ H Q E q =>
  h H0 own σ H _ E fun y w H1 ⟨y0, e, h1⟩ s1 r1 => by
    subst e
    cases r1.key
    refine h1 H0 own σ H1 _ (E.stay s1) fun x v H2 ⟨ks, l, e, z⟩ s2 r2 => ?_
    subst e
    obtain ⟨a, kvs, rfl, ha, na, rfl, r⟩ := r2.dK_of
    refine ⟨a, _, rfl, DGet.k ha, ?_⟩
    rw [drs_sm y0 r]
    exact q _ _ H2 z (s1.trans s2) (.bl _)
theorem ex_dnotin (h : Ex c Γ u fun y => ∃ q, y = keyDD q ∧ Ex c Γ t fun x => ∃ ks l, x = .dK ks l ∧ k (.bl (!(valD ks l q).isSome))) : Ex c Γ (tDNotIn u t) k := fun H0 own σ H Q E q =>
  h H0 own σ H _ E fun y w H1 ⟨y0, e, h1⟩ s1 r1 => by
    subst e
    cases r1.key
    refine h1 H0 own σ H1 _ (E.stay s1) fun x v H2 ⟨ks, l, e, z⟩ s2 r2 => ?_
    subst e
    obtain ⟨a, kvs, rfl, ha, na, rfl, r⟩ := r2.dK_of
    refine ⟨a, _, rfl, DGet.k ha, ?_⟩
    rw [drs_sm y0 r]
    exact q _ _ H2 z (s1.trans s2) (.bl _)
/-- y in the dict of a slot -/
theorem ex_dinO {i : Nat} {ks : List L2.Key} {l : List D} (h : Γ[i]? = some (.ownK ks l)) (g : Ex c Γ u fun y => ∃ q, y = keyDD q ∧ k (.bl (valD ks l q).isSome)) : Ex c Γ (tDIn u (tVar i)) k := fun H0 own σ H Q E q =>
  g H0 own σ H _ E fun y w H1 ⟨y0, e, z⟩ s1 r1 => by
    subst e
    cases r1.key
    obtain ⟨o, es, a, kvs, rfl, ha, hx, rfl, r⟩ := (E.stay s1).at_ h
    refine ⟨_, es, a, _, rfl, DGet.k hx, ?_⟩
    rw [drs_sm y0 r]
    exact q _ _ H1 z s1 (.bl _)
theorem ex_dnotinO {i : Nat} {ks : List L2.Key} {l : List D} (h : Γ[i]? = some (.ownK ks l)) (g : Ex c Γ u fun y => ∃ q, y = keyDD q ∧ k (.bl (!(valD ks l q).isSome))) : Ex c Γ (tDNotIn u (tVar i)) k := fun H0 own σ H Q E q =>
  g H0 own σ H _ E fun y w H1 ⟨y0, e, z⟩ s1 r1 => by
    subst e
    cases r1.key
    obtain ⟨o, es, a, kvs, rfl, ha, hx, rfl, r⟩ := (E.stay s1).at_ h
    refine ⟨_, es, a, _, rfl, DGet.k hx, ?_⟩
    rw [drs_sm y0 r]
    exact q _ _ H1 z s1 (.bl _)
/-- an own dict is written -/
theorem EnvR.kset {H0 H : Hp} {own : List Addr} {σ : L2.St} {i : Nat} {ks ks' : List L2.Key} {l l' : List D} {a : Addr} {kvs : List (L2.Key × V)} (R : EnvR c H0 own H σ Γ) (h : Γ[i]? = some (.ownK ks l)) (e : σ[i]? = some (some (.ref a))) (ha : a ∈ own) (hk : kvs.map Prod.fst = ks')
    (r : DRs c.K (msk (c.W ++ own) H) (kvs.map Prod.snd) l') : EnvR c H0 own (upd H a (.dK kvs)) σ (Γ.set i (.ownK ks' l')) := by
  refine ⟨R.b.write ha, by rw [List.length_set, R.len], fun j s o h1 h2 => ?_, fun j k s t x h1 h2 s1 s2 h3 h4 => ?_⟩
  · by_cases e1 : i = j
    · subst e1
      have l1 : i < Γ.length := by
        have q := (List.getElem?_eq_some_iff.mp h1).1
        rwa [List.length_set] at q
      rw [List.getElem?_set_self l1] at h1
      cases h1
      rw [e] at h2
      cases h2
      exact ⟨a, kvs, rfl, ha, upd_same, hk, r.mono (Base.wsame ha)⟩
    · rw [List.getElem?_set_ne e1] at h1
      refine (R.sl j s o h1 h2).mv (Base.wsame ha) fun y hs ho hy => ⟨hy, fun u q => ?_⟩
      have ne : y ≠ a := fun z => by
        subst z
        rw [ho] at h2
        exact e1 (R.inj i j _ s y h h1 rfl hs e h2)
      rw [upd_ne ne]
      exact q
  · have old : ∀ {j : Nat} {s : Sl}, (Γ.set i (.ownK ks' l'))[j]? = some s → s.isOwn = true → ∃ s', Γ[j]? = some s' ∧ s'.isOwn = true := fun {j s} h' q => by
      by_cases e1 : i = j
      · subst e1
        exact ⟨_, h, rfl⟩
      · rw [List.getElem?_set_ne e1] at h'
        exact ⟨s, h', q⟩
    obtain ⟨s', g1, g2⟩ := old h1 s1
    obtain ⟨t', g3, g4⟩ := old h2 s2
    exact R.inj j k s' t' x g1 g3 g2 g4 h3 h4
/-- d[y] = z -/
theorem sx_dput {i : Nat} {ks : List L2.Key} {l : List D} (h : Γ[i]? = some (.ownK ks l)) (nd : ks.Nodup) (hs : ks.length < sizeLine) (g : Ex c Γ tz fun z => Ex c Γ u fun y => ∃ q, y = keyDD q ∧ P.nx (Γ.set i (.ownK (putKs ks q) (putD ks l q z)))) : Sx c Γ (sDPut (tVar i) u tz) P := fun H0 own σ H E R e =>
  g H0 own σ H _ R fun z zv H1 h1 s1 r1 => by
    obtain ⟨o, es, a, kvs, rfl, ha, hx, hk, r⟩ := (R.stay s1).at_ h
    refine ⟨_, es, h1 H0 own σ H1 _ (R.stay s1) fun y w H2 ⟨y0, ey, zz⟩ s2 r2 => ?_⟩
    subst ey
    cases r2.key
    have R2 := (R.stay s1).stay s2
    have hx2 := (R.b.stay s1).at_ s2 ha hx
    have rr := r.mono (s2.ms R.b.pw own)
    subst hk
    refine ⟨a, _, rfl, DPut.k hx2 (by rw [List.length_map] at hs; exact hs), ?_⟩
    exact e.nx own σ _ _ (R2.kset h es ha (putK_keys kvs y0 zv) (drs_put y0 (r1.mono (s2.ms R.b.pw own)) nd rr)) zz
/-! truths -/
def tTr (K : PySem.W.Frag) (ta : TE) : TT := fun σ H Q => ta σ H fun x H' => ∃ k, TruV K x H' k ∧ Q k H'
theorem ext_truO {i : Nat} {l : List D} {kk : Bool → Prop} (h : Γ[i]? = some (.own l)) (hk : kk (!l.isEmpty)) : ExT c Γ (tTr c.K (tVar i)) kk := fun H0 own σ H Q R q => by
  obtain ⟨o, es, a, xs, rfl, ha, hx, r⟩ := R.at_ h
  refine ⟨_, es, _, .inl ⟨xs, SqL.of hx, rfl⟩, ?_⟩
  rw [show xs.isEmpty = l.isEmpty from by cases r <;> rfl]
  exact q _ H hk Stay.refl
theorem ext_truL {kk : Bool → Prop} (h : Ex c Γ t fun x => ∃ l, x = .lst l ∧ kk (!l.isEmpty)) : ExT c Γ (tTr c.K t) kk := fun H0 own σ H Q R q =>
  h H0 own σ H _ R fun x v H1 ⟨l, e, z⟩ s1 r1 => by
    subst e
    obtain ⟨a, xs, rfl, ha, _, r⟩ := r1.lst_of
    refine ⟨_, .inl ⟨xs, SqL.of ha, rfl⟩, ?_⟩
    rw [show xs.isEmpty = l.isEmpty from by cases r <;> rfl]
    exact q _ H1 z s1
/-- a op b op' c -/
theorem ext_chain {r r' : R2} {kk : Bool → Prop} (h : Ex c Γ t fun x => Ex c Γ u fun y => OpD c r x y fun z => ∃ b, z = .bl b ∧ if b = true then Ex c Γ tz fun w => OpD c r' y w fun z => ∃ b, z = .bl b ∧ kk b else kk false) : ExT c Γ (tTest (tChain r r' t u tz)) kk := fun H0 own σ H Q E q =>
  h H0 own σ H _ E fun x v H1 h1 s1 r1 => h1 H0 own σ H1 _ (E.stay s1) fun y w H2 h2 s2 r2 => by
    refine h2 H0 own H2 v w _ ((E.b.stay s1).stay s2) (r1.mono (s2.ms E.b.pw own)) r2 fun z zv H3 ⟨b, e, h3⟩ s3 r3 => ?_
    subst e
    cases r3
    refine ⟨b, rfl, ?_⟩
    cases b with
    | false => exact ⟨false, rfl, q false H3 h3 ((s1.trans s2).trans s3)⟩
    | true =>
      refine h3 H0 own σ H3 _ (((E.stay s1).stay s2).stay s3) fun x4 v4 H4 h4 s4 r4 => ?_
      exact h4 H0 own H4 w v4 _ ((((E.b.stay s1).stay s2).stay s3).stay s4) (r2.mono ((s3.trans s4).ms E.b.pw own)) r4 fun z5 v5 H5 ⟨b5, e5, h5⟩ s5 r5 => by
        subst e5
        cases r5
        exact ⟨b5, rfl, q b5 H5 h5 ((((s1.trans s2).trans s3).trans s4).trans s5)⟩
end
end Tl
/-! ## T8 -/
set_option Elab.async false
set_option linter.all false
set_option maxRecDepth 100000
set_option maxHeartbeats 4000000
/-! the order of plain data; sorted lists without doubles -/
namespace Tl
open PySem PySem.Spec PyProof.Rows L2 He Vx
open PySem.W (alike keyToks dataLe AllAlike)
/-- x ≤ y -/
def leD (x y : D) : Bool := dataLe false D.py x y
theorem leD_tot : PySem.W.TotalLe leD := PySem.W.sortLe_total (listOrd itemOrd) false fun b : D => keyToks b.py
theorem toks_inj {x y : PyData} (h : alike x y = true) (e : keyToks x = keyToks y) : PyData.eqv x y = true := by
  cases q : PyData.eqv x y with
  | true => rfl
  | false =>
    have z := (PySem.W.toks_eqv x y h).2 q [] [Sum.inl 0]
    rw [e, PySem.W.lex_pre, show PyProof.Rows.lexLt itemOrd (keyToks y) (keyToks y) = false from (listOrd itemOrd).irrefl _] at z
    cases z
theorem leD_anti {d e : D} (al : alike d.py e.py = true) (h1 : leD d e = true) (h2 : leD e d = true) : PyData.eqv d.py e.py = true := by
  refine toks_inj al ((listOrd itemOrd).total _ _ ?_ ?_)
  · have z : (!(listOrd itemOrd).blt (keyToks d.py) (keyToks e.py)) = true := h2
    exact Bool.not_eq_true' _ ▸ z
  · have z : (!(listOrd itemOrd).blt (keyToks e.py) (keyToks d.py)) = true := h1
    exact Bool.not_eq_true' _ ▸ z
section
variable {α : Type}
theorem srt_unique {le : α → α → Bool} : ∀ {l m : List α}, l.Nodup → m.Nodup → (∀ x, x ∈ l ↔ x ∈ m) → l.Pairwise (fun a b => le a b = true) → m.Pairwise (fun a b => le a b = true) → (∀ x ∈ l, ∀ y ∈ l, le x y = true → le y x = true → x = y) → l = m
  | [], m, _, _, h, _, _, _ => by
    cases m with
    | nil => rfl
    | cons y m => exact absurd ((h y).mpr (List.mem_cons_self ..)) (List.not_mem_nil)
  | x :: l, [], _, _, h, _, _, _ => absurd ((h x).mp (List.mem_cons_self ..)) (List.not_mem_nil)
  | x :: l, y :: m, n1, n2, h, p1, p2, anti => by
    rw [List.nodup_cons] at n1 n2
    rw [List.pairwise_cons] at p1 p2
    have e : x = y := by
      rcases List.mem_cons.mp ((h x).mp (List.mem_cons_self ..)) with e | hx
      · exact e
      rcases List.mem_cons.mp ((h y).mpr (List.mem_cons_self ..)) with e | hy
      · exact e.symm
      · exact anti x (List.mem_cons_self ..) y (List.mem_cons_of_mem _ hy) (p1.1 y hy) (p2.1 x hx)
    subst e
    have h' : ∀ z, z ∈ l ↔ z ∈ m := fun z => ⟨fun hz => ((List.mem_cons.mp ((h z).mp (List.mem_cons_of_mem _ hz))).resolve_left fun e => n1.1 (e ▸ hz)), fun hz => ((List.mem_cons.mp ((h z).mpr (List.mem_cons_of_mem _ hz))).resolve_left fun e => n2.1 (e ▸ hz))⟩
    rw [srt_unique n1.2 n2.2 h' p1.2 p2.2 fun a ha b hb => anti a (List.mem_cons_of_mem _ ha) b (List.mem_cons_of_mem _ hb)]
variable [DecidableEq α]
/-- without doubles -/
def dd : List α → List α
  | [] => []
  | x :: l => if x ∈ l then dd l else x :: dd l
theorem mem_dd {x : α} : ∀ {l : List α}, x ∈ dd l ↔ x ∈ l
  | [] => Iff.rfl
  | y :: l => by
    rw [dd]
    split
    · rename_i h
      rw [mem_dd, List.mem_cons]
      exact ⟨.inr, fun z => z.elim (fun e => e ▸ h) id⟩
    · rw [List.mem_cons, List.mem_cons, mem_dd]
theorem dd_nodup : ∀ l : List α, (dd l).Nodup
  | [] => List.nodup_nil
  | y :: l => by
    rw [dd]
    split
    · exact dd_nodup l
    · rename_i h
      exact List.nodup_cons.mpr ⟨fun z => h (mem_dd.mp z), dd_nodup l⟩
theorem dd_id : ∀ {l : List α}, l.Nodup → dd l = l
  | [], _ => rfl
  | x :: l, h => by
    rw [List.nodup_cons] at h
    rw [dd, if_neg h.1, dd_id h.2]
theorem dd_len : ∀ l : List α, (dd l).length ≤ l.length
  | [] => Nat.le_refl _
  | y :: l => by
    rw [dd]
    have := dd_len l
    split
    · rw [List.length_cons]
      omega
    · rw [List.length_cons, List.length_cons]
      omega
end
/-- tuples of one sort, as data -/
structure TupE (α : Type) where
  enc : α → D
  key : α → NestedKey
  tup : ∀ a, ∃ x l, enc a = .tup (x :: l)
  hk : ∀ a, (enc a).key = some (key a)
  kinj : ∀ a b, key a = key b → a = b
  dep : ∀ a, (key a).depth ≤ 8
  al : ∀ a b, alike (enc a).py (enc b).py = true
  inj : ∀ a b, PyData.eqv (enc a).py (enc b).py = true → a = b
  dt : ∀ a, (enc a).data = true
  d20 : ∀ a, (enc a).py.depth ≤ 20
section
variable {α : Type} (T : TupE α)
def TupE.le (a b : α) : Bool := leD (T.enc a) (T.enc b)
theorem TupE.tot : PySem.W.TotalLe T.le := ⟨fun a b c => leD_tot.trans _ _ _, fun a b => leD_tot.total _ _⟩
theorem TupE.anti {a b : α} (h1 : T.le a b = true) (h2 : T.le b a = true) : a = b := T.inj a b (leD_anti (T.al a b) h1 h2)
/-- sorted(set(l)) -/
def TupE.srt [DecidableEq α] (l : List α) : List α := (dd l).mergeSort T.le
theorem TupE.mem_srt [DecidableEq α] {l : List α} {x : α} : x ∈ T.srt l ↔ x ∈ l := (List.mergeSort_perm _ _).mem_iff.trans mem_dd
theorem TupE.srt_nodup [DecidableEq α] (l : List α) : (T.srt l).Nodup := ((List.mergeSort_perm _ _).nodup_iff).mpr (dd_nodup l)
theorem TupE.srt_sorted [DecidableEq α] (l : List α) : (T.srt l).Pairwise (fun a b => T.le a b = true) := PySem.W.sort_pairwise T.tot _
theorem TupE.srt_eq [DecidableEq α] {l m : List α} (n : m.Nodup) (p : m.Pairwise (fun a b => T.le a b = true)) (h : ∀ x, x ∈ m ↔ x ∈ l) : T.srt l = m :=
  srt_unique (T.srt_nodup l) n (fun x => T.mem_srt.trans (h x).symm) (T.srt_sorted l) p fun x _ y _ => T.anti
theorem TupE.srt_congr [DecidableEq α] {l m : List α} (h : ∀ x, x ∈ l ↔ x ∈ m) : T.srt l = T.srt m := T.srt_eq (T.srt_nodup m) (T.srt_sorted m) fun x => T.mem_srt.trans (h x).symm
open Classical in
noncomputable def TupE.dec (k : NestedKey) : Option α := if h : ∃ a, T.key a = k then some h.choose else none
theorem TupE.dec_key (a : α) : T.dec (T.key a) = some a := by
  unfold TupE.dec
  have h : ∃ b, T.key b = T.key a := ⟨a, rfl⟩
  rw [dif_pos h]
  exact congrArg some (T.kinj _ _ h.choose_spec)
end
section
variable {c : C1} {Γ : List Sl} {t : TE} {k : List D → Prop} {α : Type} [DecidableEq α]
/-- sorted(set(xs)), xs a list of tuples of one sort -/
theorem exl_ssT (T : TupE α) {w : World} (h : Ex c Γ t fun x => ∃ m : List α, x = .lst (m.map T.enc) ∧ m.length < 64 ∧ k ((T.srt m).map T.enc)) : ExL c Γ (tCB (rSortH c.K w) (tCons (tCB (rSetT c.K w) (tCons t tNil)) tNil)) k := fun H0 own σ H Q E q =>
  h H0 own σ H _ E fun x v H1 ⟨m, e, few, hk⟩ s1 r1 => by
    subst e
    obtain ⟨a, xs, rfl, ha, _, r⟩ := r1.lst_of
    have b1 := E.b.stay s1
    -- the entries
    have ent : ∀ {m : List α} {xs : List V}, DRs c.K (msk (c.W ++ own) H1) xs (m.map T.enc) → ∃ ps : List Sb.Ent, xs = ps.map (fun p => V.ref p.1) ∧ ps.length = m.length ∧ ps.map Prod.snd = m.map T.key ∧ ∀ p ∈ ps, ∃ y, p.2 = T.key y ∧ DR c.K (msk (c.W ++ own) H1) (.ref p.1) (T.enc y) := by
      intro m
      induction m with
      | nil =>
        intro xs r
        cases r
        exact ⟨[], rfl, rfl, rfl, fun _ h => nomatch h⟩
      | cons y m ih =>
        intro xs r
        rw [List.map_cons] at r
        cases r with
        | cons ra rb =>
          obtain ⟨ps, e1, e2, e3, e4⟩ := ih rb
          obtain ⟨z, l, et⟩ := T.tup y
          have ra' := ra
          rw [et] at ra'
          obtain ⟨b, _, rfl, _, _⟩ := ra'.tup_of
          exact ⟨(b, T.key y) :: ps, by rw [e1]; rfl, by rw [List.length_cons, e2]; rfl, by rw [List.map_cons, e3]; rfl, fun p hp => (List.mem_cons.mp hp).elim (fun e => ⟨y, by rw [e], by rw [e]; exact ra⟩) (e4 p)⟩
    obtain ⟨ps, rfl, lp, kp, gp⟩ := ent r
    refine ⟨a, ps, rfl, SqL.of ha, fun p hp => ?_, by omega, fun q0 L hq sub all nd => ?_⟩
    · obtain ⟨y, e1, e2⟩ := gp p hp
      exact ⟨_, e2.mono mk_all, by rw [e1]; exact T.hk y, by rw [e1]; exact T.dep y⟩
    · have st2 : Stay c H1 (upd H1 q0 (SetH w q0 L)) := b1.made hq
      have b2 := b1.stay st2
      have gL : ∀ p ∈ L, ∃ y, p.2 = T.key y ∧ y ∈ m ∧ DR c.K (msk (c.W ++ own) (upd H1 q0 (SetH w q0 L))) (.ref p.1) (T.enc y) := fun p hp => by
        obtain ⟨y, e1, e2⟩ := gp p (sub p hp)
        refine ⟨y, e1, ?_, e2.mono (st2.ms b1.pw own)⟩
        have : p.2 ∈ m.map T.key := kp ▸ List.mem_map_of_mem (sub p hp)
        obtain ⟨y', hy', ey⟩ := List.mem_map.mp this
        exact T.kinj y' y (ey.trans e1) ▸ hy'
      have ed : ∀ p ∈ L, ∀ y, p.2 = T.key y → T.dec p.2 = some y := fun p hp y e => by rw [e, T.dec_key]
      refine ⟨q0, L, fun b => (T.dec b.2).elim .none fun y => (T.enc y).py, rfl, upd_same, fun p hp => ?_, ?_, ?_, fun p hp => ?_, fun p0 L1 hp pm => ?_⟩
      · obtain ⟨y, e1, _, e2⟩ := gL p hp
        show Da _ _ _ ((T.dec p.2).elim .none fun y => (T.enc y).py)
        rw [ed p hp y e1]
        exact (e2.mono mk_all).da (T.dt y)
      · intro d hd d' hd'
        obtain ⟨p, hp, rfl⟩ := List.mem_map.mp hd
        obtain ⟨p', hp', rfl⟩ := List.mem_map.mp hd'
        obtain ⟨y, e1, _, _⟩ := gL p hp
        obtain ⟨y', e1', _, _⟩ := gL p' hp'
        show alike ((T.dec p.2).elim .none fun y => (T.enc y).py) ((T.dec p'.2).elim .none fun y => (T.enc y).py) = true
        rw [ed p hp y e1, ed p' hp' y' e1']
        exact T.al y y'
      · refine .inl fun d hd => ?_
        obtain ⟨p, hp, rfl⟩ := List.mem_map.mp hd
        obtain ⟨y, e1, _, _⟩ := gL p hp
        obtain ⟨z, l, et⟩ := T.tup y
        refine ⟨z.py, D.pys l, ?_⟩
        show ((T.dec p.2).elim PyData.none fun y => (T.enc y).py) = _
        rw [ed p hp y e1]
        show (T.enc y).py = _
        rw [et]
        rfl
      · obtain ⟨y, e1, _, _⟩ := gL p hp
        show ((T.dec p.2).elim PyData.none fun y => (T.enc y).py).depth ≤ 20
        rw [ed p hp y e1]
        exact T.d20 y
      · -- the sorted entries stand for the sorted list
        generalize hM : L1.mergeSort (dataLe false fun b : Sb.Ent => (T.dec b.2).elim PyData.none fun y => (T.enc y).py) = M
        have mL : ∀ p, p ∈ M ↔ p ∈ L := fun p => (hM ▸ (List.mergeSort_perm _ _).mem_iff).trans pm.mem_iff
        have ex : ∀ {N : List Sb.Ent}, (∀ p ∈ N, p ∈ L) → ∃ ys : List α, N.map Prod.snd = ys.map T.key ∧ DRs c.K (msk (c.W ++ own) (upd H1 q0 (SetH w q0 L))) (N.map fun p => V.ref p.1) (ys.map T.enc) ∧ ∀ y, y ∈ ys ↔ ∃ p ∈ N, p.2 = T.key y := by
          intro N
          induction N with
          | nil => exact fun _ => ⟨[], rfl, .nil, fun y => ⟨fun h => (List.not_mem_nil h).elim, fun ⟨p, h, _⟩ => (List.not_mem_nil h).elim⟩⟩
          | cons p N ih =>
            intro hN
            obtain ⟨ys, e1, e2, e3⟩ := ih fun x hx => hN x (List.mem_cons_of_mem _ hx)
            obtain ⟨y, f1, _, f2⟩ := gL p (hN p (List.mem_cons_self ..))
            refine ⟨y :: ys, by rw [List.map_cons, e1, f1]; rfl, .cons f2 e2, fun z => ?_⟩
            rw [List.mem_cons, e3]
            constructor
            · rintro (rfl | ⟨p', h1, h2⟩)
              · exact ⟨p, List.mem_cons_self .., f1⟩
              · exact ⟨p', List.mem_cons_of_mem _ h1, h2⟩
            · rintro ⟨p', h1, h2⟩
              rcases List.mem_cons.mp h1 with rfl | h1
              · exact .inl (T.kinj _ _ (h2.symm.trans f1))
              · exact .inr ⟨p', h1, h2⟩
        obtain ⟨ys, e1, e2, e3⟩ := ex (N := M) fun p hp => (mL p).mp hp
        have ndM : (M.map Prod.snd).Nodup := by
          have p2 : M.Perm L := (hM ▸ List.mergeSort_perm _ _ : M.Perm L1).trans pm
          exact ((p2.map Prod.snd).nodup_iff).mpr nd
        have ndY : ys.Nodup := by
          rw [e1] at ndM
          exact List.Pairwise.imp_of_mem (fun ha hb z e => z (by rw [e])) (List.pairwise_map.mp ndM)
        have srtY : ys.Pairwise fun a b => T.le a b = true := by
          have pw : M.Pairwise (fun a b => dataLe false (fun b : Sb.Ent => (T.dec b.2).elim PyData.none fun y => (T.enc y).py) a b = true) := hM ▸ PySem.W.sort_pairwise (PySem.W.sortLe_total _ _ _) L1
          have go : ∀ {N : List Sb.Ent} {zs : List α}, N.map Prod.snd = zs.map T.key → N.Pairwise (fun a b => dataLe false (fun b : Sb.Ent => (T.dec b.2).elim PyData.none fun y => (T.enc y).py) a b = true) → zs.Pairwise fun a b => T.le a b = true := by
            intro N
            induction N with
            | nil =>
              intro zs e _
              cases zs with
              | nil => exact .nil
              | cons z zs => cases e
            | cons p N ih =>
              intro zs e pw
              cases zs with
              | nil => cases e
              | cons z zs =>
                rw [List.map_cons, List.map_cons] at e
                obtain ⟨ez, er⟩ := List.cons.inj e
                rw [List.pairwise_cons] at pw
                refine List.pairwise_cons.mpr ⟨fun y hy => ?_, ih er pw.2⟩
                have : T.key y ∈ N.map Prod.snd := er ▸ List.mem_map_of_mem hy
                obtain ⟨p', hp', ep'⟩ := List.mem_map.mp this
                have q := pw.1 p' hp'
                have d1 : T.dec p.2 = some z := by rw [ez, T.dec_key]
                have d2 : T.dec p'.2 = some y := by rw [ep', T.dec_key]
                have q2 : dataLe false (fun b : Sb.Ent => (T.dec b.2).elim PyData.none fun y => (T.enc y).py) p p' = leD (T.enc z) (T.enc y) := by
                  show (!(listOrd itemOrd).blt (keyToks ((T.dec p'.2).elim PyData.none fun y => (T.enc y).py)) (keyToks ((T.dec p.2).elim PyData.none fun y => (T.enc y).py))) = (!(listOrd itemOrd).blt (keyToks (T.enc y).py) (keyToks (T.enc z).py))
                  rw [d1, d2]
                  rfl
                rw [q2] at q
                exact q
          exact go e1 pw
        have fin : T.srt m = ys := T.srt_eq ndY srtY fun y => by
          rw [e3]
          constructor
          · rintro ⟨p, hp, e⟩
            obtain ⟨y', f1, f2, _⟩ := gL p ((mL p).mp hp)
            exact T.kinj _ _ (f1.symm.trans e) ▸ f2
          · intro hy
            have hk0 : T.key y ∈ ps.map Prod.snd := kp ▸ List.mem_map_of_mem hy
            obtain ⟨p, hp, ep⟩ := List.mem_map.mp hk0
            obtain ⟨p', hp', ep'⟩ := List.mem_map.mp (all p hp)
            exact ⟨p', (mL p').mpr hp', ep'.trans ep⟩
        rw [fin] at hk
        exact laid b2 hp hk e2 fun l a xs H' z st n e r => q l a xs H' z ((s1.trans st2).trans st) ((s1.trans st2).new b2 n) e r
end
/-- the steps of a box -/
def mvE : TupE Mv where
  enc := mvD
  key := fun m => .tup [.num m.a, .text m.c, .text m.z, .num m.b]
  tup := fun m => ⟨_, _, rfl⟩
  hk := fun m => rfl
  kinj := fun a b h => by
    cases a
    cases b
    simp at h
    simp [h]
  dep := fun m => by simp [NestedKey.depth, NestedKey.depthAll]
  al := fun a b => by simp [mvD, D.py, D.pys, alike, PySem.W.alikeAll]
  inj := fun a b h => by
    cases a
    cases b
    simp [mvD, D.py, D.pys, PyData.eqv, PyData.eqvAll] at h
    simp [h]
  dt := fun m => rfl
  d20 := fun m => by simp [mvD, D.py, D.pys, PyData.depth, PyData.depthAll]
/-- a sign -/
def sgD (p : Str × Str) : D := .tup [.str p.1, .str p.2]
def sgE : TupE (Str × Str) where
  enc := sgD
  key := fun m => .tup [.text m.1, .text m.2]
  tup := fun m => ⟨_, _, rfl⟩
  hk := fun m => rfl
  kinj := fun a b h => by
    cases a
    cases b
    simp at h
    simp [h]
  dep := fun m => by simp [NestedKey.depth, NestedKey.depthAll]
  al := fun a b => by simp [sgD, D.py, D.pys, alike, PySem.W.alikeAll]
  inj := fun a b h => by
    cases a
    cases b
    simp [sgD, D.py, D.pys, PyData.eqv, PyData.eqvAll] at h
    simp [h]
  dt := fun m => rfl
  d20 := fun m => by simp [sgD, D.py, D.pys, PyData.depth, PyData.depthAll]
/-! ints -/
def leI (a b : Int) : Bool := decide (a ≤ b)
theorem leI_tot : PySem.W.TotalLe leI := ⟨fun a b c h1 h2 => decide_eq_true (Int.le_trans (of_decide_eq_true h1) (of_decide_eq_true h2)), fun a b => (Int.le_total a b).imp decide_eq_true decide_eq_true⟩
def sI (l : List Int) : List Int := (dd l).mergeSort leI
theorem mem_sI {l : List Int} {x : Int} : x ∈ sI l ↔ x ∈ l := (List.mergeSort_perm _ _).mem_iff.trans mem_dd
theorem sI_nodup (l : List Int) : (sI l).Nodup := ((List.mergeSort_perm _ _).nodup_iff).mpr (dd_nodup l)
theorem sI_sorted (l : List Int) : (sI l).Pairwise (fun a b => leI a b = true) := PySem.W.sort_pairwise leI_tot _
theorem sI_eq {l m : List Int} (n : m.Nodup) (p : m.Pairwise (fun a b => leI a b = true)) (h : ∀ x, x ∈ m ↔ x ∈ l) : sI l = m :=
  srt_unique (sI_nodup l) n (fun x => mem_sI.trans (h x).symm) (sI_sorted l) p fun x _ y _ h1 h2 => Int.le_antisymm (of_decide_eq_true h1) (of_decide_eq_true h2)
theorem sI_congr {l m : List Int} (h : ∀ x, x ∈ l ↔ x ∈ m) : sI l = sI m := sI_eq (sI_nodup m) (sI_sorted m) fun x => mem_sI.trans (h x).symm
section
variable {c : C1} {Γ : List Sl} {t : TE} {k : List D → Prop}
theorem drs_ints {K : PySem.W.Frag} {H : Hp} : ∀ {xs : List V} {l : List Int}, DRs K H xs (l.map D.int) → xs = l.map V.int
  | _, [], r => by
    cases r
    rfl
  | _, i :: l, r => by
    rw [List.map_cons] at r
    cases r with
    | cons a b =>
      cases a
      rw [drs_ints b]
      rfl
theorem ints_drs {K : PySem.W.Frag} {H : Hp} : ∀ l : List Int, DRs K H (l.map V.int) (l.map D.int)
  | [] => .nil
  | i :: l => .cons (.int i) (ints_drs l)
/-- sorted(set(xs)), xs a list of ints -/
theorem exl_ssI {w : World} (h : Ex c Γ t fun x => ∃ m : List Int, x = .lst (m.map D.int) ∧ m.length < 64 ∧ k ((sI m).map D.int)) : ExL c Γ (tCB (rSortedSet w) (tCons (tCB (rSetL c.K w) (tCons t tNil)) tNil)) k := fun H0 own σ H Q E q =>
  h H0 own σ H _ E fun x v H1 ⟨m, e, few, hk⟩ s1 r1 => by
    subst e
    obtain ⟨a, xs, rfl, ha, _, r⟩ := r1.lst_of
    have b1 := E.b.stay s1
    have ex := drs_ints r
    subst ex
    refine ⟨a, m, rfl, SqL.of ha, by omega, fun p n hp hn => ⟨p, _, n, rfl, upd_same, by omega, fun ns p' pw hm _ hp' => ?_⟩⟩
    have e : sI m = ns := sI_eq (pw.imp fun h e => by rw [e] at h; exact absurd h (Int.lt_irrefl _)) (pw.imp fun h => decide_eq_true (Int.le_of_lt h)) fun x => (hm x).trans ⟨of_decide_eq_true, decide_eq_true⟩
    rw [e] at hk
    have st2 : Stay c H1 (upd H1 p (SetO w p (fun j => decide (j ∈ m)) n)) := b1.made hp
    have b2 := b1.stay st2
    exact laid b2 hp' hk (ints_drs ns) fun l a xs H' z st n e r => q l a xs H' z ((s1.trans st2).trans st) ((s1.trans st2).new b2 n) e r
end
end Tl
/-! ## T9 -/
set_option Elab.async false
set_option linter.all false
set_option maxRecDepth 100000
set_option maxHeartbeats 4000000
/-! more of lists and dicts -/
namespace Tl
open PySem PySem.Spec PyProof.Rows L2 He Vx
open PySem.W (alike keyToks dataLe AllAlike)
section
variable {c : C1} {Γ : List Sl} {t u : TE} {P : Post} {k : D → Prop}
/-! sorted -/
theorem exl_sort {ds : D → Prop} {k : List D → Prop} (h : Ex c Γ t fun x => ∃ l, (x = .lst l ∨ x = .tup l) ∧ D.datas l = true ∧ PySem.W.AllAlike (l.map D.py) ∧ PySem.W.Sortable (l.map D.py) ∧ (∀ e ∈ l, e.py.depth ≤ 20) ∧ k (l.mergeSort leD)) : ExL c Γ (tCB (rSortS c.K) (tCons t tNil)) k :=
  exl_cb (exa_cons (h.imp fun x ⟨l, e, h1, h2, h3, h4, hk⟩ => exa_nil (kl_sort e h1 h2 h3 h4 hk)))
theorem sort_map {α : Type} {f : α → D} {le : α → α → Bool} (h : ∀ a b, leD (f a) (f b) = le a b) (l : List α) : (l.map f).mergeSort leD = (l.mergeSort le).map f :=
  (List.map_mergeSort (r := le) (s := leD) (f := f) (l := l) fun a _ b _ => (h a b).symm).symm
theorem exl_sortT {α : Type} [DecidableEq α] (T : TupE α) {k : List D → Prop} (h : Ex c Γ t fun x => ∃ m : List α, (x = .lst (m.map T.enc) ∨ x = .tup (m.map T.enc)) ∧ m.Nodup ∧ k ((T.srt m).map T.enc)) : ExL c Γ (tCB (rSortS c.K) (tCons t tNil)) k :=
  exl_sort (ds := fun _ => True) (h.imp fun x ⟨m, e, nd, hk⟩ => by
    refine ⟨m.map T.enc, e, ?_, ?_, .inl fun d hd => ?_, fun d hd => ?_, ?_⟩
    · rw [datas_all, List.all_eq_true]
      intro d hd
      obtain ⟨a, _, rfl⟩ := List.mem_map.mp hd
      exact T.dt a
    · intro d hd d' hd'
      rw [List.map_map] at hd hd'
      obtain ⟨a, _, rfl⟩ := List.mem_map.mp hd
      obtain ⟨b, _, rfl⟩ := List.mem_map.mp hd'
      exact T.al a b
    · rw [List.map_map] at hd
      obtain ⟨a, _, rfl⟩ := List.mem_map.mp hd
      obtain ⟨z, l, et⟩ := T.tup a
      exact ⟨z.py, D.pys l, by show (T.enc a).py = _; rw [et]; rfl⟩
    · obtain ⟨a, _, rfl⟩ := List.mem_map.mp hd
      exact T.d20 a
    · rw [sort_map (le := T.le) fun _ _ => rfl]
      rw [show T.srt m = m.mergeSort T.le from T.srt_eq (((List.mergeSort_perm _ _).nodup_iff).mpr nd) (PySem.W.sort_pairwise T.tot _) fun x => (List.mergeSort_perm _ _).mem_iff] at hk
      exact hk)
theorem leD_int (a b : Int) : leD (.int a) (.int b) = leI a b := by
  have h := congrFun (congrFun (PySem.W.dataLe_int (β := Int) id) a) b
  exact h
theorem exl_sortI {k : List D → Prop} (h : Ex c Γ t fun x => ∃ m : List Int, (x = .lst (m.map D.int) ∨ x = .tup (m.map D.int)) ∧ m.Nodup ∧ k ((sI m).map D.int)) : ExL c Γ (tCB (rSortS c.K) (tCons t tNil)) k :=
  exl_sort (ds := fun _ => True) (h.imp fun x ⟨m, e, nd, hk⟩ => by
    refine ⟨m.map D.int, e, ?_, ?_, .inr fun d hd => ?_, fun d hd => ?_, ?_⟩
    · rw [datas_all, List.all_eq_true]
      intro d hd
      obtain ⟨a, _, rfl⟩ := List.mem_map.mp hd
      rfl
    · intro d hd d' hd'
      rw [List.map_map] at hd hd'
      obtain ⟨a, _, rfl⟩ := List.mem_map.mp hd
      obtain ⟨b, _, rfl⟩ := List.mem_map.mp hd'
      rfl
    · rw [List.map_map] at hd
      obtain ⟨a, _, rfl⟩ := List.mem_map.mp hd
      exact And.intro (fun z => by cases z) (fun _ z => by cases z)
    · obtain ⟨a, _, rfl⟩ := List.mem_map.mp hd
      show 0 ≤ 20
      omega
    · rw [sort_map leD_int]
      rw [show sI m = m.mergeSort leI from sI_eq (((List.mergeSort_perm _ _).nodup_iff).mpr nd) (PySem.W.sort_pairwise leI_tot _) fun x => (List.mergeSort_perm _ _).mem_iff] at hk
      exact hk)
/-- sorted(d), d the dict of a slot, its keys ints -/
theorem exl_sortK {i : Nat} {ns : List Int} {l : List D} {k : List D → Prop} (h : Γ[i]? = some (.ownK (ns.map Sum.inl) l)) (nd : ns.Nodup) (few : ns.length < 64) (hk : k ((sI ns).map D.int)) :
    ExL c Γ (tCB (fun xs H Q => ∃ (a : Addr) (kvs : List (L2.Key × V)) (ks : List Int), xs = [.ref a] ∧ Rd H a (.dK kvs) ∧ kvs.map (·.1) = ks.map Sum.inl ∧ ks.length < 64 ∧
      ∀ (ys : List Int) (p : Addr), ys.Perm ks → ys.Pairwise (· ≤ ·) → H p = none → Q (.ref p) (upd H p (.lst (ys.map V.int)))) (tCons (tVar i) tNil)) k := fun H0 own σ H Q E q => by
  obtain ⟨o, es, a, kvs, rfl, ha, hx, hks, r⟩ := E.at_ h
  refine ⟨_, es, a, kvs, ns, rfl, .inl hx, hks, few, fun ys p pm pw hp => ?_⟩
  have e : sI ns = ys := sI_eq ((pm.nodup_iff).mpr nd) (pw.imp fun h => decide_eq_true h) fun x => pm.mem_iff
  rw [e] at hk
  exact laid E.b hp hk (ints_drs ys) q
/-! what slots hold -/
/-- x = xs.pop() -/
theorem sx_setPop {i j : Nat} {l : List D} {d : D} (h : Γ[i]? = some (.own (l ++ [d]))) (ne : i ≠ j) (hk : P.nx ((Γ.set i (.own l)).set j (.val d))) : Sx c Γ (tAsg (tBM0 c.K "list" rPop (tVar i)) (gName j)) P := fun H0 own σ H E R e => by
  obtain ⟨o, es, a, xs, rfl, ha, hx, r⟩ := R.at_ h
  have hl := r.len
  rw [List.length_append] at hl
  have l1 : l.length < (l ++ [d]).length := by rw [List.length_append]; exact Nat.lt_succ_self _
  obtain ⟨v, e1, rv⟩ := r.get (i := l.length) (d := d) (by rw [List.getElem?_append_right (Nat.le_refl _)]; simp)
  refine ⟨_, es, .inl ⟨rfl, xs, SqL.of hx⟩, a, xs, v, rfl, rfl, hx, ?_, ?_⟩
  · rw [hl]
    exact e1
  · have rt := r.take l.length
    rw [List.take_left] at rt
    have ed : xs.dropLast = xs.take l.length := by
      rw [List.dropLast_eq_take, hl]
      rfl
    rw [ed]
    have R1 := R.lset h es ha rt
    have rv' : DR c.K (msk (c.W ++ own) (upd H a (.lst (xs.take l.length)))) v d := rv.mono (Base.wsame ha)
    exact e.nx own _ _ _ (R1.put rv' j) hk
/-- xs.append(xs.pop(0)) -/
theorem sx_rot {i : Nat} {l : List D} {d : D} (h : Γ[i]? = some (.own (d :: l))) (hs : l.length < sizeLine) (hk : P.nx (Γ.set i (.own (l ++ [d])))) : Sx c Γ (tDrop (tBM c.K "list" rAppend (tVar i) (tCons (tBM c.K "list" rPopAt (tVar i) (tCons (tC (.int 0)) tNil)) tNil))) P := fun H0 own σ H E R e => by
  obtain ⟨o, es, a, xs, rfl, ha, hx, r⟩ := R.at_ h
  cases r with
  | @cons v vs _ _ rv rr =>
    refine ⟨_, es, .inl ⟨rfl, _, SqL.of hx⟩, _, es, .inl ⟨rfl, _, SqL.of hx⟩, a, _, 0, 0, v, rfl, rfl, hx, by decide, by decide, ?_, rfl, ?_⟩
    · unfold seqIndex?
      simp
    · refine ⟨a, vs, v, rfl, rfl, by rw [upd_same]; rfl, by rw [rr.len]; exact hs, ?_⟩
      have R1 := R.lset (xs := vs) h es ha rr
      have R2 := R1.lset (i := i) (l := l) (xs := vs ++ [v]) (List.getElem?_set_self (List.getElem?_eq_some_iff.mp h).1) es ha ((rr.mono (Base.wsame ha)).app (.cons (rv.mono (Base.wsame ha)) .nil))
      rw [List.set_set] at R2
      exact e.nx own _ _ _ R2 hk
theorem Stay.wnew {H0 H H' : Hp} {own : List Addr} {a : Addr} {o : HO} (st : Stay c H H') (b : Base c H0 own H) (n : H a = none) : Stay c H (upd H' a o) where
  pot := fun p e z => by
    obtain ⟨x, y, q, r⟩ := st.pot p e z
    exact ⟨x, y, (upd_ne fun z2 => pot_some z (by rw [z2]; exact n)).trans q, r⟩
  keep := fun x u e => by
    obtain ⟨nx, q⟩ := mk_some (st.keep x u e)
    have ne : x ≠ a := fun z => by
      obtain ⟨_, e⟩ := mk_some e
      rw [z, n] at e
      cases e
    rw [mk_out nx, upd_ne ne]
    exact q
/-- (a new list).clear() -/
theorem sx_clearL (h : ExL c Γ t fun _ => P.nx Γ) : Sx c Γ (tDrop (tBM0 c.K "list" rClear t)) P := fun H0 own σ H E R e =>
  h H0 own σ H _ R fun l a xs H' z st n ea r => by
    refine ⟨.inl ⟨rfl, xs, SqL.of ea⟩, a, xs, rfl, rfl, ea, ?_⟩
    exact e.nx own σ _ Γ (R.stay (st.wnew R.b n)) z
end
end Tl
/-! ## T10 -/
set_option Elab.async false
set_option linter.all false
set_option maxRecDepth 100000
set_option maxHeartbeats 4000000
/-! new dicts, enumerate, index -/
namespace Tl
open PySem PySem.Spec PyProof.Rows L2 He Vx
/-- an expression gives a dict that nobody else has -/
def ExK (c : C1) (Γ : List Sl) (t : TE) (k : List L2.Key → List D → Prop) : Prop := ∀ H0 own σ H (Q : VK), EnvR c H0 own H σ Γ →
  (∀ ks l a kvs H', k ks l → Stay c H H' → H a = none → H' a = some (.dK kvs) → kvs.map Prod.fst = ks → DRs c.K (msk (c.W ++ a :: own) H') (kvs.map Prod.snd) l → Q (.ref a) H') → t σ H Q
section
variable {c : C1} {Γ : List Sl} {t u : TE} {P : Post} {k : D → Prop}
theorem ex_K (h : ExK c Γ t fun ks l => k (.dK ks l)) : Ex c Γ t k := fun H0 own σ H Q E q => h H0 own σ H Q E fun ks l a kvs H' z st n e hk r => by
  obtain ⟨nw, no, _⟩ := E.b.free n
  have na : a ∉ c.W ++ own := fun z => (List.mem_append.mp z).elim nw no
  subst hk
  refine q _ _ H' z st (.dK ((mk_out na).trans e) (r.mono (mk_sub fun x hx => ?_)))
  rcases List.mem_append.mp hx with hx | hx
  · exact List.mem_append_left _ hx
  · exact List.mem_append_right _ (List.mem_cons_of_mem _ hx)
/-- a slot gets an own thing that is new -/
theorem EnvR.putS {H0 H : Hp} {own : List Addr} {σ : L2.St} (E : EnvR c H0 own H σ Γ) {a : Addr} {s : Sl} (h : a ∉ own) (hs : s.isOwn = true) (b : Base c H0 (a :: own) H) (r : SlR c (a :: own) H (some (.ref a)) s) (i : Nat)
    (nr : ∀ (j : Nat) (s : Sl) (o : Option V), Γ[j]? = some s → σ[j]? = some o → SlR c (a :: own) H o s) : EnvR c H0 (a :: own) H (σ.set i (some (.ref a))) (Γ.set i s) where
  b := b
  len := by rw [List.length_set, List.length_set, E.len]
  sl := fun j s' o h1 h2 => by
    by_cases e : i = j
    · subst e
      have l1 : i < Γ.length := by
        have q := (List.getElem?_eq_some_iff.mp h1).1
        rwa [List.length_set] at q
      rw [List.getElem?_set_self l1] at h1
      rw [List.getElem?_set_self (by rw [E.len]; exact l1)] at h2
      cases h1
      cases h2
      exact r
    · rw [List.getElem?_set_ne e] at h1 h2
      exact nr j s' o h1 h2
  inj := fun j k s' t x h1 h2 s1 s2 h3 h4 => by
    have old : ∀ {j : Nat} {s' : Sl} {x : Addr}, i ≠ j → (Γ.set i s)[j]? = some s' → s'.isOwn = true → (σ.set i (some (.ref a)))[j]? = some (some (V.ref x)) → x ≠ a := fun {j s' x} n g1 g2 g3 z => by
      rw [List.getElem?_set_ne n] at g1 g3
      have q := E.sl j s' _ g1 g3
      cases s' with
      | own l =>
        obtain ⟨y, _, e, hy, _⟩ := q
        cases e
        exact h (z ▸ hy)
      | ownK ks l =>
        obtain ⟨y, _, e, hy, _⟩ := q
        cases e
        exact h (z ▸ hy)
      | ownT ks l =>
        obtain ⟨y, _, e, hy, _⟩ := q
        cases e
        exact h (z ▸ hy)
      | _ => cases g2
    by_cases n1 : i = j
    · by_cases n2 : i = k
      · exact n1.symm.trans n2
      · subst n1
        have l1 : i < σ.length := by
          have q := (List.getElem?_eq_some_iff.mp h3).1
          rwa [List.length_set] at q
        have h3' := h3
        rw [List.getElem?_set_self l1] at h3'
        cases h3'
        exact absurd rfl (old n2 h2 s2 h4)
    · by_cases n2 : i = k
      · subst n2
        have l1 : i < σ.length := by
          have q := (List.getElem?_eq_some_iff.mp h4).1
          rwa [List.length_set] at q
        have h4' := h4
        rw [List.getElem?_set_self l1] at h4'
        cases h4'
        exact absurd rfl (old n1 h1 s1 h3)
      · rw [List.getElem?_set_ne n1] at h1 h3
        rw [List.getElem?_set_ne n2] at h2 h4
        exact E.inj j k s' t x h1 h2 s1 s2 h3 h4
/-- a slot gets a dict of its own -/
theorem sx_setK {i : Nat} (h : ExK c Γ t fun ks l => P.nx (Γ.set i (.ownK ks l))) : Sx c Γ (tAsg t (gName i)) P := fun H0 own σ H E R e =>
  h H0 own σ H _ R fun ks l a kvs H' z st n ea hk r => by
    have b' := R.b.stay st
    obtain ⟨nw, no, n0⟩ := R.b.free n
    have hb : Base c H0 (a :: own) H' := ⟨b'.pot, b'.pw, b'.wf, b'.keep, fun x hx => (List.mem_cons.mp hx).elim (fun y => y ▸ n0) (b'.fresh x), fun x hx => (List.mem_cons.mp hx).elim (fun y => by rw [y, ea]; exact fun z => by cases z) (b'.here x)⟩
    have old : ∀ (j : Nat) (s : Sl) (o : Option V), Γ[j]? = some s → σ[j]? = some o → SlR c (a :: own) H' o s := fun j s o h1 h2 => (R.sl j s o h1 h2).mv (fun x u e => by
        obtain ⟨nx, e⟩ := mk_some e
        have ne := ne_of_none e n
        have q := st.ms R.b.pw own x u (by rw [mk_out nx]; exact e)
        rw [mk_out fun z => ?_]
        · exact (mk_some q).2
        · rcases List.mem_append.mp z with z | z
          · exact nx (List.mem_append_left _ z)
          · rcases List.mem_cons.mp z with z | z
            · exact ne z
            · exact nx (List.mem_append_right _ z)) fun x _ _ hx => ⟨List.mem_cons_of_mem _ hx, fun u e => R.b.at_ st hx e⟩
    exact e.nx (a :: own) _ H' _ ((R.stay st).putS (s := .ownK ks l) no rfl hb ⟨a, kvs, rfl, List.mem_cons_self .., ea, hk, r⟩ i old) z
/-- {k: v for target in it if test} -/
theorem exk_dc {wi : TI} {g : TG} {tt : TT} {tk tv : TE} {vs js : List Nat} {k : List L2.Key → List D → Prop} (hj : ∀ j ∈ js, j ∈ vs)
    (h : ExI c Γ wi fun l => l.length < sizeLine ∧ ∃ Pv : Nat → List L2.Key → List D → Prop, Pv 0 [] [] ∧ (∀ i d ks acc, l[i]? = some d → Pv i ks acc → GxD c (wipeG Γ vs) g js d fun Γ2 => ExT c Γ2 tt fun b => if b = true then Ex c Γ2 tk fun y => ∃ q, y = keyDD q ∧ Ex c Γ2 tv fun z => Pv (i + 1) (putKs ks q) (putD ks acc q z) else Pv (i + 1) ks acc) ∧
      ∀ ks acc, Pv l.length ks acc → k ks acc) : ExK c Γ (tDc wi g tt tk tv vs) k := fun H0 own σ H Q E q =>
  h H0 own σ H _ E fun l J H1 ⟨hl, Pv, p0, step, fin⟩ s1 it Dn nD => by
    have E1 := E.stay s1
    have b1 := E1.b
    have EW : EnvR c H0 (Dn :: own) (upd H1 Dn (.dK [])) (L2.wipe σ vs) (wipeG Γ vs) := (E1.wipe vs).hold nD
    have old : ∀ {H' : Hp}, Stay c (upd H1 Dn (.dK [])) H' → Same (msk (c.W ++ own) H1) (msk (c.W ++ Dn :: own) H') := fun {H'} s x u e => by
      obtain ⟨n, e⟩ := mk_some e
      have ne := ne_of_none e nD
      have n2 : x ∉ c.W ++ Dn :: own := fun z => by
        rcases List.mem_append.mp z with z | z
        · exact n (List.mem_append_left _ z)
        · rcases List.mem_cons.mp z with z | z
          · exact ne z
          · exact n (List.mem_append_right _ z)
      refine s.ms EW.b.pw (Dn :: own) x u ?_
      rw [mk_out n2, upd_ne ne]
      exact e
    refine ⟨fun i m H' => m = l.length - i ∧ i ≤ l.length ∧ ∃ (kvs : List (L2.Key × V)) (acc : List D), H' Dn = some (.dK kvs) ∧ (kvs.map Prod.fst).Nodup ∧ DRs c.K (msk (c.W ++ Dn :: own) H') (kvs.map Prod.snd) acc ∧ kvs.length ≤ i ∧ Base c H0 (Dn :: own) H' ∧ EnvR c H0 (Dn :: own) H' (L2.wipe σ vs) (wipeG Γ vs) ∧ Stay c H1 H' ∧ Same (msk (c.W ++ own) H1) (msk (c.W ++ Dn :: own) H') ∧ Pv i (kvs.map Prod.fst) acc,
      ⟨_, rfl, Nat.zero_le _, [], [], upd_same, List.nodup_nil, .nil, Nat.le_refl _, EW.b, EW, b1.made nD, old Stay.refl, p0⟩, ?_⟩
    rintro i m H' ⟨rfl, hi, kvs, acc, eD, nd, rD, ha, bH, EH, sH, oH, pH⟩
    obtain ⟨i1, i2, i3⟩ := it (Dn :: own) H' oH (base_all bH) i
    by_cases lt : i < l.length
    · refine .inr ⟨i1 lt, fun H3 => ∃ (kvs : List (L2.Key × V)) (acc : List D), H3 Dn = some (.dK kvs) ∧ (kvs.map Prod.fst).Nodup ∧ DRs c.K (msk (c.W ++ Dn :: own) H3) (kvs.map Prod.snd) acc ∧ kvs.length ≤ i + 1 ∧ Base c H0 (Dn :: own) H3 ∧ EnvR c H0 (Dn :: own) H3 (L2.wipe σ vs) (wipeG Γ vs) ∧ Stay c H1 H3 ∧ Same (msk (c.W ++ own) H1) (msk (c.W ++ Dn :: own) H3) ∧ Pv (i + 1) (kvs.map Prod.fst) acc,
        fun H3 z => ⟨_, by omega, rfl, lt, z⟩, fun x H2 y => ?_⟩
      obtain ⟨d, ed, s2, r2⟩ := i3 x H2 lt y
      have st2 : Stay c H' H2 := Stay.of s2
      have E2 := EH.stay st2
      refine step i d _ acc ed pH H0 (Dn :: own) _ H2 x _ E2 r2 fun Γ2 σ2 h2 E3 fr fl => ?_
      refine ⟨?_, h2 H0 (Dn :: own) σ2 H2 _ E3 fun b H3 h3 s3 => ?_⟩
      · rw [wipe_eq hj fl fr, wipe_wipe]
      have dn : Dn ∈ Dn :: own := List.mem_cons_self ..
      have st3 := st2.trans s3
      have eD3 := bH.at_ st3 dn eD
      have rD3 := rD.mono (st3.ms bH.pw (Dn :: own))
      have same3 : Same (msk (c.W ++ own) H1) (msk (c.W ++ Dn :: own) H3) := oH.trans (st3.ms bH.pw (Dn :: own))
      cases b with
      | false => exact ⟨kvs, acc, eD3, nd, rD3, Nat.le_succ_of_le ha, bH.stay st3, EH.stay st3, sH.trans st3, same3, h3⟩
      | true =>
        refine h3 H0 (Dn :: own) σ2 H3 _ (E3.stay s3) fun ky kw H4 ⟨qk, ek, h4⟩ s4 r4 => ?_
        subst ek
        cases r4.key
        refine h4 H0 (Dn :: own) σ2 H4 _ ((E3.stay s3).stay s4) fun zd zv H5 h5 s5 r5 => ?_
        have st4 := (st3.trans s4).trans s5
        have eD4 := bH.at_ st4 dn eD
        have rD4 := rD.mono (st4.ms bH.pw (Dn :: own))
        have b4 := bH.stay st4
        have E4 := EH.stay st4
        refine ⟨kvs, qk, rfl, eD4, by omega, putK kvs qk zv, putD (kvs.map Prod.fst) acc qk zd, upd_same, by rw [putK_keys]; exact putKs_nodup nd qk, (drs_put qk r5 nd rD4).mono (Base.wsame dn), ?_, b4.write dn, ?_, ?_, ?_, by rw [putK_keys]; exact h5⟩
        · have := length_putK kvs qk zv
          omega
        · refine ⟨b4.write dn, E4.len, fun j s o g1 g2 => ?_, E4.inj⟩
          have q0 := (E.wipe vs).sl j s o g1 g2
          refine (E4.sl j s o g1 g2).mv (Base.wsame dn) fun a hs ho hm => ⟨hm, fun u e => ?_⟩
          have ne : a ≠ Dn := fun z => by
            have hD0 : Dn ∉ own := (b1.free nD).2.1
            cases s with
            | own l =>
              obtain ⟨y, _, e, hy, _⟩ := q0
              rw [ho] at e
              cases e
              exact hD0 (z ▸ hy)
            | ownK ks l =>
              obtain ⟨y, _, e, hy, _⟩ := q0
              rw [ho] at e
              cases e
              exact hD0 (z ▸ hy)
            | ownT ks l =>
              obtain ⟨y, _, e, hy, _⟩ := q0
              rw [ho] at e
              cases e
              exact hD0 (z ▸ hy)
            | _ => cases hs
          rw [upd_ne ne]
          exact e
        · exact (sH.trans st4).wnew b1 nD
        · exact (oH.trans (st4.ms bH.pw (Dn :: own))).trans (Base.wsame dn)
    · have e : i = l.length := by omega
      subst e
      exact .inl ⟨i2 (Nat.le_refl _), q _ acc Dn kvs H' (fin _ acc pH) (s1.trans sH) (s1.new b1 nD) eD rfl rD⟩
/-! displays -/
def ExP (c : C1) (Γ : List Sl) (trs : List (TE × TE)) (k : List (D × D) → Prop) : Prop := ∀ H0 own σ H (Q : List (V × V) → Hp → Prop), EnvR c H0 own H σ Γ →
  (∀ ds ps H', k ds → Stay c H H' → DRs c.K (msk (c.W ++ own) H') (ps.map Prod.fst) (ds.map Prod.fst) → DRs c.K (msk (c.W ++ own) H') (ps.map Prod.snd) (ds.map Prod.snd) → Q ps H') → tPairs trs σ H Q
theorem exp_nil {k : List (D × D) → Prop} (h : k []) : ExP c Γ [] k := fun H0 own σ H Q E q => q [] [] H h Stay.refl .nil .nil
theorem exp_cons {trs : List (TE × TE)} {k : List (D × D) → Prop} (h : Ex c Γ t fun x => Ex c Γ u fun y => ExP c Γ trs fun ds => k ((x, y) :: ds)) : ExP c Γ ((t, u) :: trs) k := fun H0 own σ H Q E q =>
  h H0 own σ H _ E fun x v H1 h1 s1 r1 => h1 H0 own σ H1 _ (E.stay s1) fun y w H2 h2 s2 r2 => h2 H0 own σ H2 _ ((E.stay s1).stay s2) fun ds ps H3 z s3 r3 r4 =>
    q _ ((v, w) :: ps) H3 z ((s1.trans s2).trans s3) (.cons (r1.mono ((s2.trans s3).ms E.b.pw own)) r3) (.cons (r2.mono (s3.ms E.b.pw own)) r4)
theorem mergeK_new : ∀ (more kvs : List (L2.Key × V)), ((kvs ++ more).map Prod.fst).Nodup → mergeK kvs more = kvs ++ more
  | [], kvs, _ => by rw [List.append_nil]; rfl
  | p :: r, kvs, nd => by
    have n : p.1 ∉ kvs.map Prod.fst := fun h => by
      rw [List.map_append, List.nodup_append] at nd
      exact nd.2.2 _ h _ (List.mem_cons_self ..) rfl
    have e : putK kvs p.1 p.2 = kvs ++ [p] := by
      unfold putK
      rw [if_neg fun z => n ((any_mem kvs p.1).mp z)]
    show mergeK (putK kvs p.1 p.2) r = _
    rw [e, mergeK_new r (kvs ++ [p]) (by rw [List.append_assoc]; exact nd), List.append_assoc]
    rfl
theorem keys_of {K : PySem.W.Frag} {H : Hp} : ∀ {ks : List L2.Key} {vs : List V}, DRs K H vs (ks.map keyDD) → vs = ks.map kV
  | [], _, r => by
    cases r
    rfl
  | k :: ks, _, r => by
    rw [List.map_cons] at r
    cases r with
    | cons a b =>
      rw [a.key, keys_of b]
      rfl
/-- {key: value, ..} -/
theorem exk_disp {trs : List (TE × TE)} {k : List L2.Key → List D → Prop} (h : ExP c Γ trs fun ds => ∃ ks l, ds.map Prod.fst = ks.map keyDD ∧ ds.map Prod.snd = l ∧ ks.Nodup ∧ ks.length ≤ 15 ∧ k ks l) : ExK c Γ (tDisp trs) k := fun H0 own σ H Q E q p hp => by
  have E1 : EnvR c H0 (p :: own) (upd H p (.dK [])) σ Γ := E.hold hp
  refine h H0 (p :: own) σ _ _ E1 fun ds ps H2 ⟨ks, l, e1, e2, nd, l15, z⟩ s2 r3 r4 => ?_
  have dn : p ∈ p :: own := List.mem_cons_self ..
  refine ⟨E1.b.at_ s2 dn upd_same, ?_⟩
  rw [e1] at r3
  have ek := keys_of r3
  have hl : ks.length = ps.length := by
    have := congrArg List.length ek
    rw [List.length_map, List.length_map] at this
    exact this.symm
  refine ⟨ks.zip (ps.map Prod.snd), ?_, by rw [List.length_zip, List.length_map]; omega, ?_⟩
  · have : ∀ {ps : List (V × V)} {ks : List L2.Key}, ps.map Prod.fst = ks.map kV → ps = (ks.zip (ps.map Prod.snd)).map fun kv => (kV kv.1, kv.2) := by
      intro ps
      induction ps with
      | nil =>
        intro ks e
        cases ks with
        | nil => rfl
        | cons k ks => cases e
      | cons p ps ih =>
        intro ks e
        cases ks with
        | nil => cases e
        | cons k ks =>
          rw [List.map_cons, List.map_cons] at e
          obtain ⟨ea, eb⟩ := List.cons.inj e
          rw [List.map_cons, List.zip_cons_cons, List.map_cons, ← ih eb, ← ea]
    exact this ek
  · have zf : (ks.zip (ps.map Prod.snd)).map Prod.fst = ks := List.map_fst_zip (by rw [List.length_map]; exact Nat.le_of_eq hl)
    have zs : (ks.zip (ps.map Prod.snd)).map Prod.snd = ps.map Prod.snd := List.map_snd_zip (by rw [List.length_map]; exact Nat.le_of_eq hl.symm)
    rw [mergeK_new _ [] (by rw [List.nil_append, zf]; exact nd), List.nil_append]
    refine q ks l p _ _ z ((E.b.made hp).trans s2 |>.wnew E.b hp) hp upd_same zf ?_
    rw [zs]
    subst e2
    exact r4.mono (Base.wsame dn)
/-! enumerate -/
def enD (l : List D) : List D := l.zipIdx.map fun p => .tup [.int p.2, p.1]
theorem enD_at {l : List D} {i : Nat} {d : D} (h : l[i]? = some d) : (enD l)[i]? = some (.tup [.int i, d]) := by
  unfold enD
  rw [List.getElem?_map, List.getElem?_zipIdx, h]
  simp
theorem enD_len (l : List D) : (enD l).length = l.length := by
  unfold enD
  rw [List.length_map, List.length_zipIdx]
theorem en_pair {own' : List Addr} {H : Hp} {T : Addr} {i : Nat} {x : V} {d : D} (al : ∀ a ∈ c.W ++ own', H a ≠ none) (hT : H T = none) (r : DR c.K (msk (c.W ++ own') H) x d) : DR c.K (msk (c.W ++ own') (upd H T (.tup [.int (i : Nat), x]))) (.ref T) (.tup [.int (i : Nat), d]) :=
  .tup ((mk_out fun z => al T z hT).trans upd_same) (.cons (.int _) (.cons (r.mono (mk_mono (same_new hT))) .nil))
theorem exi_enS {k : List D → Prop} (h : Ex c Γ t fun x => ∃ l, (x = .lst l ∨ x = .tup l) ∧ k (enD l)) : ExI c Γ (iEnS c.K (tCons t tNil)) k := fun H0 own σ H R E q =>
  h H0 own σ H _ E fun x v H1 ⟨l, e, h1⟩ s1 r1 => by
    rcases e with rfl | rfl
    · obtain ⟨a, xs, rfl, ha, na, r⟩ := r1.lst_of
      refine ⟨a, xs, rfl, .inl ⟨SqL.of ha, q _ _ H1 h1 s1 fun own' H' s al i => ?_⟩⟩
      have e' : H' a = some (.lst xs) := (mk_some (s _ _ ((mk_out na).trans ha))).2
      have hl := r.len
      rw [enD_len]
      refine ⟨fun hi => ⟨xs, xs[i]'(by omega), SqL.of e', List.getElem?_eq_getElem _⟩, fun hi => ⟨xs, SqL.of e', by omega⟩, fun x H'' hi ⟨T, y, e1, hT, e2, e3⟩ => ?_⟩
      subst e1 e2
      obtain ⟨v, h1, h2⟩ := r.get (i := i) (List.getElem?_eq_getElem hi)
      have q := e3 xs (SqL.of e')
      rw [h1] at q
      cases q
      exact ⟨_, enD_at (List.getElem?_eq_getElem hi), same_new hT, en_pair al hT (h2.mono s)⟩
    · obtain ⟨a, xs, rfl, ha, r⟩ := r1.tup_of
      cases r1 with
      | tup0 h0 =>
        refine ⟨a, [], rfl, .inr ⟨sqT_lift h0, q _ _ H1 h1 s1 fun own' H' s al i => ?_⟩⟩
        exact ⟨fun hi => absurd hi (Nat.not_lt_zero _), fun hi => ⟨sqT_lift h0, Nat.zero_le _⟩, fun x H'' hi _ => absurd hi (Nat.not_lt_zero _)⟩
      | tup g gr =>
        refine ⟨a, _, rfl, .inr ⟨SqT.of (mk_some g).2, q _ _ H1 h1 s1 fun own' H' s al i => ?_⟩⟩
        have e' := (mk_some (s _ _ g)).2
        have hl := gr.len
        rw [enD_len]
        refine ⟨fun hi => ⟨SqT.of e', by omega⟩, fun hi => ⟨SqT.of e', by omega⟩, fun x H'' hi ⟨T, y, e1, hT, e2, e3⟩ => ?_⟩
        subst e1 e2
        obtain ⟨v, h1, h2⟩ := gr.get (i := i) (List.getElem?_eq_getElem hi)
        rw [h1] at e3
        cases e3
        exact ⟨_, enD_at (List.getElem?_eq_getElem hi), same_new hT, en_pair al hT (h2.mono s)⟩
/-! the place of one -/
theorem ex_index (h : Ex c Γ t fun x => ∃ l, x = .lst l ∧ Ex c Γ u fun y => Pu (.lst l) ∧ Pu y ∧ ∃ j : Nat, l[j]? = some y ∧ (∀ m : Nat, m < j → l[m]? ≠ some y) ∧ k (.int j)) : Ex c Γ (tBM c.K "list" (rIndexD c.K) t (tCons u tNil)) k := fun H0 own σ H Q E q =>
  h H0 own σ H _ E fun x v H1 ⟨l, e, h1⟩ s1 r1 => by
    subst e
    obtain ⟨a, xs, rfl, ha, na, r⟩ := r1.lst_of
    refine ⟨.inl ⟨rfl, xs, SqL.of ha⟩, h1 H0 own σ H1 _ (E.stay s1) fun y w H2 ⟨pl, py, j, e1, e2, z⟩ s2 r2 => ?_⟩
    have r1' := (r1.mono (s2.ms E.b.pw own)).mono mk_all
    refine ⟨a, w, y.py, D.pys l, j, y.py, rfl, rfl, r1'.dp (D.plain_of _ pl.pu), (r2.mono mk_all).dp (D.plain_of _ py.pu), pl.shaped, py.shaped, ?_, (D.eqv_iff y y py.pu py.pu).mpr rfl, fun m z' hm hz => ?_, q _ _ H2 z (s1.trans s2) (.int _)⟩
    · rw [pys_map, List.getElem?_map, e1]
      rfl
    · rw [pys_map, List.getElem?_map] at hz
      obtain ⟨d, hd, rfl⟩ := Option.map_eq_some_iff.mp hz
      cases ev : PyData.eqv d.py y.py with
      | false => rfl
      | true =>
        have := (D.eqv_iff d y (pures_of pl.pu d (List.mem_of_getElem? hd)) py.pu).mp ev
        subst this
        exact absurd hd (e2 m hm)
end
end Tl
/-! ## U1 -/
set_option Elab.async false
set_option linter.all false
set_option maxRecDepth 100000
set_option maxHeartbeats 4000000
/-! what an instance's own class says of ==, !=, len, [], in -/
namespace Tl
open PySem PySem.Spec PyProof.Rows L2 He Vx
open PySem.W (InstAt findIn looks_findIn)
section
variable {prog : Program} {w : World} {A : Around} {E : Value → Shared → Prop} {s : Shared} {K : PySem.W.Frag} {x C f : Addr} {ox : Obj} {od : Option Obj} {y : Value}
theorem ne_args (a b : Value) : argsOk "object.__ne__" ⟨[a, b], []⟩ := PySem.F.cmpArgs_ne a b
theorem entry_neK (X : K.In s.heap) (I : InstAt s.heap x ox C od) (hs : findIn K (.ref C) "__eq__" = some (some (.ref f))) (hf : PySem.W.isFn K (.ref f) = true) (hu : A.units < cLine) {Q : PySem.Fin → Shared → Prop}
    (h : wpAny (model prog w) A (call (.ref f) [.ref x, y]) (fun v s' => ∃ b, v = .bool b ∧ Q (.done (.ret (.bool (!b)))) s') E s) : wpAny (model prog w) A (Builtin.«object.__ne__» ⟨[.ref x, y], []⟩) Q E s := by
  unfold Builtin.«object.__ne__»
  refine wpAny_bind (m := slotArgs "__ne__" 1 _) (wpAny_pure ?_)
  refine wpAny_bind (m := cRoomFor _ _) (wpAny_cRoomFor hu ?_)
  refine wpAny_bind (m := callSpecialIfBound? (.ref x) (Str.ofString "__eq__") [y]) (PySem.W.ifBound_K X I hs hf (wpAny_mono h (fun v s' z => ?_) fun _ _ e => e))
  obtain ⟨b, rfl, hq⟩ := z
  exact wpAny_bind (m := truthy (.bool b)) (wpAny_truthy_bool (wpAny_pure hq))
theorem call_neK (X : K.In s.heap) (I : InstAt s.heap x ox C od) (hm : PySem.W.mroIn K C (.type "object") = some true) (hs : findIn K (.ref C) "__eq__" = some (some (.ref f))) (hf : PySem.W.isFn K (.ref f) = true) (hu : A.units + 1 < cLine) {Q : Value → Shared → Prop}
    (h : wpAny (model prog w) A.in1 (call (.ref f) [.ref x, y]) (fun v s' => ∃ b, v = .bool b ∧ Q (.bool (!b)) s') E s) : wpAny (model prog w) A (call (.builtin "object.__ne__") [.ref x, y]) Q E s :=
  wpAny_call (codeAny_call_builtin PySem.F.cmp_object.ne.plain PySem.F.cmpEntry_ne (PySem.W.check_slot PySem.F.cmpKind_ne PySem.F.cmpSplit_ne (I.type.andThen (PySem.W.looks_mroIn X hm)) (PySem.F.cmpArgs_ne _ _) (entry_neK (A := A.in1) X I hs hf hu (wpAny_mono h (fun v s' z => by
    obtain ⟨b, rfl, hq⟩ := z
    exact ⟨b, rfl, hq⟩) fun _ _ e => e))))
theorem ifBound_ne {args : List Value} {M : Model} {Q : Option Value → Shared → Prop} (X : K.In s.heap) (I : InstAt s.heap x ox C od) (hs : findIn K (.ref C) "__ne__" = some (some (.builtin "object.__ne__")))
    (h : wpAny M A (call (.builtin "object.__ne__") (.ref x :: args)) (fun v => Q (some v)) E s) : wpAny M A (callSpecialIfBound? (.ref x) "__ne__" args) Q E s := by
  simp only [callSpecialIfBound?, bindSpecialIfBound?]
  refine wpAny_holding (wpAny_bind (wpAny_bind (wpAny_bind (I.type.here ((looks_findIn X hs).here ?_)))))
  refine wpAny_bind (wpAny_askSetting (wpAny_ite ?_))
  have fin : wpAny M A (call (.builtin "object.__ne__") ([.ref x] ++ args) >>= fun v => pure (some v)) Q E s := wpAny_bind (wpAny_mono h (fun v s' h' => wpAny_pure h') fun _ _ h' => h')
  split
  · exact wpAny_bind (wpAny_of_eq (PySem.F.cmp_object.ne.bind _) (wpAny_pure (by exact fin)))
  · exact wpAny_tryCatch (wpAny_bind (wpAny_of_eq (PySem.F.cmp_object.ne.bind _) (wpAny_pure (by exact fin))))
/-- x != y by the own == -/
theorem ne_K {tb : Value} (hu : A.units + 1 < cLine) (X : K.In s.heap) (I : InstAt s.heap x ox C od) (hb : PySem.W.Looks (model prog w) s.heap (typeOf y) tb) (hn : PySem.W.notFirst K C tb = true) (hm : PySem.W.mroIn K C (.type "object") = some true)
    (hs : findIn K (.ref C) "__eq__" = some (some (.ref f))) (hne : findIn K (.ref C) "__ne__" = some (some (.builtin "object.__ne__"))) (hf : PySem.W.isFn K (.ref f) = true) {Q : Value → Shared → Prop}
    (h : wpAny (model prog w) A.in1 (call (.ref f) [.ref x, y]) (fun v s' => ∃ b, v = .bool b ∧ Q (.bool (!b)) s') E s) : wpAny (model prog w) A (richCompare .NotEq (.ref x) y) Q E s := by
  have one : wpAny (model prog w) A (tryCompare (.ref x) "__ne__" y) (fun r s' => ∃ v, r = some v ∧ Q v s') E s := by
    unfold tryCompare
    refine wpAny_bind (ifBound_ne X I hne (call_neK X I hm hs hf hu (wpAny_mono h (fun v s' z => ?_) fun _ _ e => e)))
    obtain ⟨b, rfl, hq⟩ := z
    exact ⟨b, rfl, wpAny_pure ⟨_, rfl, hq⟩⟩
  unfold richCompare
  simp only [oneThing_ref]
  refine wpAny_holding (wpAny_bind (wpAny_cRoomFor (Nat.lt_of_succ_lt hu) ?_))
  rw [cmpInfo_NotEq]
  dsimp only
  refine wpAny_bind (I.type.here (wpAny_bind (hb.here ?_)))
  split
  · rename_i q
    have e : PySem.W.subIn K tb (.ref C) = some false := by
      rcases Bool.or_eq_true_iff.mp hn with e | e
      · rw [beq_iff_eq.mp e] at q; simp at q
      · exact beq_iff_eq.mp e
    refine wpAny_bind ((PySem.W.looks_subIn X e).here ?_)
    simp only [Bool.false_eq_true, if_false]
    refine wpAny_bind (wpAny_mono one (fun r s' z => ?_) fun _ _ e => e)
    obtain ⟨v, rfl, hq⟩ := z
    exact wpAny_pure hq
  · refine wpAny_bind (wpAny_pure ?_)
    simp only [Bool.false_eq_true, if_false]
    refine wpAny_bind (wpAny_mono one (fun r s' z => ?_) fun _ _ e => e)
    obtain ⟨v, rfl, hq⟩ := z
    exact wpAny_pure hq
end
section
variable {X : Cx} {CX : CXT} {n : Nat} {C g : Addr} {sp : Sp} {E : XK}
/-- x == y, both of the class at C -/
def rEqI (C : Addr) (sp : Sp) (E : XK) : R2 := fun x y H Q => ∃ a dx fs b dy gs, x = .ref a ∧ y = .ref b ∧ H a = some (.ins C dx fs) ∧ H b = some (.ins C dy gs) ∧ sp [x, y] H (fun z H' => ∃ b, z = .bl b ∧ Q z H') E
theorem op_eqI (hs : findIn X.K (.ref C) "__eq__" = some (some (.ref g))) (hf : PySem.W.isFn X.K (.ref g) = true) (F : FnR X.prog X.w X.K X.mg X.base CX n g sp) (hr : Room n X.A) (hx : Passes CX X E) : OpR X (compareOp .Eq) (rEqI C sp E) := by
  intro pins s σ H x y v u Q I rx ry h
  obtain ⟨a, dx, fs, b, dy, gs, rfl, rfl, ha, hb, q⟩ := h
  cases (show v = Value.ref a from rx)
  cases (show u = Value.ref b from ry)
  obtain ⟨mA, J, _⟩ := ins_get I.hok ha
  obtain ⟨mB, J', _⟩ := ins_get I.hok hb
  obtain ⟨od, J, _⟩ := J.look
  obtain ⟨od', J', _⟩ := J'.look
  obtain ⟨m, hF⟩ := I.fr
  show wpAny (model X.prog X.w) X.A (richCompare .Eq (.ref a) (.ref b)) (EP X pins σ Q) X.xe s
  refine PySem.W.cmp_K (op := .Eq) (tb := .ref C) hr.units0 hF I.ok.mod.kin J J'.type (by simp [PySem.W.notFirst]) hs hf ?_
  refine wpAny_mono (wpAny_call (run_fnR (us := [.ref a, .ref b]) (vs := [.ref a, .ref b]) F hr hx I (.cons rfl (.cons rfl .nil)) q)) (fun w s' z => ?_) fun _ _ x => x
  obtain ⟨z', H', I', rz, bz, ez, qz⟩ := z
  subst ez
  cases (show w = Value.bool bz from rz)
  exact ⟨.bl bz, H', I', rfl, qz⟩
/-- x != y -/
def rNeI (C : Addr) (sp : Sp) (E : XK) : R2 := fun x y H Q => ∃ a dx fs b dy gs, x = .ref a ∧ y = .ref b ∧ H a = some (.ins C dx fs) ∧ H b = some (.ins C dy gs) ∧ sp [x, y] H (fun z H' => ∃ b, z = .bl b ∧ Q (.bl (!b)) H') E
theorem op_neI (hm : PySem.W.mroIn X.K C (.type "object") = some true) (hs : findIn X.K (.ref C) "__eq__" = some (some (.ref g))) (hne : findIn X.K (.ref C) "__ne__" = some (some (.builtin "object.__ne__"))) (hf : PySem.W.isFn X.K (.ref g) = true) (F : FnR X.prog X.w X.K X.mg X.base CX n g sp) (hr : Room (n + 1) X.A) (hx : Passes CX X E) : OpR X (compareOp .NotEq) (rNeI C sp E) := by
  intro pins s σ H x y v u Q I rx ry h
  obtain ⟨a, dx, fs, b, dy, gs, rfl, rfl, ha, hb, q⟩ := h
  cases (show v = Value.ref a from rx)
  cases (show u = Value.ref b from ry)
  obtain ⟨mA, J, _⟩ := ins_get I.hok ha
  obtain ⟨mB, J', _⟩ := ins_get I.hok hb
  obtain ⟨od, J, _⟩ := J.look
  obtain ⟨od', J', _⟩ := J'.look
  show wpAny (model X.prog X.w) X.A (richCompare .NotEq (.ref a) (.ref b)) (EP X pins σ Q) X.xe s
  refine ne_K (tb := .ref C) (by have := hr.units; omega) I.kIn J J'.type (by simp [PySem.W.notFirst]) hm hs hne hf ?_
  refine wpAny_mono (wpAny_call (SlX.run_at (us := [.ref a, .ref b]) (ws := [.ref a, .ref b]) F hr.in1 I.env0.in1 hx I (.cons rfl (.cons rfl .nil)) q)) (fun w s' z => ?_) fun _ _ x => x
  obtain ⟨z', H', I', rz, bz, ez, qz⟩ := z
  subst ez
  cases (show w = Value.bool bz from rz)
  exact ⟨bz, rfl, .bl (!bz), H', I', rfl, qz⟩
/-- len(x) -/
def rLenI (C : Addr) (sp : Sp) (E : XK) : List V → Hp → VK → Prop := fun vs H Q => ∃ a dx fs, vs = [.ref a] ∧ H a = some (.ins C dx fs) ∧ sp vs H (fun z H' => ∃ i : Int, z = .int i ∧ 0 ≤ i ∧ i < 2 ^ 63 ∧ Q z H') E
theorem cr_lenI (hs : findIn X.K (.ref C) "__len__" = some (some (.ref g))) (hf : PySem.W.isFn X.K (.ref g) = true) (F : FnR X.prog X.w X.K X.mg X.base CX n g sp) (hr : Room (n + 1) X.A) (hx : Passes CX X E) : CallR X (.builtin "len") (rLenI C sp E) := by
  intro pins s σ H vs us Q I r h
  obtain ⟨a, dx, fs, rfl, ha, q⟩ := h
  obtain ⟨u, rfl, ru⟩ := vals1 r
  obtain rfl : u = Value.ref a := ru
  obtain ⟨mA, J, _⟩ := ins_get I.hok ha
  obtain ⟨od, J, _⟩ := J.look
  obtain ⟨m, hF⟩ := I.fr
  refine PySem.W.len_K hF I.ok.mod.kin J hs hf ?_
  refine wpAny_mono (wpAny_call (SlX.run_at (us := [.ref a]) (ws := [.ref a]) F hr.in1 I.env0.in1 hx I (.cons rfl .nil) q)) (fun w s' z => ?_) fun _ _ x => x
  obtain ⟨z', H', I', rz, i, ez, i0, i1, qz⟩ := z
  subst ez
  obtain ⟨t, rfl⟩ := rz
  exact ⟨⟨i0, i1⟩, .int i, H', I'.tok _, ⟨_, rfl⟩, qz⟩
/-- x[i] -/
def rIxI (C : Addr) (sp : Sp) (E : XK) : R2 := fun x y H Q => ∃ a dx fs, x = .ref a ∧ H a = some (.ins C dx fs) ∧ sp [x, y] H Q E
theorem pe_ixI {a b : Expr} {ta tb : TE} {pos : Pos} (hs : findIn X.K (.ref C) "__getitem__" = some (some (.ref g))) (hfi : PySem.W.fnIn X.K g = true) (hf : PySem.W.isFn X.K (.ref g) = true) (F : FnR X.prog X.w X.K X.mg X.base CX n g sp) (hr : Room (n + 1) X.A) (hx : Passes CX X E) (ha : PE X a ta) (hb : PE X b tb)
    (hsl : ∀ (x : Addr) (i : Value), subscripted b true (.ref x) i = runValue (.builtin "lifetime.subscript" ⟨[.ref x, i], []⟩) := by intro _ _; rfl) : PE X (.Subscript a b pos) (tOp (rIxI C sp E) ta tb) := by
  refine ⟨fun pins s σ H Q I h => ?_⟩
  refine Subscript_ (binT ha hb I h fun v u s2 x y H2 I2 rx ry q => ?_)
  obtain ⟨o, dx, fs, rfl, ho, q⟩ := q
  cases (show v = Value.ref o from rx)
  obtain ⟨mA, J, _⟩ := ins_get I2.hok ho
  obtain ⟨od, J, _⟩ := J.look
  obtain ⟨m, hF⟩ := I2.fr
  exact PySem.W.sub_K hF I2.ok.mod.kin J hs hfi hf (wpAny_mono (wpAny_call (SlX.run_at (us := [.ref o, u]) (ws := [.ref o, y]) F hr.in1 I2.env0.in1 hx I2 (.cons rfl (.cons ry .nil)) q)) (fun w s' z => z) fun _ _ x => x) (hsl _ _)
end
end Tl
/-! ## T11 -/
set_option Elab.async false
set_option linter.all false
set_option maxRecDepth 100000
set_option maxHeartbeats 4000000
/-! boxes: made, read, asked -/
namespace Tl
open PySem PySem.Spec PyProof.Rows L2 He Vx
section
variable {c : C1} {Γ : List Sl} {t u : TE} {P : Post} {k : D → Prop}
/-- something that no slot sees is written -/
theorem EnvR.wr {H0 H : Hp} {own : List Addr} {σ : L2.St} {a : Addr} {o : HO} (R : EnvR c H0 own H σ Γ) (ha : a ∈ own) (no : ∀ s ∈ Γ, s.isOwn = false) : EnvR c H0 own (upd H a o) σ Γ :=
  ⟨R.b.write ha, R.len, fun j s o' h1 h2 => (R.sl j s o' h1 h2).mv (Base.wsame ha) fun y hs _ _ => absurd hs (by rw [no s (List.mem_of_getElem? h1)]; exact Bool.false_ne_true), R.inj⟩
/-- an expression gives a list that is new, as a value that stays -/
theorem newL {H0 H H' : Hp} {own : List Addr} {a : Addr} {xs : List V} {l : List D} (b : Base c H0 own H) (n : H a = none) (e : H' a = some (.lst xs)) (r : DRs c.K (msk (c.W ++ a :: own) H') xs l) : DR c.K (msk (c.W ++ own) H') (.ref a) (.lst l) := by
  obtain ⟨nw, no, _⟩ := b.free n
  have na : a ∉ c.W ++ own := fun z => (List.mem_append.mp z).elim nw no
  refine .lst ((mk_out na).trans e) (r.mono (mk_sub fun x hx => ?_))
  rcases List.mem_append.mp hx with hx | hx
  · exact List.mem_append_left _ hx
  · exact List.mem_append_right _ (List.mem_cons_of_mem _ hx)
end
/-- the making of a box: the promise of __init__ -/
def spI (K : PySem.W.Frag) (f : FnB) : Sp := fun vs H Q _ => ∃ (o dx : Addr) (vs' : List V) (W : List Addr) (ds : List D) (k : Int → List Int → List Mv → Prop), vs = .ref o :: vs' ∧ H o = some (.ins (ga K "Box") dx []) ∧ (∀ a ∈ W, H a ≠ none) ∧ o ∉ W ∧ DRs K (msk (W ++ [o]) H) vs' ds ∧ f ds k ∧
  ∀ n s m p q H', k n s m → Same (msk [o] H) (msk [o] H') → H p = none → H q = none → H' o = some (.ins (ga K "Box") dx (bxF n p q)) → DR K (msk (W ++ [o]) H') (.ref p) (.lst (s.map D.int)) → DR K (msk (W ++ [o]) H') (.ref q) (.lst (m.map mvD)) → Q .non H'
section
variable {c : C1} {Γ : List Sl} {t u : TE} {P : Post} {k : D → Prop} {E : XK}
/-- Box(e, ..); dvs: the defaults -/
theorem exb_make {ta : TA} {f : FnB} {dvs : List V} {dds : List D} {k : Int → List Int → List Mv → Prop} (hd : ∀ H, DRs c.K H dvs dds) (h : ExA c Γ ta fun ds => f (ds ++ dds) k) : ExB c Γ (tMake (ga c.K "Box") (spI c.K f) dvs E ta) k := fun H0 own σ H Q R q =>
  h H0 own σ H _ R fun ds vs H1 h1 s1 r1 x dx hx hdx ne => by
    have b1 := R.b.stay s1
    have hx2 : upd H1 dx (.own x) x = none := (upd_ne ne.symm).trans hx
    have sA : Same H1 (upd (upd H1 dx (.own x)) x (.ins (ga c.K "Box") dx [])) := (same_new hdx).trans (same_new hx2)
    have st2 : Stay c H1 (upd (upd H1 dx (.own x)) x (.ins (ga c.K "Box") dx [])) := Stay.of sA
    obtain ⟨nW, no, _⟩ := b1.free hx
    have nx : x ∉ c.W ++ own := fun z => (List.mem_append.mp z).elim nW no
    have alive := base_all (b1.stay st2)
    have hide : ∀ {a : Addr}, Same (msk (c.W ++ own) H1) (msk ((c.W ++ own) ++ [x]) (upd (upd H1 dx (.own x)) x (.ins (ga c.K "Box") dx []))) := fun {_} a u e => by
      obtain ⟨n, e⟩ := mk_some e
      have ne2 := ne_of_none e hx
      rw [mk_out fun z => (List.mem_append.mp z).elim n fun y => ne2 (List.mem_singleton.mp y)]
      exact sA _ _ e
    refine ⟨x, dx, vs ++ dvs, c.W ++ own, ds ++ dds, k, rfl, upd_same, alive, nx, (r1.mono (hide (a := x))).app (hd _), h1, fun n s m p q' H2 z sm n1 n2 e r r' => ⟨rfl, ?_⟩⟩
    have old : ∀ {a : Addr}, upd (upd H1 dx (.own x)) x (.ins (ga c.K "Box") dx []) a = none → H1 a = none := fun {a} z => by
      cases e : H1 a with
      | none => rfl
      | some o => rw [sA _ _ e] at z; cases z
    have st3 : Stay c H1 H2 := by
      have s0 : Same H1 H2 := fun a o e => by
        have ne2 := ne_of_none e hx
        have q := sm a o (by rw [mk_out fun z => ne2 (List.mem_singleton.mp z)]; exact sA _ _ e)
        exact (mk_some q).2
      exact Stay.of s0
    exact q n s m x dx p q' H2 z (s1.trans st3) (s1.new b1 (old n1)) (s1.new b1 (old n2)) (s1.new b1 hx) e (r.mono (mk_sub fun a ha => List.mem_append_left _ ha)) (r'.mono (mk_sub fun a ha => List.mem_append_left _ ha))
/-- a field of a box -/
def D.fld : D → Str → Option D
  | .box n s m, f => if f = "_states" then some (.int n) else if f = "_starts" then some (.lst (s.map D.int)) else if f = "_steps" then some (.lst (m.map mvD)) else none
  | _, _ => none
theorem bx_look {n : Int} {p q : Addr} (f : Str) : (bxF n p q).lookup f = if f = "_states" then some (.int n) else if f = "_starts" then some (.ref p) else if f = "_steps" then some (.ref q) else none := by
  unfold bxF
  by_cases h1 : f = "_states"
  · subst h1
    rfl
  · rw [if_neg h1]
    by_cases h2 : f = "_starts"
    · subst h2
      rfl
    · rw [if_neg h2]
      by_cases h3 : f = "_steps"
      · subst h3
        rfl
      · rw [if_neg h3]
        simp only [List.lookup, beq_eq_false_iff_ne.mpr h1, beq_eq_false_iff_ne.mpr h2, beq_eq_false_iff_ne.mpr h3]
/-- e.f -/
theorem ex_fld {f : Str} (cl : Cls c.K (ga c.K "Box")) (na : NoAttr c.K (ga c.K "Box") f) (h : Ex c Γ t fun x => ∃ d, x.fld f = some d ∧ k d) : Ex c Γ (tFld c.K t f) k := fun H0 own σ H Q R q =>
  h H0 own σ H _ R fun x v H1 ⟨d, e, z⟩ s1 r1 => by
    cases x with
    | box n s m =>
      obtain ⟨a, dx, p, q', rfl, ha, r2, r3⟩ := r1.box_of
      have e : (if f = "_states" then some (D.int n) else if f = "_starts" then some (D.lst (s.map D.int)) else if f = "_steps" then some (D.lst (m.map mvD)) else none) = some d := e
      by_cases h1 : f = "_states"
      · rw [if_pos h1] at e
        cases e
        exact ⟨a, _, dx, _, .int n, rfl, ha, cl, na, by rw [bx_look, if_pos h1], q _ _ H1 z s1 (.int n)⟩
      · rw [if_neg h1] at e
        by_cases h2 : f = "_starts"
        · rw [if_pos h2] at e
          cases e
          exact ⟨a, _, dx, _, .ref p, rfl, ha, cl, na, by rw [bx_look, if_neg h1, if_pos h2], q _ _ H1 z s1 r2⟩
        · rw [if_neg h2] at e
          by_cases h3 : f = "_steps"
          · rw [if_pos h3] at e
            cases e
            exact ⟨a, _, dx, _, .ref q', rfl, ha, cl, na, by rw [bx_look, if_neg h1, if_neg h2, if_pos h3], q _ _ H1 z s1 r3⟩
          · rw [if_neg h3] at e
            cases e
    | _ => cases e
/-- e.p, a property -/
theorem ex_prop {f : Fn} (h : Ex c Γ t fun x => (∃ n s m, x = .box n s m) ∧ f [x] k) : Ex c Γ (tProp (ga c.K "Box") (spD c.K f) [] E t) k := fun H0 own σ H Q R q =>
  h H0 own σ H _ R fun x v H1 ⟨⟨n, s, m, e⟩, z⟩ s1 r1 => by
    subst e
    obtain ⟨a, dx, p, q', rfl, ha, r2, r3⟩ := r1.box_of
    have b1 := R.b.stay s1
    exact ⟨a, dx, _, rfl, ha, c.W ++ own, _, k, base_all b1, .cons r1 .nil, z, fun d v H2 z s2 r => q d v H2 z (s1.trans (Stay.of s2)) r⟩
def nof (m : Str) : Prop := m ≠ "_states" ∧ m ≠ "_starts" ∧ m ≠ "_steps"
theorem nof_look {m : Str} (h : nof m) {n : Int} {p q : Addr} : (bxF n p q).lookup m = none := by
  rw [bx_look, if_neg h.1, if_neg h.2.1, if_neg h.2.2]
/-- e.m(e, ..) -/
theorem ex_meth {f : Fn} {m : Str} {ta : TA} (hm : nof m) (h : Ex c Γ t fun x => (∃ n s m, x = .box n s m) ∧ ExA c Γ ta fun ds => f (x :: ds) k) : Ex c Γ (tMeth (ga c.K "Box") m (spD c.K f) [] E t ta) k := fun H0 own σ H Q R q =>
  h H0 own σ H _ R fun x v H1 ⟨⟨n, s, m, e⟩, z⟩ s1 r1 => by
    subst e
    obtain ⟨a, dx, p, q', rfl, ha, r2, r3⟩ := r1.box_of
    refine ⟨a, dx, _, rfl, ha, nof_look hm, z H0 own σ H1 _ (R.stay s1) fun ds vs H2 hz s2 rs => ?_⟩
    rw [List.append_nil]
    have b2 := (R.b.stay s1).stay s2
    exact ⟨c.W ++ own, _, k, base_all b2, .cons (r1.mono (s2.ms R.b.pw own)) rs, hz, fun d v H3 z s3 r => q d v H3 z ((s1.trans s2).trans (Stay.of s3)) r⟩
theorem exl_meth {f : FnL} {m : Str} {ta : TA} {k : List D → Prop} (hm : nof m) (h : Ex c Γ t fun x => (∃ n s m, x = .box n s m) ∧ ExA c Γ ta fun ds => f (x :: ds) k) : ExL c Γ (tMeth (ga c.K "Box") m (spL c.K f) [] E t ta) k := fun H0 own σ H Q R q =>
  h H0 own σ H _ R fun x v H1 ⟨⟨n, s, m, e⟩, z⟩ s1 r1 => by
    subst e
    obtain ⟨a, dx, p, q', rfl, ha, r2, r3⟩ := r1.box_of
    refine ⟨a, dx, _, rfl, ha, nof_look hm, z H0 own σ H1 _ (R.stay s1) fun ds vs H2 hz s2 rs => ?_⟩
    rw [List.append_nil]
    have b2 := (R.b.stay s1).stay s2
    refine ⟨c.W ++ own, _, k, base_all b2, .cons (r1.mono (s2.ms R.b.pw own)) rs, hz, fun l a xs H3 z s3 n e r => q l a xs H3 z ((s1.trans s2).trans (Stay.of s3)) ((s1.trans s2).new b2 n) e (r.mono (mk_sub fun x hx => ?_))⟩
    rcases List.mem_append.mp hx with hx | hx
    · exact List.mem_append_left _ (List.mem_append_left _ hx)
    · rcases List.mem_cons.mp hx with hx | hx
      · exact List.mem_append_right _ (List.mem_singleton.mpr hx)
      · exact List.mem_append_left _ (List.mem_append_right _ hx)
theorem exb_meth {f : FnB} {m : Str} {ta : TA} {k : Int → List Int → List Mv → Prop} (hm : nof m) (h : Ex c Γ t fun x => (∃ n s m, x = .box n s m) ∧ ExA c Γ ta fun ds => f (x :: ds) k) : ExB c Γ (tMeth (ga c.K "Box") m (spB c.K f) [] E t ta) k := fun H0 own σ H Q R q =>
  h H0 own σ H _ R fun x v H1 ⟨⟨n, s, m, e⟩, z⟩ s1 r1 => by
    subst e
    obtain ⟨a, dx, p, q', rfl, ha, r2, r3⟩ := r1.box_of
    refine ⟨a, dx, _, rfl, ha, nof_look hm, z H0 own σ H1 _ (R.stay s1) fun ds vs H2 hz s2 rs => ?_⟩
    rw [List.append_nil]
    have b2 := (R.b.stay s1).stay s2
    exact ⟨c.W ++ own, _, k, base_all b2, .cons (r1.mono (s2.ms R.b.pw own)) rs, hz, fun n s m a dx p q' H3 z s3 n1 n2 na e r r' => q n s m a dx p q' H3 z ((s1.trans s2).trans (Stay.of s3)) ((s1.trans s2).new b2 n1) ((s1.trans s2).new b2 n2) ((s1.trans s2).new b2 na) e r r'⟩
/-- x == y, x != y, x[i], len(x) -/
theorem od_eqI {f : Fn} {n n' : Int} {s s' : List Int} {m m' : List Mv} (h : f [.box n s m, .box n' s' m'] fun d => ∃ b, d = .bl b ∧ k (.bl b)) : OpD c (rEqI (ga c.K "Box") (spD c.K f) E) (.box n s m) (.box n' s' m') k := fun H0 own H v w Q b rv rw q => by
  obtain ⟨a, dx, p, p2, rfl, ha, _, _⟩ := rv.box_of
  obtain ⟨a', dx', p', p2', rfl, ha', _, _⟩ := rw.box_of
  exact ⟨a, dx, _, a', dx', _, rfl, rfl, ha, ha', c.W ++ own, _, _, base_all b, .cons rv (.cons rw .nil), h, fun d v H2 ⟨bb, e, z⟩ s2 r => by
    subst e
    cases r
    exact ⟨bb, rfl, q _ _ H2 z (Stay.of s2) (.bl bb)⟩⟩
theorem od_neI {f : Fn} {n n' : Int} {s s' : List Int} {m m' : List Mv} (h : f [.box n s m, .box n' s' m'] fun d => ∃ b, d = .bl b ∧ k (.bl (!b))) : OpD c (rNeI (ga c.K "Box") (spD c.K f) E) (.box n s m) (.box n' s' m') k := fun H0 own H v w Q b rv rw q => by
  obtain ⟨a, dx, p, p2, rfl, ha, _, _⟩ := rv.box_of
  obtain ⟨a', dx', p', p2', rfl, ha', _, _⟩ := rw.box_of
  exact ⟨a, dx, _, a', dx', _, rfl, rfl, ha, ha', c.W ++ own, _, _, base_all b, .cons rv (.cons rw .nil), h, fun d v H2 ⟨bb, e, z⟩ s2 r => by
    subst e
    cases r
    exact ⟨bb, rfl, q _ _ H2 z (Stay.of s2) (.bl (!bb))⟩⟩
theorem od_ixI {f : Fn} {n : Int} {s : List Int} {m : List Mv} {y : D} (h : f [.box n s m, y] k) : OpD c (rIxI (ga c.K "Box") (spD c.K f) E) (.box n s m) y k := fun H0 own H v w Q b rv rw q => by
  obtain ⟨a, dx, p, p2, rfl, ha, _, _⟩ := rv.box_of
  exact ⟨a, dx, _, rfl, ha, c.W ++ own, _, _, base_all b, .cons rv (.cons rw .nil), h, fun d v H2 z s2 r => q _ _ H2 z (Stay.of s2) r⟩
theorem kd_lenI {f : Fn} {n : Int} {s : List Int} {m : List Mv} (h : f [.box n s m] fun d => ∃ i : Int, d = .int i ∧ 0 ≤ i ∧ i < 2 ^ 63 ∧ k (.int i)) : CallD c (rLenI (ga c.K "Box") (spD c.K f) E) [.box n s m] k := fun H0 own H vs Q b rv q => by
  obtain ⟨v, rfl, r⟩ := rv.one
  obtain ⟨a, dx, p, p2, rfl, ha, _, _⟩ := r.box_of
  exact ⟨a, dx, _, rfl, ha, c.W ++ own, _, _, base_all b, rv, h, fun d v H2 ⟨i, e, i0, i1, z⟩ s2 r => by
    subst e
    cases r
    exact ⟨i, rfl, i0, i1, q _ _ H2 z (Stay.of s2) (.int i)⟩⟩
end
end Tl
/-! ## T12 -/
set_option Elab.async false
set_option linter.all false
set_option maxRecDepth 100000
set_option maxHeartbeats 4000000
/-! boxes that are valid -/
namespace Tl
open PySem PySem.Spec PyProof.Rows L2 He Vx
/-- a step of a box with n states -/
structure MvK (n : Int) (x : Mv) : Prop where
  a0 : 0 ≤ x.a
  an : x.a < n
  c : nm x.c = true
  z : nm x.z = true
  b0 : 0 ≤ x.b
  bn : x.b < n
structure OkB (n : Int) (s : List Int) (m : List Mv) : Prop where
  n1 : 1 ≤ n
  s0 : s ≠ []
  sd : s.Nodup
  sr : ∀ i ∈ s, 0 ≤ i ∧ i < n
  md : m.Nodup
  mr : ∀ x ∈ m, MvK n x
def fInit : FnB := fun ds k => ∃ (n : Int) (s : List Int) (m : List Mv) (ss ms : D), ds = [.int n, ss, ms] ∧ (ss = .lst (s.map D.int) ∨ ss = .tup (s.map D.int)) ∧ (ms = .lst (m.map mvD) ∨ ms = .tup (m.map mvD)) ∧ OkB n s m ∧ n ≤ 6 ∧ m.length ≤ 24 ∧ s.length ≤ 100 ∧ k n (sI s) (mvE.srt m)
theorem nm_len {z : Str} (h : nm z = true) : z.length ≤ 8 := by
  unfold nm at h
  rw [Bool.and_eq_true, Bool.and_eq_true] at h
  exact of_decide_eq_true h.2.1
theorem nm_asc {z : Str} (h : nm z = true) : Asc z := by
  unfold nm at h
  rw [Bool.and_eq_true, Bool.and_eq_true, List.all_eq_true] at h
  intro c hc
  exact small_lt c (of_decide_eq_true (h.2.2 c hc))
theorem nm_ok {z : Str} (h : nm z = true) : PyData.strOk z = true := by
  unfold PyData.strOk
  rw [Array.all_eq_true']
  intro c hc
  exact decide_eq_true (Nat.lt_trans (nm_asc h c (Array.mem_toList_iff.mpr hc)) (by decide))
theorem pys_ints (s : List Int) : D.pys (s.map D.int) = s.map PyData.int := by
  rw [pys_map, List.map_map]
  rfl
theorem pys_mvs (m : List Mv) : D.pys (m.map mvD) = m.map fun x => (mvD x).py := by
  rw [pys_map, List.map_map]
  rfl
theorem datas_ints (s : List Int) : D.datas (s.map D.int) = true := by
  rw [datas_all, List.all_eq_true]
  intro d hd
  obtain ⟨a, _, rfl⟩ := List.mem_map.mp hd
  rfl
theorem datas_mvs (m : List Mv) : D.datas (m.map mvD) = true := by
  rw [datas_all, List.all_eq_true]
  intro d hd
  obtain ⟨a, _, rfl⟩ := List.mem_map.mp hd
  rfl
theorem okA_ints : ∀ s : List Int, okAll (s.map PyData.int) = true
  | [] => rfl
  | i :: s => by
    rw [List.map_cons, okAll, okA_ints s]
    rfl
theorem ok_mv {n : Int} {x : Mv} (h : MvK n x) : okD (mvD x).py = true := by
  have h1 := nm_len h.c
  have h2 := nm_len h.z
  have h3 : x.c.length ≤ 100 := by omega
  have h4 : x.z.length ≤ 100 := by omega
  simp [mvD, D.py, D.pys, okD, okAll, h3, h4]
theorem okA_mvs {n : Int} : ∀ {m : List Mv}, (∀ x ∈ m, MvK n x) → okAll (m.map fun x => (mvD x).py) = true
  | [], _ => rfl
  | x :: m, h => by
    rw [List.map_cons, okAll, ok_mv (h x (List.mem_cons_self ..)), okA_mvs fun y hy => h y (List.mem_cons_of_mem _ hy)]
    rfl
/-- pure data of boxes -/
theorem pu_mv {n : Int} {x : Mv} (h : MvK n x) : Pu (mvD x) := ⟨by simp only [mvD, D.pure, D.pures, nm_ok h.c, nm_ok h.z]; rfl, by simp [mvD, D.py, D.pys, PyData.depth, PyData.depthAll]⟩
theorem depth_all {k : Nat} : ∀ {l : List D}, (∀ d ∈ l, d.py.depth ≤ k) → PyData.depthAll (D.pys l) ≤ k
  | [], _ => Nat.zero_le _
  | d :: l, h => by
    rw [D.pys, PyData.depthAll]
    have := h d (List.mem_cons_self ..)
    have := depth_all fun e he => h e (List.mem_cons_of_mem _ he)
    omega
theorem pu_lst {l : List D} (h : ∀ d ∈ l, d.pure = true ∧ d.py.depth ≤ 60) : Pu (.lst l) := ⟨pures_mem fun d hd => (h d hd).1, by
  simp only [D.py, PyData.depth]
  have := depth_all fun d hd => (h d hd).2
  omega⟩
theorem pu_ints (s : List Int) : Pu (.lst (s.map D.int)) := pu_lst fun d hd => by
  obtain ⟨a, _, rfl⟩ := List.mem_map.mp hd
  exact ⟨rfl, by simp only [D.py, PyData.depth]; omega⟩
theorem pu_mvs {n : Int} {m : List Mv} (h : ∀ x ∈ m, MvK n x) : Pu (.lst (m.map mvD)) := pu_lst fun d hd => by
  obtain ⟨a, ha, rfl⟩ := List.mem_map.mp hd
  exact ⟨(pu_mv (h a ha)).pu, by simp [mvD, D.py, D.pys, PyData.depth, PyData.depthAll]⟩
theorem mvD_inj {a b : Mv} (h : mvD a = mvD b) : a = b := mvE.inj a b (by
  show PyData.eqv (mvD a).py (mvD b).py = true
  rw [h]
  simp [mvD, D.py, D.pys, PyData.eqv, PyData.eqvAll])
theorem mvs_inj {l m : List Mv} (h : l.map mvD = m.map mvD) : l = m := by
  induction l generalizing m with
  | nil =>
    cases m with
    | nil => rfl
    | cons _ _ => cases h
  | cons a l ih =>
    cases m with
    | nil => cases h
    | cons b m =>
      rw [List.map_cons, List.map_cons] at h
      obtain ⟨h1, h2⟩ := List.cons.inj h
      rw [mvD_inj h1, ih h2]
theorem ints_inj {l m : List Int} (h : l.map D.int = m.map D.int) : l = m := by
  induction l generalizing m with
  | nil =>
    cases m with
    | nil => rfl
    | cons _ _ => cases h
  | cons a l ih =>
    cases m with
    | nil => cases h
    | cons b m =>
      rw [List.map_cons, List.map_cons] at h
      obtain ⟨h1, h2⟩ := List.cons.inj h
      cases h1
      rw [ih h2]
theorem sI_ok {n : Int} {s : List Int} {m : List Mv} (h : OkB n s m) : OkB n (sI s) (mvE.srt m) where
  n1 := h.n1
  s0 := fun e => by
    cases s with
    | nil => exact h.s0 rfl
    | cons a s =>
      have : a ∈ sI (a :: s) := mem_sI.mpr (List.mem_cons_self ..)
      rw [e] at this
      cases this
  sd := sI_nodup s
  sr := fun i hi => h.sr i (mem_sI.mp hi)
  md := mvE.srt_nodup m
  mr := fun x hx => h.mr x (mvE.mem_srt.mp hx)
end Tl
/-! ## K16t -/
set_option Elab.async false
set_option linter.all false
set_option maxRecDepth 100000
set_option maxHeartbeats 4000000
namespace K16
open PySem PySem.Spec PyProof.Rows L2 He Vx Tl

/-- a number of states that is one -/
def manyD : PyData → Option Int
  | .int i => if 1 ≤ i then some i else none
  | _ => none
def lenD : PyData → Nat
  | .list ds => ds.length
  | .tuple ds => ds.length
  | _ => 0
/-- what an instance's making leaves: all but the instance -/
def But (o : Addr) (H H' : Hp) : Prop := ∀ a u, a ≠ o → H a = some u → H' a = some u
def spBox (K : PySem.W.Frag) : Sp := fun vs H Q E => ∃ (o C dx : Addr) (x y z : V) (d e f : PyData), vs = [.ref o, x, y, z] ∧ C = ga K "Box" ∧ H o = some (.ins C dx []) ∧ Da K H x d ∧ Da K H y e ∧ Da K H z f ∧ Tups K H z f ∧ okD d = true ∧ okD e = true ∧ okD f = true ∧
  ((manyD d = none ∧ ∀ dd H', Same H H' → H' dd = some (.xd [("value", x)]) → E (.ref (ga K "InvalidStates")) (some dd) H') ∨
   ∃ n, manyD d = some n ∧ ((∃ r, startsD n e = some r ∧ ∀ dd H', Same H H' → H' dd = some (.xd [("position", posV r)]) → E (.ref (ga K "InvalidStarts")) (some dd) H') ∨
     (startsD n e = none ∧ ((∃ r, stepsD n f = some r ∧ ∀ dd H', Same H H' → H' dd = some (.xd [("position", posV r)]) → E (.ref (ga K "InvalidSteps")) (some dd) H') ∨
      (stepsD n f = none ∧ n ≤ 6 ∧ lenD f ≤ 24 ∧ ∀ H', But o H H' → Q .non H')))))
theorem but_of {o : Addr} {H H' : Hp} (s : Same H H') : But o H H' := fun a u _ e => s a u e
theorem but_same {o : Addr} {H H1 H2 : Hp} (b : But o H H1) (s : Same H1 H2) : But o H H2 := fun a u n e => s a u (b a u n e)
theorem putF_len (f : Str) (v : V) : ∀ fs : List (Str × V), (putF f v fs).length ≤ fs.length + 1
  | [] => Nat.le_refl _
  | (g, x) :: r => by
    unfold putF
    split
    · exact Nat.le_succ _
    · rw [List.length_cons, List.length_cons]
      exact Nat.succ_le_succ (putF_len f v r)
/-- sorted of a list or a tuple, as its items read in another heap -/
theorem sort_step {K : PySem.W.Frag} {H : Hp} {a : Addr} {xs : List V} {ds : List PyData} {Q : VK} (hs : SqL K H a xs ∨ SqT K H a xs) (hl : xs.length = ds.length) (hd : ∀ q ∈ xs.zip ds, Da K H q.1 q.2) (al : PySem.W.AllAlike ds) (sb : PySem.W.Sortable ds) (dp : ∀ d ∈ ds, d.depth ≤ 20)
    (q : ∀ ys p, H p = none → Q (.ref p) (upd H p (.lst ys))) : rSortS K [.ref a] H Q := by
  have e1 : (xs.zip ds).map Prod.fst = xs := List.map_fst_zip (Nat.le_of_eq hl)
  have e2 : (xs.zip ds).map Prod.snd = ds := List.map_snd_zip (Nat.le_of_eq hl.symm)
  refine ⟨a, V × PyData, xs.zip ds, Prod.snd, Prod.fst, rfl, by rw [e1]; exact hs, hd, by rw [e2]; exact al, by rw [e2]; exact sb, fun b hb => dp _ ?_, fun p hp => q _ p hp⟩
  rw [← e2]
  exact List.mem_map_of_mem hb
theorem seq_but {K : PySem.W.Frag} {H H' : Hp} {o a C dx : Addr} {fs : List (Str × V)} {xs : List V} (ho : H o = some (.ins C dx fs)) (b : But o H H') (h : SqL K H a xs ∨ SqT K H a xs) : SqL K H' a xs ∨ SqT K H' a xs := by
  have ne : ∀ u, H a = some u → (∀ C dx fs, u ≠ .ins C dx fs) → a ≠ o := fun u e n z => by
    rw [z, ho] at e
    exact n _ _ _ (Option.some.inj e).symm
  rcases h with ((h | ⟨u, h⟩) | h) | ((h | ⟨u, h⟩) | h)
  · exact .inl (.inl (.inl (b _ _ (ne _ h fun _ _ _ z => by cases z) h)))
  · exact .inl (.inl (.inr ⟨u, b _ _ (ne _ h fun _ _ _ z => by cases z) h⟩))
  · exact .inl (.inr h)
  · exact .inr (.inl (.inl (b _ _ (ne _ h fun _ _ _ z => by cases z) h)))
  · exact .inr (.inl (.inr ⟨u, b _ _ (ne _ h fun _ _ _ z => by cases z) h⟩))
  · exact .inr (.inr h)
theorem fwk_right {κ : Type} [DecidableEq κ] : ∀ {ks : List (Option κ)} {seen : List κ} {i : Nat}, fwk seen ks i = none → ∀ k ∈ ks, k.isSome = true
  | [], _, _, _, k, hk => nomatch hk
  | none :: _, _, _, e, _, _ => by
    rw [fwk] at e
    cases e
  | some z :: r, seen, i, e, k, hk => by
    rw [fwk] at e
    split at e
    · cases e
    · rcases List.mem_cons.mp hk with rfl | hk
      · rfl
      · exact fwk_right e k hk
theorem zip_at {α β : Type} {as : List α} {bs : List β} {q : α × β} (h : q ∈ as.zip bs) : ∃ i : Nat, as[i]? = some q.1 ∧ bs[i]? = some q.2 := by
  obtain ⟨i, hi⟩ := List.getElem?_of_mem h
  rw [List.getElem?_zip_eq_some] at hi
  exact ⟨i, hi⟩
/-- right starts are ints -/
theorem starts_ok {n : Int} {e : PyData} (h : startsD n e = none) : ∃ ds, (e = .list ds ∨ e = .tuple ds) ∧ ∀ d ∈ ds, stateD n d = true := by
  have go : ∀ ds, startsL n ds = none → ∀ d ∈ ds, stateD n d = true := fun ds h d hd => by
    cases ds with
    | nil => cases h
    | cons a as =>
      have h2 : (fwk [] ((a :: as).map (keyI n)) 0).map some = none := h
      rw [Option.map_eq_none_iff] at h2
      rw [← keyI_some]
      exact fwk_right h2 _ (List.mem_map_of_mem hd)
  cases e with
  | list ds => exact ⟨ds, .inl rfl, go ds h⟩
  | tuple ds => exact ⟨ds, .inr rfl, go ds h⟩
  | _ => cases h
theorem steps_ok {n : Int} {e : PyData} (h : stepsD n e = none) : ∃ ds, (e = .list ds ∨ e = .tuple ds) ∧ ∀ d ∈ ds, stepD n d = true := by
  have go : ∀ ds : List PyData, (fwk [] (ds.map (keyM n)) 0).map some = none → ∀ d ∈ ds, stepD n d = true := fun ds h d hd => by
    rw [Option.map_eq_none_iff] at h
    rw [← keyM_some]
    exact fwk_right h _ (List.mem_map_of_mem hd)
  cases e with
  | list ds => exact ⟨ds, .inl rfl, go ds h⟩
  | tuple ds => exact ⟨ds, .inr rfl, go ds h⟩
  | _ => cases h
theorem many_some {d : PyData} {n : Int} (h : manyD d = some n) : d = .int n ∧ 1 ≤ n := by
  cases d with
  | int i =>
    have h : (if 1 ≤ i then some i else none) = some n := h
    split at h
    · cases h
      exact ⟨rfl, by assumption⟩
    · cases h
  | _ => cases h
/-- the parts of a box, judged -/
def spParts (K : PySem.W.Frag) : Sp := fun vs H Q E => ∃ (x y z : V) (d e f : PyData), vs = [x, y, z] ∧ Da K H x d ∧ Da K H y e ∧ Da K H z f ∧ Tups K H z f ∧ okD d = true ∧ okD e = true ∧ okD f = true ∧
  ((manyD d = none ∧ ∀ dd H', Same H H' → H' dd = some (.xd [("value", x)]) → E (.ref (ga K "InvalidStates")) (some dd) H') ∨
   ∃ n, manyD d = some n ∧ ((∃ r, startsD n e = some r ∧ ∀ dd H', Same H H' → H' dd = some (.xd [("position", posV r)]) → E (.ref (ga K "InvalidStarts")) (some dd) H') ∨
     (startsD n e = none ∧ ((∃ r, stepsD n f = some r ∧ ∀ dd H', Same H H' → H' dd = some (.xd [("position", posV r)]) → E (.ref (ga K "InvalidSteps")) (some dd) H') ∨
      (stepsD n f = none ∧ ∀ H', Same H H' → Q .non H')))))
def spLimits (K : PySem.W.Frag) : Sp := fun vs H Q _ => ∃ (n : Int) (a : Addr) (xs : List V), vs = [.int n, .ref a] ∧ n ≤ 6 ∧ (SqL K H a xs ∨ SqT K H a xs) ∧ xs.length ≤ 24 ∧ Q .non H
section
variable {P : Program} {w : World} {K : PySem.W.Frag} {mg : Str → Option Value} {base : Heap}
theorem co_check_parts (F : At K mg "check_parts" s_check_parts) (T : BI mg) (ES : ErrSet P w K mg base) (c_is_integer : Co P w K mg base CX0 1 "is_integer" ["value"] (spP K numD))
    (c_check_starts : Co P w K mg base (L2.CX P w) 3 "check_starts" ["states", "starts"] (spStarts K)) (c_check_steps : Co P w K mg base (L2.CX P w) 4 "check_steps" ["states", "steps"] (spSteps K)) :
    Co P w K mg base (L2.CX P w) 5 "check_parts" ["states", "starts", "steps"] (spParts K) := by
  refine co_mkX F sc_check_parts (fun vs H Q E h => ?_) (fun _ _ _ _ _ _ us hl => match us, hl with | [_, _, _], _ => rfl) (fun f cdv A outer s H vs Q E hr h => ?_)
  · obtain ⟨x, y, z, d, e, g, rfl, _⟩ := h
    rfl
  · obtain ⟨x, y, z, d, e, g, rfl, hd, he, hg, hT, okd, oke, okg, h⟩ := h
    refine ⟨_, (pss_cons (ps_if (PW.pt (pw_or (pt_not (pt_val (pe_co c_is_integer (hr.mono (by decide)) (by rfl) (pa_cons (pv 0) pa_nil)))) (pw_or1 (pt_cmpR op_lt (pv 0) pe_int (nomark _))))) (pss_one (ps_rx ES.InvalidStates (hr.mono (by decide)) rfl (takes_of rfl rfl rfl rfl) (by rfl) (pa_cons (pv 0) pa_nil))) pss_nil)
  (pss_cons (ps_expr (pe_coX c_check_starts (passes_call (takes_of rfl rfl rfl rfl) (fun _ _ _ _ h => h)) (hr.mono (by decide)) (by rfl) (pa_cons (pv 0) (pa_cons (pv 1) pa_nil))))
  (pss_one (ps_expr (pe_coX c_check_steps (passes_call (takes_of rfl rfl rfl rfl) (fun _ _ _ _ h => h)) (hr.mono (by decide)) (by rfl) (pa_cons (pv 0) (pa_cons (pv 2) pa_nil))))))), ?_⟩
    refine ⟨_, rfl, x, d, rfl, hd, okd, fun H1 s1 => ⟨_, rfl, ?_⟩⟩
    rcases h with ⟨hm, k⟩ | ⟨n, hm, h⟩
    · -- no number of states
      have bad : ∀ dd, H1 dd = none → E (.ref (ga K "InvalidStates")) (some dd) (upd H1 dd (.xd [("value", x)])) := fun dd nd => k dd _ (s1.trans (same_new nd)) upd_same
      cases hd with
      | int i =>
        have lt : i < 1 := by
          have hm : (if 1 ≤ i then some i else none) = none := hm
          split at hm
          · cases hm
          · omega
        refine iteF ⟨_, rfl, i, 1, rfl, rfl, _, rfl, ?_⟩
        rw [decide_eq_true lt]
        exact iteT ⟨_, rfl, _, rfl, bad⟩
      | non => exact iteT (iteT ⟨_, rfl, _, rfl, bad⟩)
      | bl _ => exact iteT (iteT ⟨_, rfl, _, rfl, bad⟩)
      | str _ => exact iteT (iteT ⟨_, rfl, _, rfl, bad⟩)
      | lst _ _ => exact iteT (iteT ⟨_, rfl, _, rfl, bad⟩)
      | tup _ _ => exact iteT (iteT ⟨_, rfl, _, rfl, bad⟩)
      | dK _ _ => exact iteT (iteT ⟨_, rfl, _, rfl, bad⟩)
      | dT _ _ => exact iteT (iteT ⟨_, rfl, _, rfl, bad⟩)
    · obtain ⟨rfl, n1⟩ := many_some hm
      cases hd
      refine iteF ⟨_, rfl, n, 1, rfl, rfl, _, rfl, ?_⟩
      rw [decide_eq_false (by omega)]
      refine iteF ⟨_, rfl, _, rfl, n, y, e, rfl, he.mono s1, oke, ?_⟩
      rcases h with ⟨r, hr1, k⟩ | ⟨h1, h⟩
      · exact ⟨fun z => (by rw [hr1] at z; cases z), fun o eo dd H' s' hx => (by rw [hr1] at eo; cases eo; exact k dd H' (s1.trans s') hx)⟩
      refine ⟨fun _ H2 s2 => ?_, fun o eo => (by rw [h1] at eo; cases eo)⟩
      have s12 := s1.trans s2
      refine ⟨_, rfl, _, rfl, n, z, g, rfl, hg.mono s12, hT.mono s12, okg, ?_⟩
      rcases h with ⟨r, hr1, k⟩ | ⟨h2, k⟩
      · exact ⟨fun z => (by rw [hr1] at z; cases z), fun o eo dd H' s' hx => (by rw [hr1] at eo; cases eo; exact k dd H' (s12.trans s') hx)⟩
      exact ⟨fun _ H3 s3 => k H3 (s12.trans s3), fun o eo => (by rw [h2] at eo; cases eo)⟩
theorem co_check_limits (F : At K mg "check_limits" s_check_limits) (T : BI mg) (CB : BoxC P w K mg base (ga K "Box")) : Co P w K mg base CX0 1 "check_limits" ["states", "steps"] (spLimits K) := by
  refine co_mk F sc_check_limits (fun vs H Q E h => ?_) (fun _ _ _ _ _ _ us hl => match us, hl with | [_, _], _ => rfl) (fun f cdv A outer s H vs Q E hr h => ?_)
  · obtain ⟨n, a, xs, rfl, _⟩ := h
    rfl
  · obtain ⟨n, az, zs, rfl, n6, hzs1, lz, k⟩ := h
    obtain ⟨mc, qq, gg, fdS, rd, _, _, _, ⟨u1, v1⟩, ⟨u2, v2⟩⟩ := CB.ex
    refine ⟨_, (pss_cons (ps_if (pt_cmpR op_gt (pv 0) (ClX.pe_cval (pe_glob (v := .ref _) (by rfl) CB.hm rfl)) (nomark _)) (pss_one ps_never) pss_nil)
  (pss_one (ps_if (pt_cmpR op_gt (pe_callB call_len_seq (by rfl) T.len PySem.boot_len (pa_cons (pv 1) pa_nil)) (ClX.pe_cval (pe_glob (v := .ref _) (by rfl) CB.hm rfl)) (nomark _)) (pss_one ps_never) pss_nil))), ?_⟩
    refine ⟨_, rfl, _, mc, _, _, rfl, rd, v1, n, 6, rfl, rfl, _, rfl, ?_⟩
    rw [decide_eq_false (by omega)]
    refine iteF ⟨_, rfl, az, zs, rfl, hzs1, _, mc, _, _, rfl, rd, v2, _, 24, rfl, rfl, _, rfl, ?_⟩
    rw [decide_eq_false (by omega)]
    exact iteF k
theorem fwk_none {κ : Type} [DecidableEq κ] : ∀ (ks seen : List κ) (i : Nat), (seen ++ ks).Nodup → fwk seen (ks.map some) i = none
  | [], _, _, _ => rfl
  | k :: ks, seen, i, h => by
    have n : k ∉ seen := fun z => (List.nodup_append.mp h).2.2 _ z _ (List.mem_cons_self ..) rfl
    rw [List.map_cons, fwk, if_neg n]
    exact fwk_none ks (seen ++ [k]) (i + 1) (by rw [List.append_assoc]; exact h)
theorem map_some {α κ : Type} {f : α → Option κ} {g : α → κ} : ∀ {l : List α}, (∀ x ∈ l, f x = some (g x)) → l.map f = (l.map g).map some
  | [], _ => rfl
  | x :: l, h => by rw [List.map_cons, List.map_cons, List.map_cons, h x (List.mem_cons_self ..), map_some fun y hy => h y (List.mem_cons_of_mem _ hy)]
theorem nd_map {α κ : Type} {g : α → κ} (inj : ∀ a b, g a = g b → a = b) {l : List α} (h : l.Nodup) : (l.map g).Nodup := List.pairwise_map.mpr (h.imp fun n e => n (inj _ _ e))
theorem stateD_ok {n i : Int} (h : 0 ≤ i ∧ i < n) : stateD n (.int i) = true := by
  show (decide (0 ≤ i) && decide (i < n)) = true
  rw [decide_eq_true h.1, decide_eq_true h.2]
  rfl
theorem startsL_ok {n : Int} {s : List Int} {m : List Mv} (h : OkB n s m) : startsL n (s.map PyData.int) = none := by
  have e : (s.map PyData.int).map (keyI n) = (s.map (Sum.inl : Int → L2.Key)).map some := by
    rw [List.map_map]
    refine map_some fun i hi => ?_
    show (if stateD n (.int i) = true then some (Sum.inl i) else none) = some (Sum.inl i)
    rw [if_pos (stateD_ok (h.sr i hi))]
  have nd : (s.map (Sum.inl : Int → L2.Key)).Nodup := nd_map (fun a b e => by cases e; rfl) h.sd
  cases s with
  | nil => exact absurd rfl h.s0
  | cons a s =>
    show (fwk [] ((PyData.int a :: s.map PyData.int).map (keyI n)) 0).map some = none
    rw [show (PyData.int a :: s.map PyData.int) = (a :: s).map PyData.int from rfl, e, fwk_none _ _ _ (by rw [List.nil_append]; exact nd)]
    rfl
theorem keyM_ok {n : Int} {x : Mv} (h : MvK n x) : keyM n (mvD x).py = some [.inl x.a, .inr x.c, .inr x.z, .inl x.b] := by
  show (if stepL n [.int x.a, .str x.c, .str x.z, .int x.b] = true then some [Sum.inl x.a, Sum.inr x.c, Sum.inr x.z, Sum.inl x.b] else none) = _
  rw [if_pos]
  show (stateD n (.int x.a) && (nm x.c && (nm x.z && stateD n (.int x.b)))) = true
  rw [stateD_ok ⟨h.a0, h.an⟩, stateD_ok ⟨h.b0, h.bn⟩, h.c, h.z]
  rfl
theorem steps_fwk {n : Int} {s : List Int} {m : List Mv} (h : OkB n s m) : fwk [] ((m.map fun x => (mvD x).py).map (keyM n)) 0 = none := by
  rw [List.map_map, map_some (f := keyM n ∘ fun x => (mvD x).py) (g := fun x : Mv => ([Sum.inl x.a, Sum.inr x.c, Sum.inr x.z, Sum.inl x.b] : List L2.Key)) fun x hx => keyM_ok (h.mr x hx)]
  refine fwk_none _ _ _ ?_
  rw [List.nil_append]
  exact nd_map (fun a b e => by
    cases a
    cases b
    simp at e
    simp [e]) h.md
theorem seq_dr {W : List Addr} {H : Hp} {v : V} {d : D} {l : List D} (h : d = .lst l ∨ d = .tup l) (r : DR K (msk W H) v d) : ∃ a xs, v = .ref a ∧ ((SqL K H a xs ∧ d.py = .list (D.pys l)) ∨ (SqT K H a xs ∧ d.py = .tuple (D.pys l))) ∧ DRs K (msk W H) xs l := by
  rcases h with rfl | rfl
  · obtain ⟨a, xs, e, ha, _, r⟩ := r.lst_of
    exact ⟨a, xs, e, .inl ⟨SqL.of ha, rfl⟩, r⟩
  · obtain ⟨a, xs, e, ha, r⟩ := r.tup_of
    exact ⟨a, xs, e, .inr ⟨ha, rfl⟩, r⟩
theorem tups_mvs {W : List Addr} {H : Hp} {v : V} {d : D} {m : List Mv} (h : d = .lst (m.map mvD) ∨ d = .tup (m.map mvD)) (r : DR K (msk W H) v d) : Tups K H v d.py := fun _ => by
  obtain ⟨a, xs, e, hs, rs⟩ := seq_dr h r
  refine ⟨a, xs, _, e, hs, (rs.mono mk_all).da (datas_mvs m), fun i sa t c z hi => ?_⟩
  rw [pys_mvs, List.getElem?_map] at hi
  obtain ⟨x, hx, ex⟩ := Option.map_eq_some_iff.mp hi
  obtain ⟨u, e1, r1⟩ := rs.get (i := i) (d := mvD x) (by rw [List.getElem?_map, hx]; rfl)
  have ex2 : PyData.tuple [.int x.a, .str x.c, .str x.z, .int x.b] = .tuple [.int sa, .str c, .str z, .int t] := ex
  cases r1 with
  | tup g gr =>
    cases gr with
    | cons g1 gr =>
    cases gr with
    | cons g2 gr =>
    cases gr with
    | cons g3 gr =>
    cases gr with
    | cons g4 gr =>
    cases gr
    cases g1
    cases g2
    cases g3
    cases g4
    simp at ex2
    obtain ⟨f1, f2, f3, f4⟩ := ex2
    subst f1 f2 f3 f4
    exact ⟨_, e1, (mk_some g).2⟩
section
variable {c : C1} {Γ : List Sl} {k : D → Prop} {ta : TA} {E : XK}
theorem okD_of {l : List PyData} (h : l.length ≤ 100) (g : okAll l = true) : okD (.list l) = true ∧ okD (.tuple l) = true := by
  constructor <;> (simp only [okD, Bool.and_eq_true, decide_eq_true_eq]; exact ⟨h, g⟩)
theorem ex_parts (h : ExA c Γ ta fun ds => ∃ (n : Int) (s : List Int) (m : List Mv) (ss ms : D), ds = [.int n, ss, ms] ∧ (ss = .lst (s.map D.int) ∨ ss = .tup (s.map D.int)) ∧ (ms = .lst (m.map mvD) ∨ ms = .tup (m.map mvD)) ∧ OkB n s m ∧ s.length ≤ 100 ∧ m.length ≤ 100 ∧ k .non) :
    Ex c Γ (tCall (spParts c.K) [] E ta) k := fun H0 own σ H Q R q =>
  h H0 own σ H _ R fun ds vs H1 ⟨n, s, m, ss, ms, e, hs, hm, ok, s1, m1, z⟩ st r => by
    subst e
    cases r with
    | cons r1 r =>
    cases r with
    | cons r2 r =>
    cases r with
    | cons r3 r =>
    cases r
    cases r1
    have es : ss.py = .list (s.map PyData.int) ∨ ss.py = .tuple (s.map PyData.int) := by
      rw [← pys_ints]
      exact hs.imp (fun e => by rw [e]; rfl) (fun e => by rw [e]; rfl)
    have em : ms.py = .list (m.map fun x => (mvD x).py) ∨ ms.py = .tuple (m.map fun x => (mvD x).py) := by
      rw [← pys_mvs]
      exact hm.imp (fun e => by rw [e]; rfl) (fun e => by rw [e]; rfl)
    have ds : ss.data = true := by rcases hs with e | e <;> (rw [e]; exact datas_ints s)
    have dm : ms.data = true := by rcases hm with e | e <;> (rw [e]; exact datas_mvs m)
    rw [List.append_nil]
    refine ⟨_, _, _, .int n, ss.py, ms.py, rfl, .int n, (r2.mono mk_all).da ds, (r3.mono mk_all).da dm, tups_mvs hm r3, rfl, ?_, ?_, .inr ⟨n, ?_, .inr ⟨?_, .inr ⟨?_, fun H2 s2 => q _ _ H2 z (st.trans (Stay.of s2)) .non⟩⟩⟩⟩
    · have := okD_of (l := s.map PyData.int) (by rw [List.length_map]; exact s1) (okA_ints s)
      rcases es with e | e <;> rw [e]
      · exact this.1
      · exact this.2
    · have := okD_of (l := m.map fun x => (mvD x).py) (by rw [List.length_map]; exact m1) (okA_mvs ok.mr)
      rcases em with e | e <;> rw [e]
      · exact this.1
      · exact this.2
    · show (if 1 ≤ n then some n else none) = some n
      rw [if_pos ok.n1]
    · rcases es with e | e <;> (rw [e]; exact startsL_ok ok)
    · rcases em with e | e <;> (rw [e]; show (fwk [] _ 0).map some = none; rw [steps_fwk ok]; rfl)
theorem ex_limits (h : ExA c Γ ta fun ds => ∃ (n : Int) (m : List D) (ms : D), ds = [.int n, ms] ∧ (ms = .lst m ∨ ms = .tup m) ∧ n ≤ 6 ∧ m.length ≤ 24 ∧ k .non) : Ex c Γ (tCall (spLimits c.K) [] E ta) k := fun H0 own σ H Q R q =>
  h H0 own σ H _ R fun ds vs H1 ⟨n, m, ms, e, hm, n6, m24, z⟩ st r => by
    subst e
    cases r with
    | cons r1 r =>
    cases r with
    | cons r2 r =>
    cases r
    cases r1
    obtain ⟨a, xs, rfl, ha, rx⟩ := Tl.seq_of hm r2
    rw [List.append_nil]
    exact ⟨n, a, xs, rfl, n6, ha, by rw [rx.len]; exact m24, q _ _ H1 z st .non⟩
end
theorem ok_init {f : Addr} {fd : FuncData} {dvs : List V} {kws : List (Str × V)} (F : FunD K "__init__" "Box.__init__" (defArgs s_Box___init__) (defBody s_Box___init__) (defScope s_Box___init__) dvs kws f fd) (T : BI mg) (CB : BoxC P w K mg base (ga K "Box"))
    (c_check_parts : Co P w K mg base (L2.CX P w) 5 "check_parts" ["states", "starts", "steps"] (spParts K)) (c_check_limits : Co P w K mg base CX0 1 "check_limits" ["states", "steps"] (spLimits K)) :
    FnOk P w K mg base (L2.CX P w) 6 f fd ["self", "states", "starts", "steps"] (spI K fInit) := by
  refine F.ok sc_Box___init__ (fun vs H Q E h => ?_) (fun cdv A outer s H vs Q E hr h => ?_)
  · obtain ⟨o, dx, vs', W, ds, k, rfl, _, _, _, r, ⟨n, s, m, ss, ms, rfl, _⟩, _⟩ := h
    have := r.len
    rw [List.length_cons, this]
    rfl
  · obtain ⟨o, dx, vs', W, ds, k, rfl, ho, hW, oW, rd, ⟨n, s, m, ss, ms, rfl, hs, hm, ok, n6, m24, s100, hk⟩, q⟩ := h
    refine ⟨_, (pss_cons (ps_expr (pe_coX c_check_parts (passes_call (takes_of rfl rfl rfl rfl) (fun _ _ _ _ h => h)) (hr.mono (by decide)) (by rfl) (pa_cons (pv 1) (pa_cons (pv 2) (pa_cons (pv 3) pa_nil)))))
  (pss_cons (ps_expr (pe_co c_check_limits (hr.mono (by decide)) (by rfl) (pa_cons (pv 1) (pa_cons (pv 3) pa_nil))))
  (pss_cons (ps_fld (pv 0) (pv 1) rfl)
  (pss_cons (ps_fld (pv 0) (pe_callB (cr_sortS hr.units) (by rfl) T.sorted bt_sorted (pa_cons (pv 2) pa_nil)) rfl)
  (pss_one (ps_fld (pv 0) (pe_callB (cr_sortS hr.units) (by rfl) T.sorted bt_sorted (pa_cons (pv 3) pa_nil)) rfl)))))), ?_⟩
    cases rd with
    | @cons v1 _ _ _ r1 rd =>
    cases rd with
    | @cons v2 _ _ _ r2 rd =>
    cases rd with
    | @cons v3 _ _ _ r3 rd =>
    cases rd
    have pe : (C1.mk K none W).P = [] := rfl
    have b0 : Base ⟨K, none, W⟩ (msk [o] H) [o] H := ⟨fun a e => (by cases e), fun a e => (by cases e), fun a ha => (by rw [mk_out fun z => oW (by rw [← List.mem_singleton.mp z]; exact ha)]; exact hW a ha), (by rw [pe, mk_nil, mk_nil]; exact mk_all), fun a ha => mk_in ha, fun a ha => (by rw [List.mem_singleton.mp ha, ho]; exact fun z => by cases z)⟩
    have R0 : EnvR ⟨K, none, W⟩ (msk [o] H) [o] H [some (.ref o), some v1, some v2, some v3] [.un, .val (.int n), .val ss, .val ms] := by
      refine ⟨b0, rfl, fun i sl u h1 h2 => ?_, fun i j s t a h1 h2 s1 _ _ _ => ?_⟩
      · match i with
        | 0 => cases h1; trivial
        | 1 => cases h1; cases h2; exact ⟨_, rfl, r1⟩
        | 2 => cases h1; cases h2; exact ⟨_, rfl, r2⟩
        | 3 => cases h1; cases h2; exact ⟨_, rfl, r3⟩
        | i + 4 => cases h1
      · match i with
        | 0 => cases h1; cases s1
        | 1 => cases h1; cases s1
        | 2 => cases h1; cases s1
        | 3 => cases h1; cases s1
        | i + 4 => cases h1
    have no : ∀ s ∈ ([.un, .val (.int n), .val ss, .val ms] : List Sl), s.isOwn = false := by
      intro s hs
      simp at hs
      rcases hs with rfl | rfl | rfl | rfl <;> rfl
    have oo : o ∈ [o] := List.mem_cons_self ..
    have p1 : Ex ⟨K, none, W⟩ [.un, .val (.int n), .val ss, .val ms] (tCall (spParts K) [] E (tCons (tVar 1) (tCons (tVar 2) (tCons (tVar 3) tNil)))) fun _ => True :=
      ex_parts (c := ⟨K, none, W⟩) (exa_cons (ex_var rfl (exa_cons (ex_var rfl (exa_cons (ex_var rfl (exa_nil ⟨n, s, m, ss, ms, rfl, hs, hm, ok, s100, by omega, trivial⟩)))))))
    refine p1 _ _ _ _ _ R0 fun _ _ H1 _ s1 _ => ?_
    have p2 : Ex ⟨K, none, W⟩ [.un, .val (.int n), .val ss, .val ms] (tCall (spLimits K) [] E0 (tCons (tVar 1) (tCons (tVar 3) tNil))) fun _ => True :=
      ex_limits (c := ⟨K, none, W⟩) (exa_cons (ex_var rfl (exa_cons (ex_var rfl (exa_nil ⟨n, _, ms, rfl, hm, n6, by rw [List.length_map]; exact m24, trivial⟩)))))
    refine p2 _ _ _ _ _ (R0.stay s1) fun _ _ H2 _ s2 _ => ?_
    have st2 := s1.trans s2
    have R2 := (R0.stay s1).stay s2
    have o2 := b0.at_ st2 oo ho
    refine ⟨_, rfl, _, rfl, o, _, dx, [], rfl, o2, CB.cls, CB.n1, by decide, ?_⟩
    cases r1
    have R3 := R2.wr (o := .ins (ga K "Box") dx (putF "_states" (.int n) [])) oo no
    have o3 := upd_same (H := H2) (a := o) (o := .ins (ga K "Box") dx (putF "_states" (.int n) []))
    generalize upd H2 o (.ins (ga K "Box") dx (putF "_states" (.int n) [])) = H3 at R3 o3 ⊢
    have p3 : ExL ⟨K, none, W⟩ [.un, .val (.int n), .val ss, .val ms] (tCB (rSortS K) (tCons (tVar 2) tNil)) fun l => l = (sI s).map D.int :=
      exl_sortI (c := ⟨K, none, W⟩) (ex_var rfl ⟨s, hs, ok.sd, rfl⟩)
    refine p3 _ _ _ _ _ R3 fun l3 p xs3 H4 e3 s4 n4 e4 r4 => ?_
    subst e3
    have o4 := R3.b.at_ s4 oo o3
    have d4 := newL R3.b n4 e4 r4
    have R4 := R3.stay s4
    refine ⟨_, rfl, o, _, dx, _, rfl, o4, CB.cls, CB.n2, Nat.lt_of_le_of_lt (putF_len _ _ _) (by decide : 0 + 1 < 1000), ?_⟩
    have R5 := R4.wr (o := .ins (ga K "Box") dx (putF "_starts" (.ref p) (putF "_states" (.int n) []))) oo no
    have d5 := d4.mono (Base.wsame (c := ⟨K, none, W⟩) (o := .ins (ga K "Box") dx (putF "_starts" (.ref p) (putF "_states" (.int n) []))) oo)
    have o5 := upd_same (H := H4) (a := o) (o := .ins (ga K "Box") dx (putF "_starts" (.ref p) (putF "_states" (.int n) [])))
    have old5 : ∀ a, upd H4 o (.ins (ga K "Box") dx (putF "_starts" (.ref p) (putF "_states" (.int n) []))) a = none → H4 a = none := fun a z => by
      by_cases e : a = o
      · rw [e, upd_same] at z
        cases z
      · rwa [upd_ne e] at z
    generalize upd H4 o (.ins (ga K "Box") dx (putF "_starts" (.ref p) (putF "_states" (.int n) []))) = H5 at R5 d5 o5 old5 ⊢
    have p4 : ExL ⟨K, none, W⟩ [.un, .val (.int n), .val ss, .val ms] (tCB (rSortS K) (tCons (tVar 3) tNil)) fun l => l = (mvE.srt m).map mvD :=
      exl_sortT (c := ⟨K, none, W⟩) mvE (ex_var rfl ⟨m, hm, ok.md, rfl⟩)
    refine p4 _ _ _ _ _ R5 fun l6 q' xs6 H6 e6 s6 n6' e6' r6 => ?_
    subst e6
    have o6 := R5.b.at_ s6 oo o5
    have d6 := newL R5.b n6' e6' r6
    have R6 := R5.stay s6
    refine ⟨_, rfl, o, _, dx, _, rfl, o6, CB.cls, CB.n3, Nat.lt_of_le_of_lt (Nat.le_trans (putF_len _ _ _) (Nat.succ_le_succ (putF_len _ _ _))) (by decide : 0 + 1 + 1 < 1000), ?_⟩
    have R7 := R6.wr (o := .ins (ga K "Box") dx (putF "_steps" (.ref q') (putF "_starts" (.ref p) (putF "_states" (.int n) [])))) oo no
    have ws := Base.wsame (c := ⟨K, none, W⟩) (H := H6) (o := .ins (ga K "Box") dx (putF "_steps" (.ref q') (putF "_starts" (.ref p) (putF "_states" (.int n) [])))) oo
    have f1 := (R3.b.free n4).2
    have f2 := (R5.b.free n6').2
    refine q n (sI s) (mvE.srt m) p q' _ hk (fun a u e => ?_) ?_ ?_ upd_same ((d5.mono (s6.ms R5.b.pw [o])).mono ws) (d6.mono ws)
    · have na := (mk_some e).1
      have z := R7.b.keep a u (by rw [pe, mk_nil]; exact e)
      rw [pe, mk_nil] at z
      rw [mk_out na]
      exact z
    · have z := f1.2
      rwa [mk_out f1.1] at z
    · have z := f2.2
      rwa [mk_out f2.1] at z
end
end K16
/-! ## K16v -/
set_option Elab.async false
set_option linter.all false
set_option maxRecDepth 100000
set_option maxHeartbeats 4000000
namespace K16
open PySem PySem.Spec PyProof.Rows L2 He Vx

theorem perm_erase {α : Type} : ∀ {l : List α} {i : Nat} (h : i < l.length), (l[i]'h :: l.eraseIdx i).Perm l
  | a :: l, 0, _ => List.Perm.refl _
  | a :: l, i + 1, h => (List.Perm.swap a (l[i]'(Nat.lt_of_succ_lt_succ h)) (l.eraseIdx i)).trans ((perm_erase (l := l) (Nat.lt_of_succ_lt_succ h)).cons a)
/-- o.name(e, ..), the written part named -/
theorem pe_bmK {X : Cx} {K : PySem.W.Frag} {T name id : String} {r : V → List V → Hp → VK → Prop} {o e : Expr} {es : List Expr} {to : TE} {t : TA} {apos cpos : Pos} (hK : X.K = K) (pa : PlainAttrs T) (slot : Slot T name id) (hty : typeOf (.builtin id) = pure (.type "method_descriptor")) (hm : MtR X id r) (ho : PE X o to) (ha : PA X (e :: es) t)
    (h1 : attributeBase o name X.env (eval o X.env) = eval o X.env := by rfl)
    (h2 : ((backTo cpos (starEach (e :: es) X.env)).all (fun x => !x.1) && (backToKw cpos (keywordEach [] X.env)).all (fun x => x.1.isSome) && decide ((e :: es).length + ([] : List Keyword).length + (if ([] : List Keyword).isEmpty then 0 else 1) < 30)) = true := by rfl)
    (h3 : (apos.endLine == cpos.line) = true := by rfl) (h4 : starEach (e :: es) X.env = (false, eval e X.env) :: starEach es X.env := by rfl) (h5 : (backTo cpos (starEach es X.env)).any (·.1) = false := by rfl) :
    PE X (.Call (.Attribute o name apos) (e :: es) [] cpos) (tBM K T r to t) := by
  subst hK
  exact pe_bm pa slot hty hm ho ha h1 h2 h3 h4 h5
/-- the menu in another sequence -/
def spMixed (K : PySem.W.Frag) : Sp := fun vs H Q _ => ∃ (p m : Addr) (xs : List V), vs = [.ref p, .ref m] ∧ Pot p H ∧ SqL K (off p H) m xs ∧ xs.length ≤ 1000 ∧ ∀ (D : Addr) (ys : List V) H', Stp p H H' → H D = none → D ≠ p → H' D = some (.lst ys) → ys.Perm xs → Q (.ref D) H'
section
variable {P : Program} {w : World} {K : PySem.W.Frag} {mg : Str → Option Value} {base : Heap}
theorem cd_mixed (F : At K mg "_law_mixed" s_law_mixed) (T : BI mg) (c__law_draw : Cd P w K mg base 1 "_law_draw" ["_law_pot_here", "_law_many"] spDraw) : Cd P w K mg base 2 "_law_mixed" ["_law_pot_here", "_law_menu_here"] (spMixed K) := by
  refine cd_mk F sc_law_mixed (fun vs H Q E h => ?_) (fun _ _ _ _ _ _ us hl => match us, hl with | [_, _], _ => rfl) (fun f cdv A outer s H vs Q E hr hG h => ?_)
  · obtain ⟨p, m, xs, rfl, _⟩ := h
    rfl
  · obtain ⟨p, m, xs, rfl, hP, hm, hl, k⟩ := h
    refine ⟨_, (pss_cons (ps_set (i := 2) sc_law_mixed.nd rfl (Or.inr rfl) (pe_callTy call_list_of (by rfl) T.list bt_list (pa_cons (pv 1) pa_nil)))
  (pss_one (ps_ret (pe_lc (own := [("_law_turn", 3)]) (g := (gName 3)) (tt := tYes) (by rfl) sc_law_mixed.nd (pi_range1 (by rfl) T.range (pa_cons (pe_callB (call_lenK (K := K) rfl) (by rfl) T.len PySem.boot_len (pa_cons (pv 1) pa_nil)) pa_nil)) (blkOk_by (own := [("_law_turn", 3)]) (N := ["_law_pot_here", "_law_menu_here", "_law_pack", "_law_turn"]) (sc := defScope s_law_mixed) (by decide +kernel)) (fun _ _ _ _ _ => (pg_name (i := 3) sc_law_mixed.nd rfl (Or.inl rfl))) (fun _ _ _ _ _ => pts_nil) (fun _ _ _ _ _ => (pe_bmK (K := K) rfl PySem.F.plainAttrs_list PySem.F.slot_list_pop PySem.F.type_list_pop mt_popAt (pv 2) (pa_cons (pe_cd c__law_draw (hr.mono (by decide)) hG (by rfl) (pa_cons (pv 0) (pa_cons (pe_callB (call_lenK (K := K) rfl) (by rfl) T.len PySem.boot_len (pa_cons (pv 2) pa_nil)) pa_nil))) pa_nil))))))), ?_⟩
    refine ⟨_, rfl, m, xs, rfl, .inl (off_same.seq hm), fun a ha => ?_⟩
    have ap : a ≠ p := hP.new ha
    refine ⟨_, rfl, m, xs, rfl, .inl ((same_new ha).seq (off_same.seq hm)), (xs.length : Int), rfl, by omega, by omega, fun D hD => ?_⟩
    have HD : H D = none := (same_new ha).free hD
    have Da_ : D ≠ a := fun z => by rw [z, upd_same] at hD; cases hD
    have Dp : D ≠ p := hP.new HD
    refine lc_range (lo := 0) (n := xs.length) (fun i H' => Stp p H H' ∧ ∃ acc rest, H' a = some (.lst rest) ∧ H' D = some (.lst acc) ∧ acc.length = i ∧ (acc ++ rest).Perm xs) ⟨?_, [], xs, ?_, upd_same, rfl, List.Perm.refl _⟩ (fun i H' hi z => ⟨by rfl, ?_⟩) fun H' z => ?_
    · exact ((Stp.refl hP).putD ha ap).putD HD Dp
    · rw [upd_ne Da_.symm, upd_same]
    · obtain ⟨st, acc, rest, ea, eD, la, pm⟩ := z
      have lr : acc.length + rest.length = xs.length := by rw [← List.length_append]; exact pm.length_eq
      refine ⟨_, rfl, .inl ⟨rfl, _, SqL.of ea⟩, _, rfl, _, rfl, a, rest, rfl, .inl (SqL.of ea), p, _, rfl, st.pot, by omega, by omega, fun d H2 s2 d0 d1 => ?_⟩
      have st2 := st.trans s2
      have keep : ∀ c u, c ≠ p → H' c = some u → H2 c = some u := fun c u n e => by
        have q := s2.k c u ((off_ne n).trans e)
        rwa [off_ne n] at q
      have ea2 := keep a _ ap ea
      have eD2 := keep D _ Dp eD
      have lt : d.toNat < rest.length := by omega
      refine ⟨a, rest, d, d.toNat, rest[d.toNat], rfl, rfl, ea2, by omega, by omega, ?_, List.getElem?_eq_getElem lt, acc, ?_, ?_, ?_, ?_⟩
      · simp only [seqIndex?]
        rw [if_neg (by omega : ¬ d < 0)]
        rw [if_pos (Bool.and_eq_true_iff.mpr ⟨decide_eq_true d0, decide_eq_true d1⟩)]
      · rw [upd_ne Da_]
        exact eD2
      · exact small1000 (by omega)
      · exact (st2.putD ha ap).putD HD Dp
      · refine ⟨acc ++ [rest[d.toNat]], rest.eraseIdx d.toNat, ?_, upd_same, ?_, ?_⟩
        · rw [upd_ne Da_.symm, upd_same]
        · rw [List.length_append, la]
          rfl
        · refine List.Perm.trans ?_ pm
          rw [List.append_assoc]
          exact (perm_erase lt).append_left acc
    · obtain ⟨st, acc, rest, ea, eD, la, pm⟩ := z
      have lr : acc.length + rest.length = xs.length := by rw [← List.length_append]; exact pm.length_eq
      have e0 : rest = [] := List.eq_nil_of_length_eq_zero (by omega)
      subst e0
      rw [List.append_nil] at pm
      exact k D acc H' st HD Dp eD pm
end
end K16
/-! ## K16w -/
set_option Elab.async false
set_option linter.all false
set_option maxRecDepth 100000
set_option maxHeartbeats 4000000
namespace K16
open PySem PySem.Spec PyProof.Rows L2 He Vx

/-- a sign that is right -/
def GoodSign (H : Hp) (y : V) : Prop := ∃ (b : Addr) (c z : Str), y = .ref b ∧ H b = some (.tup [.str c, .str z]) ∧ nm c = true ∧ nm z = true
theorem GoodSign.off {p : Addr} {H : Hp} {y : V} (h : GoodSign H y) (P : Pot p H) : GoodSign (off p H) y := by
  obtain ⟨b, c, z, rfl, e, h1, h2⟩ := h
  obtain ⟨i, j, ep, _⟩ := P
  exact ⟨b, c, z, rfl, (off_ne (ne_of e ep fun z => by cases z)).trans e, h1, h2⟩
theorem GoodSign.mono {H H' : Hp} {y : V} (h : GoodSign H y) (s : Same H H') : GoodSign H' y := by
  obtain ⟨b, c, z, rfl, e, h1, h2⟩ := h
  exact ⟨b, c, z, rfl, s _ _ e, h1, h2⟩
def spMenu1 : Sp := fun vs H Q _ => ∃ p : Addr, vs = [.ref p] ∧ Pot p H ∧ ∀ (D : Addr) (ys : List V) H', Stp p H H' → off p H' D = some (.lst ys) → 1 ≤ ys.length → ys.length ≤ 6 → (∀ y ∈ ys, GoodSign (off p H') y) → Q (.ref D) H'
section
variable {P : Program} {w : World} {K : PySem.W.Frag} {mg : Str → Option Value} {base : Heap}
theorem cd_menu (F : At K mg "_law_menu" s_law_menu) (T : BI mg) (c__law_draw : Cd P w K mg base 1 "_law_draw" ["_law_pot_here", "_law_many"] spDraw) : Cd P w K mg base 2 "_law_menu" ["_law_pot_here"] spMenu1 := by
  refine cd_mk F sc_law_menu (fun vs H Q E h => ?_) (fun _ _ _ _ _ _ us hl => match us, hl with | [_], _ => rfl) (fun f cdv A outer s H vs Q E hr hG h => ?_)
  · obtain ⟨p, rfl, _⟩ := h
    rfl
  · obtain ⟨p, rfl, hP, k⟩ := h
    refine ⟨_, (pss_cons (ps_set (i := 1) sc_law_menu.nd rfl (Or.inl rfl) (pe_lst (pa_cons (pe_tup (pa_cons pe_str (pa_cons pe_str pa_nil))) (pa_cons (pe_tup (pa_cons pe_str (pa_cons pe_str pa_nil))) (pa_cons (pe_tup (pa_cons pe_str (pa_cons pe_str pa_nil))) (pa_cons (pe_tup (pa_cons pe_str (pa_cons pe_str pa_nil))) (pa_cons (pe_tup (pa_cons pe_str (pa_cons pe_str pa_nil))) (pa_cons (pe_tup (pa_cons pe_str (pa_cons pe_str pa_nil))) pa_nil))))))))
  (pss_cons (ps_set (i := 2) sc_law_menu.nd rfl (Or.inl rfl) (pe_cd c__law_draw (hr.mono (by decide)) hG (by rfl) (pa_cons (pv 0) (pa_cons pe_int pa_nil))))
  (pss_one (ps_ret (pe_slice sl_list (pe_op op_cat (pe_slice sl_list (pv 1) (po_some (pv 2)) po_none) (pe_slice sl_list (pv 1) po_none (po_some (pv 2)))) po_none (po_some (pe_op op_add pe_int (pe_cd c__law_draw (hr.mono (by decide)) hG (by rfl) (pa_cons (pv 0) (pa_cons pe_int pa_nil)))))))))), ?_⟩
    refine ⟨by show 2 ≤ sizeLine; decide, fun a1 n1 => ?_⟩
    generalize g1 : upd H a1 _ = H1
    have s1 : Same H H1 := g1 ▸ same_new n1
    have e1 := g1 ▸ upd_same (H := H) (a := a1)
    clear g1
    refine ⟨by show 2 ≤ sizeLine; decide, fun a2 n2 => ?_⟩
    generalize g2 : upd H1 a2 _ = H2
    have s2 : Same H1 H2 := g2 ▸ same_new n2
    have e2 := g2 ▸ upd_same (H := H1) (a := a2)
    clear g2
    refine ⟨by show 2 ≤ sizeLine; decide, fun a3 n3 => ?_⟩
    generalize g3 : upd H2 a3 _ = H3
    have s3 : Same H2 H3 := g3 ▸ same_new n3
    have e3 := g3 ▸ upd_same (H := H2) (a := a3)
    clear g3
    refine ⟨by show 2 ≤ sizeLine; decide, fun a4 n4 => ?_⟩
    generalize g4 : upd H3 a4 _ = H4
    have s4 : Same H3 H4 := g4 ▸ same_new n4
    have e4 := g4 ▸ upd_same (H := H3) (a := a4)
    clear g4
    refine ⟨by show 2 ≤ sizeLine; decide, fun a5 n5 => ?_⟩
    generalize g5 : upd H4 a5 _ = H5
    have s5 : Same H4 H5 := g5 ▸ same_new n5
    have e5 := g5 ▸ upd_same (H := H4) (a := a5)
    clear g5
    refine ⟨by show 2 ≤ sizeLine; decide, fun a6 n6 => ?_⟩
    generalize g6 : upd H5 a6 _ = H6
    have s6 : Same H5 H6 := g6 ▸ same_new n6
    have e6 := g6 ▸ upd_same (H := H5) (a := a6)
    clear g6
    refine ⟨by show 6 ≤ sizeLine; decide, fun a7 n7 => ?_⟩
    generalize g7 : upd H6 a7 _ = H7
    have s7 : Same H6 H7 := g7 ▸ same_new n7
    have e7 := g7 ▸ upd_same (H := H6) (a := a7)
    clear g7
    have T6 := s7
    have T5 := s6.trans T6
    have T4 := s5.trans T5
    have T3 := s4.trans T4
    have T2 := s3.trans T3
    have T1 := s2.trans T2
    have P7 := hP.keep (s1.trans T1)
    have g : ∀ y ∈ [V.ref a1, .ref a2, .ref a3, .ref a4, .ref a5, .ref a6], GoodSign H7 y := by
      intro y hy
      rcases List.mem_cons.mp hy with rfl | hy
      · exact ⟨a1, _, _, rfl, T1 _ _ e1, by decide +kernel, by decide +kernel⟩
      rcases List.mem_cons.mp hy with rfl | hy
      · exact ⟨a2, _, _, rfl, T2 _ _ e2, by decide +kernel, by decide +kernel⟩
      rcases List.mem_cons.mp hy with rfl | hy
      · exact ⟨a3, _, _, rfl, T3 _ _ e3, by decide +kernel, by decide +kernel⟩
      rcases List.mem_cons.mp hy with rfl | hy
      · exact ⟨a4, _, _, rfl, T4 _ _ e4, by decide +kernel, by decide +kernel⟩
      rcases List.mem_cons.mp hy with rfl | hy
      · exact ⟨a5, _, _, rfl, T5 _ _ e5, by decide +kernel, by decide +kernel⟩
      · cases List.mem_singleton.mp hy
        exact ⟨a6, _, _, rfl, T6 _ _ e6, by decide +kernel, by decide +kernel⟩
    have S7 := (Stp.refl hP).same (s1.trans T1)
    generalize gL : [V.ref a1, .ref a2, .ref a3, .ref a4, .ref a5, .ref a6] = L at e7 g
    have ll : L.length = 6 := by rw [← gL]; rfl
    have g' : ∀ y ∈ L, GoodSign (off p H7) y := fun y hy => (g y hy).off P7
    refine ⟨_, rfl, p, 6, rfl, P7, by decide, by decide, fun d H8 st8 d0 d6 => ?_⟩
    obtain ⟨n, rfl⟩ : ∃ n : Nat, d = (n : Int) := ⟨d.toNat, by omega⟩
    have n7p : a7 ≠ p := (hP.keep (s1.trans (s2.trans (s3.trans (s4.trans (s5.trans s6)))))).new n7
    have e8 : H8 a7 = some (.lst L) := by
      have q := st8.k a7 _ ((off_ne n7p).trans e7)
      rwa [off_ne n7p] at q
    refine ⟨_, rfl, _, rfl, _, rfl, a7, L, rfl, SqL.of e8, fun b hb => ?_⟩
    have s9 : Same H8 (upd H8 b (.lst (cutV L (some (n : Int)) none))) := same_new hb
    have e9 := upd_same (H := H8) (a := b) (o := .lst (cutV L (some (n : Int)) none))
    generalize upd H8 b (.lst (cutV L (some (n : Int)) none)) = H9 at s9 e9 ⊢
    refine ⟨_, rfl, _, rfl, _, rfl, a7, L, rfl, SqL.of (s9 _ _ e8), fun c hc => ?_⟩
    have s10 : Same H9 (upd H9 c (.lst (cutV L none (some (n : Int))))) := same_new hc
    have e10 := upd_same (H := H9) (a := c) (o := .lst (cutV L none (some (n : Int))))
    generalize upd H9 c (.lst (cutV L none (some (n : Int)))) = H10 at s10 e10 ⊢
    have cut1 : cutV L (some (n : Int)) none = L.drop n := cut_from (by omega)
    have cut2 : cutV L none (some (n : Int)) = L.take n := cut_to (by omega)
    rw [cut1] at e9
    rw [cut2] at e10
    refine ⟨b, c, _, _, rfl, rfl, s10 _ _ e9, e10, by rw [List.length_drop, List.length_take, ll]; exact Nat.le_of_lt (small1000 (by omega)), fun D hD => ?_⟩
    have s11 : Same H10 (upd H10 D (.lst (L.drop n ++ L.take n))) := same_new hD
    have e11 := upd_same (H := H10) (a := D) (o := .lst (L.drop n ++ L.take n))
    generalize upd H10 D (.lst (L.drop n ++ L.take n)) = H11 at s11 e11 ⊢
    have s811 := s9.trans (s10.trans s11)
    have P10 : Pot p H10 := st8.pot.keep (s9.trans s10)
    have Dp : D ≠ p := P10.new hD
    refine ⟨_, rfl, p, 4, rfl, st8.pot.keep s811, by decide, by decide, fun d H12 st12 d20 d24 => ?_⟩
    obtain ⟨m, rfl⟩ : ∃ m : Nat, d = (m : Int) := ⟨d.toNat, by omega⟩
    have e12 : H12 D = some (.lst (L.drop n ++ L.take n)) := by
      have q := st12.k D _ ((off_ne Dp).trans e11)
      rwa [off_ne Dp] at q
    refine ⟨1, (m : Int), rfl, rfl, _, rfl, D, _, rfl, SqL.of e12, fun D2 hD2 => ?_⟩
    have lc : (L.drop n ++ L.take n).length = 6 := by rw [List.length_append, List.length_drop, List.length_take, ll]; omega
    have cut3 : cutV (L.drop n ++ L.take n) none (some (1 + (m : Int))) = (L.drop n ++ L.take n).take (1 + m) := cut_to (k := 1 + m) (by rw [lc]; omega)
    rw [cut3]
    have st := (st8.same s811).trans st12
    have S := (S7.trans st).same (same_new hD2 (o := .lst ((L.drop n ++ L.take n).take (1 + m))))
    refine k D2 _ _ S ((off_ne (st12.pot.new hD2)).trans upd_same) ?_ ?_ fun y hy => ?_
    · rw [List.length_take, lc]
      omega
    · rw [List.length_take, lc]
      omega
    · have hy2 := List.mem_of_mem_take hy
      have hL : y ∈ L := by
        rcases List.mem_append.mp hy2 with q | q
        · exact List.mem_of_mem_drop q
        · exact List.mem_of_mem_take q
      exact (g' y hL).mono (st.same (same_new hD2)).k
end
end K16
/-! ## U2 -/
set_option Elab.async false
set_option linter.all false
set_option maxRecDepth 100000
set_option maxHeartbeats 4000000
/-! setdefault with keys that are tuples -/
namespace Tl
open PySem PySem.Spec PyProof.Rows L2 He Vx
section
variable {X : Cx} {pins : List (Addr × Obj)} {σ : L2.St} {H : Hp} {s : Shared} {a b : Addr} {r : Value} {d : V} {k : List L2.Key} {A : Around} {E : Value → Shared → Prop}
theorem d_setdT {kvs : List (List L2.Key × V)} {Q : Value → Shared → Prop} (hu : A.units + 1 < cLine) (I : L2.Inv X pins σ H s) (e : H a = some (.dT kvs)) (eb : H b = some (.tup (k.map kV))) (rd : RelV d r) (hl : kvs.length < sizeLine)
    (h1 : ∀ v, valV kvs k = some v → ∀ (w' : Value) (s' : Shared), L2.Inv X pins σ H s' → RelV v w' → Q w' s') (h2 : valV kvs k = none → ∀ (w' : Value) (s' : Shared), L2.Inv X pins σ (upd H a (.dT (putK kvs k d))) s' → RelV d w' → Q w' s') :
    wpAny (model X.prog X.w) A (call (.builtin "dict.setdefault") [.ref a, .ref b, r]) Q E s := by
  obtain ⟨z, hd, xs, rel, dd⟩ := dt_of I.hok e
  have hz : xs.length ≤ sizeLine := by rw [← Paired.length rel]; exact z
  refine call_setdefault_heap (knd := tupleKind (mixKind X.prog X.w)) (hsz := hz) (tupleKind_room_in1 hu) (key_of I.hok eb) hd dd (fun p hp => ?_) fun hn h' dd' hs => ?_
  · have q := rel.val k
    rw [hp] at q
    cases q0 : valV kvs k with
    | none =>
      rw [q0] at q
      exact (show False from q).elim
    | some v0 =>
      rw [q0] at q
      exact h1 v0 q0 _ _ (I.tok _) q
  · have q := rel.val k
    rw [hn] at q
    cases q0 : valV kvs k with
    | some v0 =>
      rw [q0] at q
      exact (show False from q).elim
    | none =>
      have hl2 : (putK kvs k d).length ≤ sizeLine := by
        have := length_putK kvs k d
        omega
      obtain ⟨q, es, ep, hq, g2, g3, g4, _, g5⟩ := dd'
      refine h2 q0 _ _ (d_write I (by rw [e]; exact True.intro) hs ⟨q, hq⟩ ⟨hl2, hd, _, (rel.put k eb rd).keeps fun c ys ec => ?_, q, es, ep, hq, g2, g3, g4, g5⟩) rd
      rw [upd_ne (ne_of ec e (fun z => nomatch z))]
      exact ec
end
/-- d.setdefault(y, z), y a tuple -/
def tDSetdT (td ty tx : TE) : TE := fun σ H Q => td σ H fun x H1 => ∃ a, x = .ref a ∧ IsD H1 a ∧ ty σ H1 fun y H2 => tx σ H2 fun z H3 => ∃ (kvs : List (List L2.Key × V)) (k : List L2.Key) (b : Addr), H3 a = some (.dT kvs) ∧ y = .ref b ∧ H3 b = some (.tup (k.map kV)) ∧ kvs.length < sizeLine ∧
  (∀ v, valV kvs k = some v → Q v H3) ∧ (valV kvs k = none → Q z (upd H3 a (.dT (putK kvs k z))))
theorem pe_dsetdT {X : Cx} {o e f : Expr} {td ty tx : TE} {apos cpos : Pos} (hu : X.A.units + 64 < cLine) (ho : PE X o td) (he : PE X e ty) (hf : PE X f tx) (m : M2 X o "setdefault" apos e f cpos) : PE X (.Call (.Attribute o "setdefault" apos) [e, f] [] cpos) (tDSetdT td ty tx) := by
  refine ⟨fun pins s σ H Q I h => ?_⟩
  refine wpAny_Call_method m.base m.few m.line PySem.F.plainAttrs_dict PySem.F.slot_dict_setdefault PySem.F.type_dict_setdefault (thn (ho.run pins s σ H _ I h) fun u s1 ⟨x, H1, I1, rx, a, ex, d, q1⟩ => ?_)
  subst ex
  obtain rfl : u = Value.ref a := rx
  obtain ⟨t1, t2, _⟩ := isD_at I1 d
  refine ⟨t1, t2, ?_⟩
  rw [m.trees]
  refine Calls.callWith_builtin rfl (Calls.evalArgs_plain (Calls.spliced_cons (thn (he.run pins s1 σ H1 _ I1 q1) fun iv s2 ⟨y, H2, I2, ry, q2⟩ =>
    Calls.spliced_cons (thn (hf.run pins s2 σ H2 _ I2 q2) fun fv s3 ⟨z, H3, I3, rz, kvs, k, b, ea, ey, eb, hl, q3, q4⟩ => Calls.spliced_nil ?_))))
  subst ey
  cases (show iv = Value.ref b from ry)
  exact d_setdT (by omega) I3 ea eb rz hl (fun v hv w' s4 I4 rw' => ⟨v, _, I4, rw', q3 v hv⟩) fun hn w' s4 I4 rw' => ⟨z, _, I4, rw', q4 hn⟩
end Tl
/-! ## T13 -/
set_option Elab.async false
set_option linter.all false
set_option maxRecDepth 100000
set_option maxHeartbeats 4000000
/-! dicts of lists, filled by d.setdefault(k, []).append(v) -/
namespace Tl
open PySem PySem.Spec PyProof.Rows L2 He Vx
section
variable {κ : Type} [DecidableEq κ]
/-- one more -/
def addG : List κ → List (List D) → κ → D → List (List D)
  | k' :: ks, l :: ls, k, d => if k' = k then (l ++ [d]) :: ls else l :: addG ks ls k d
  | _, _, _, d => [[d]]
theorem addG_new : ∀ (ks : List κ) (ls : List (List D)) (k : κ) (d : D), ks.length = ls.length → k ∉ ks → addG ks ls k d = ls ++ [[d]]
  | [], [], _, _, _, _ => rfl
  | [], _ :: _, _, _, h, _ => by cases h
  | _ :: _, [], _, _, h, _ => by cases h
  | k' :: ks, l :: ls, k, d, h, n => by
    have ne : ¬ k' = k := fun e => n (by rw [e]; exact List.mem_cons_self ..)
    rw [addG, if_neg ne, addG_new ks ls k d (by simpa using h) fun z => n (List.mem_cons_of_mem _ z)]
    rfl
theorem addG_len : ∀ (ks : List κ) (ls : List (List D)) (k : κ) (d : D), ks.length = ls.length → (addG ks ls k d).length = (putKs ks k).length := fun ks ls k d h => by
  unfold putKs
  by_cases m : k ∈ ks
  · rw [if_pos m]
    induction ks generalizing ls with
    | nil => cases m
    | cons k' ks ih =>
      cases ls with
      | nil => cases h
      | cons l ls =>
        rw [addG]
        split
        · rw [List.length_cons, List.length_cons]
          simpa using h.symm
        · rename_i ne
          rw [List.length_cons, List.length_cons, ih ls (by simpa using h) ((List.mem_cons.mp m).resolve_left fun e => ne e.symm)]
  · rw [if_neg m, addG_new ks ls k d h m, List.length_append, List.length_append, h]
    rfl
end
/-- a dict of lists that are all its own -/
structure Grp {κ : Type} (ho : List (κ × V) → HO) (c : C1) (own : List Addr) (H : Hp) (a : Addr) (as : List Addr) (ks : List κ) (ls : List (List D)) : Prop where
  at_ : H a = some (ho (ks.zip (as.map V.ref)))
  ao : a ∈ own
  nd : ks.Nodup
  lk : ks.length = as.length
  ll : as.length = ls.length
  asd : as.Nodup
  na : a ∉ as
  aso : ∀ b ∈ as, b ∈ own
  it : ∀ (i : Nat) (b : Addr) (l : List D), as[i]? = some b → ls[i]? = some l → ∃ xs, H b = some (.lst xs) ∧ DRs c.K (msk (c.W ++ own) H) xs l
section
variable {κ : Type} [DecidableEq κ] {ho : List (κ × V) → HO} {c : C1} {H0 H H' : Hp} {own : List Addr} {a : Addr} {as : List Addr} {ks : List κ} {ls : List (List D)}
theorem Grp.stay (G : Grp ho c own H a as ks ls) (b : Base c H0 own H) (s : Stay c H H') : Grp ho c own H' a as ks ls :=
  ⟨b.at_ s G.ao G.at_, G.ao, G.nd, G.lk, G.ll, G.asd, G.na, G.aso, fun i x l h1 h2 => by
    obtain ⟨xs, e, r⟩ := G.it i x l h1 h2
    exact ⟨xs, b.at_ s (G.aso x (List.mem_of_getElem? h1)) e, r.mono (s.ms b.pw own)⟩⟩
/-- more is held -/
theorem Grp.hold (G : Grp ho c own H a as ks ls) (b : Base c H0 own H) {x : Addr} {u : HO} (n : H x = none) : Grp ho c (x :: own) (upd H x u) a as ks ls := by
  have ne : ∀ {y : Addr}, y ∈ own → y ≠ x := fun {y} hy z => b.here y hy (by rw [z]; exact n)
  refine ⟨by rw [upd_ne (ne G.ao)]; exact G.at_, List.mem_cons_of_mem _ G.ao, G.nd, G.lk, G.ll, G.asd, G.na, fun y hy => List.mem_cons_of_mem _ (G.aso y hy), fun i y l h1 h2 => ?_⟩
  obtain ⟨xs, e, r⟩ := G.it i y l h1 h2
  refine ⟨xs, by rw [upd_ne (ne (G.aso y (List.mem_of_getElem? h1)))]; exact e, r.mono fun z o e => ?_⟩
  obtain ⟨nz, e⟩ := mk_some e
  have nx := ne_of_none e n
  rw [mk_out fun w => ?_, upd_ne nx]
  · exact e
  · rcases List.mem_append.mp w with w | w
    · exact nz (List.mem_append_left _ w)
    · rcases List.mem_cons.mp w with w | w
      · exact nx w
      · exact nz (List.mem_append_right _ w)
theorem valV_zip : ∀ {ks : List κ} {vs : List V} {i : Nat} {k : κ} {v : V}, ks.Nodup → ks[i]? = some k → vs[i]? = some v → valV (ks.zip vs) k = some v
  | [], _, i, k, v, _, h, _ => by simp at h
  | _ :: _, [], i, k, v, _, _, h => by simp at h
  | k' :: ks, v' :: vs, 0, k, v, _, h1, h2 => by
    simp at h1 h2
    subst h1 h2
    exact valV_pos rfl
  | k' :: ks, v' :: vs, i + 1, k, v, nd, h1, h2 => by
    simp at h1 h2
    rw [List.nodup_cons] at nd
    rw [List.zip_cons_cons, valV_neg fun e => nd.1 (by rw [show k' = k from e]; exact List.mem_of_getElem? h1)]
    exact valV_zip nd.2 h1 h2
theorem valV_zip_none {ks : List κ} {vs : List V} {k : κ} (h : k ∉ ks) : valV (ks.zip vs) k = none := by
  cases e : valV (ks.zip vs) k with
  | none => rfl
  | some v =>
    have q := valV_any k (ks.zip vs)
    rw [e] at q
    have m := (any_mem _ _).mp (q.trans rfl)
    have : k ∈ ks := by
      obtain ⟨p, hp, ep⟩ := List.mem_map.mp m
      exact ep ▸ (List.of_mem_zip hp).1
    exact absurd this h
theorem addG_at : ∀ {ks : List κ} {ls : List (List D)} {k : κ} {d : D} {i : Nat}, ks.Nodup → ks.length = ls.length → ks[i]? = some k → ∀ j : Nat, (addG ks ls k d)[j]? = if j = i then (ls[i]?).map (· ++ [d]) else ls[j]?
  | [], _, k, d, i, _, _, h => by simp at h
  | _ :: _, [], k, d, i, _, h, _ => by cases h
  | k' :: ks, l :: ls, k, d, 0, nd, hl, h => fun j => by
    simp at h
    rw [addG, if_pos h]
    cases j <;> simp
  | k' :: ks, l :: ls, k, d, i + 1, nd, hl, h => fun j => by
    simp at h
    rw [List.nodup_cons] at nd
    rw [addG, if_neg fun e => nd.1 (by rw [e]; exact List.mem_of_getElem? h)]
    cases j with
    | zero => simp
    | succ j =>
      rw [List.getElem?_cons_succ, addG_at nd.2 (by simpa using hl) h j]
      by_cases e : j = i
      · rw [if_pos e, if_pos (congrArg (· + 1) e), List.getElem?_cons_succ]
      · rw [if_neg e, if_neg fun z => e (Nat.succ.inj z), List.getElem?_cons_succ]
/-- the list at k gets one more -/
theorem Grp.app (G : Grp ho c own H a as ks ls) (hm : ∀ l xs, ho l ≠ .lst xs) (b : Base c H0 own H) {i : Nat} {k : κ} {x : Addr} {xs : List V} {v : V} {d : D} (hk : ks[i]? = some k) (hx : as[i]? = some x) (ex : H x = some (.lst xs)) (rv : DR c.K (msk (c.W ++ own) H) v d) :
    Grp ho c own (upd H x (.lst (xs ++ [v]))) a as ks (addG ks ls k d) := by
  have xo := G.aso x (List.mem_of_getElem? hx)
  have xa : a ≠ x := fun z => G.na (by rw [z]; exact List.mem_of_getElem? hx)
  have hl : ks.length = ls.length := G.lk.trans G.ll
  refine ⟨by rw [upd_ne xa]; exact G.at_, G.ao, G.nd, G.lk, ?_, G.asd, G.na, G.aso, fun j y l h1 h2 => ?_⟩
  · rw [addG_len ks ls k d hl]
    unfold putKs
    rw [if_pos (List.mem_of_getElem? hk), G.lk]
  · rw [addG_at G.nd hl hk j] at h2
    by_cases e : j = i
    · rw [if_pos e] at h2
      subst e
      obtain ⟨l0, e0, rfl⟩ := Option.map_eq_some_iff.mp h2
      rw [hx] at h1
      cases h1
      obtain ⟨xs', e1, r⟩ := G.it j x l0 hx e0
      rw [ex] at e1
      cases e1
      exact ⟨_, upd_same, (r.app (.cons rv .nil)).mono (Base.wsame xo)⟩
    · rw [if_neg e] at h2
      obtain ⟨ys, e1, r⟩ := G.it j y l h1 h2
      have ne : y ≠ x := fun z => by
        subst z
        have l1 := (List.getElem?_eq_some_iff.mp h1).1
        have := (List.getElem?_inj l1 G.asd).mp (h1.trans hx.symm)
        exact e this
      exact ⟨ys, by rw [upd_ne ne]; exact e1, r.mono (Base.wsame xo)⟩
/-- an empty list at a new key -/
theorem Grp.newE (G : Grp ho c own H a as ks ls) (b : Base c H0 own H) {k : κ} {x : Addr} (hk : k ∉ ks) (xo : x ∈ own) (hu : a ≠ x) (xs : x ∉ as) (ex : H x = some (.lst [])) :
    Grp ho c own (upd H a (ho ((ks ++ [k]).zip ((as ++ [x]).map V.ref)))) a (as ++ [x]) (ks ++ [k]) (ls ++ [[]]) := by
  refine ⟨upd_same, G.ao, List.nodup_append.mpr ⟨G.nd, by simp, fun y hy z hz e => hk (by rw [List.mem_singleton.mp hz] at e; rw [← e]; exact hy)⟩, by rw [List.length_append, List.length_append, G.lk]; rfl, by rw [List.length_append, List.length_append, G.ll]; rfl,
    List.nodup_append.mpr ⟨G.asd, by simp, fun y hy z hz e => xs (by rw [List.mem_singleton.mp hz] at e; rw [← e]; exact hy)⟩, fun h => ?_, fun y hy => ?_, fun j y l h1 h2 => ?_⟩
  · rcases List.mem_append.mp h with h | h
    · exact G.na h
    · exact hu (List.mem_singleton.mp h)
  · rcases List.mem_append.mp hy with h | h
    · exact G.aso y h
    · rw [List.mem_singleton.mp h]
      exact xo
  · have w1 : Same (msk (c.W ++ own) H) (msk (c.W ++ own) (upd H a (ho ((ks ++ [k]).zip ((as ++ [x]).map V.ref))))) := Base.wsame G.ao
    by_cases lt : j < as.length
    · rw [List.getElem?_append_left lt] at h1
      rw [List.getElem?_append_left (by rw [← G.ll]; exact lt)] at h2
      obtain ⟨ys, e1, r⟩ := G.it j y l h1 h2
      have my := List.mem_of_getElem? h1
      exact ⟨ys, by rw [upd_ne fun z => G.na (by rw [← z]; exact my)]; exact e1, r.mono w1⟩
    · rw [List.getElem?_append_right (by omega)] at h1
      rw [List.getElem?_append_right (by rw [← G.ll]; omega)] at h2
      rw [← G.ll] at h2
      have j0 : j - as.length = 0 := by
        have := (List.getElem?_eq_some_iff.mp h1).1
        rw [List.length_singleton] at this
        omega
      rw [j0] at h1 h2
      cases h1
      cases h2
      exact ⟨[], by rw [upd_ne fun z => hu z.symm]; exact ex, .nil⟩
theorem addG_last : ∀ (ks : List κ) (ls : List (List D)) (k : κ) (d : D), ks.length = ls.length → k ∉ ks → addG (ks ++ [k]) (ls ++ [[]]) k d = addG ks ls k d
  | [], [], k, d, _, _ => by
    show addG [k] [[]] k d = _
    rw [addG, if_pos rfl]
    rfl
  | [], _ :: _, _, _, h, _ => by cases h
  | _ :: _, [], _, _, h, _ => by cases h
  | k' :: ks, l :: ls, k, d, h, n => by
    have ne : ¬ k' = k := fun e => n (by rw [e]; exact List.mem_cons_self ..)
    show addG (k' :: (ks ++ [k])) (l :: (ls ++ [[]])) k d = _
    rw [addG, if_neg ne, addG, if_neg ne, addG_last ks ls k d (by simpa using h) fun z => n (List.mem_cons_of_mem _ z)]
theorem putK_zip {ks : List κ} {vs : List V} {k : κ} (z : V) (hl : ks.length = vs.length) (h : k ∉ ks) : putK (ks.zip vs) k z = (ks ++ [k]).zip (vs ++ [z]) := by
  rw [putK_new z (valV_zip_none h), List.zip_append hl]
  rfl
/-- what it reads as -/
theorem Grp.reads (G : Grp ho c own H a as ks ls) (b : Base c H0 own H) : a ∉ c.W ∧ DRs c.K (msk c.W H) ((ks.zip (as.map V.ref)).map Prod.snd) (ls.map D.lst) ∧ (ks.zip (as.map V.ref)).map Prod.fst = ks := by
  refine ⟨b.apart G.ao, ?_, List.map_fst_zip (by rw [List.length_map]; exact Nat.le_of_eq G.lk)⟩
  rw [List.map_snd_zip (by rw [List.length_map]; exact Nat.le_of_eq G.lk.symm)]
  have go : ∀ {as : List Addr} {ls : List (List D)}, as.length = ls.length → (∀ b ∈ as, b ∈ own) → (∀ (i : Nat) (b : Addr) (l : List D), as[i]? = some b → ls[i]? = some l → ∃ xs, H b = some (.lst xs) ∧ DRs c.K (msk (c.W ++ own) H) xs l) → DRs c.K (msk c.W H) (as.map V.ref) (ls.map D.lst) := by
    intro as
    induction as with
    | nil =>
      intro ls hl _ _
      cases ls with
      | nil => exact .nil
      | cons _ _ => cases hl
    | cons x as ih =>
      intro ls hl ao it
      cases ls with
      | nil => cases hl
      | cons l ls =>
        obtain ⟨xs, e, r⟩ := it 0 x l rfl rfl
        exact .cons (.lst ((mk_out (b.apart (ao x (List.mem_cons_self ..)))).trans e) (r.mono (mk_sub fun y hy => List.mem_append_left _ hy))) (ih (by simpa using hl) (fun y hy => ao y (List.mem_cons_of_mem _ hy)) fun i y l h1 h2 => it (i + 1) y l (by simpa using h1) (by simpa using h2))
  exact go G.ll G.aso G.it
/-- one turn, behind the dict's lookup: x the list of the key, v to be appended -/
theorem grp_tail {κ : Type} [DecidableEq κ] {ho : List (κ × V) → HO} {c : C1} {H0 H : Hp} {own : List Addr} {a : Addr} {as : List Addr} {ks : List κ} {ls : List (List D)} {Γ : List Sl} {σ : L2.St} {tv : TE} {E : Ends} {i : Nat} {k : κ} {x : Addr} (hm : ∀ l xs, ho l ≠ .lst xs)
    (R : EnvR c H0 own H σ Γ) (G : Grp ho c own H a as ks ls) (no : ∀ s ∈ Γ, s.isOwn = false) (hk : ks[i]? = some k) (hx : as[i]? = some x) (fit : ∀ l ∈ ls, l.length < sizeLine)
    (ev : Ex c Γ tv fun z => ∀ H' own', EnvR c H0 own' H' σ Γ → Grp ho c own' H' a as ks (addG ks ls k z) → E.nx σ H') :
    tyV c.K "list" (.ref x) H ∧ (tCons tv tNil) σ H fun xs H2 => rAppend (.ref x) xs H2 fun _ H3 => E.nx σ H3 := by
  have li : i < ls.length := by rw [← G.ll, ← G.lk]; exact (List.getElem?_eq_some_iff.mp hk).1
  obtain ⟨xs, ex, rx⟩ := G.it i x _ hx (List.getElem?_eq_getElem li)
  refine ⟨.inl ⟨rfl, xs, SqL.of ex⟩, ev H0 own σ H _ R fun z zv H2 hz s2 r2 => ?_⟩
  have R2 := R.stay s2
  have G2 := G.stay R.b s2
  have xo := G.aso x (List.mem_of_getElem? hx)
  have ex2 := R.b.at_ s2 xo ex
  refine ⟨x, xs, zv, rfl, rfl, ex2, by rw [rx.len]; exact fit _ (List.getElem_mem li), ?_⟩
  exact hz _ own (R2.wr xo no) (G2.app hm R2.b hk hx ex2 r2)
/-- d.setdefault(k, []).append(v), keys ints or texts -/
theorem grp_turnK {c : C1} {H0 H : Hp} {own : List Addr} {a : Addr} {as : List Addr} {ks : List L2.Key} {ls : List (List D)} {Γ : List Sl} {σ : L2.St} {tk tv : TE} {E : Ends} {i : Nat}
    (R : EnvR c H0 own H σ Γ) (G : Grp HO.dK c own H a as ks ls) (no : ∀ s ∈ Γ, s.isOwn = false) (si : σ[i]? = some (some (.ref a))) (few : ks.length < sizeLine) (fit : ∀ l ∈ ls, l.length < sizeLine)
    (ev : Ex c Γ tk fun y => ∃ q, y = keyDD q ∧ Ex c Γ tv fun z => ∀ H' own' as', EnvR c H0 own' H' σ Γ → Grp HO.dK c own' H' a as' (putKs ks q) (addG ks ls q z) → E.nx σ H') :
    tDrop (tBM c.K "list" rAppend (tDSetd (tVar i) tk (tLst tNil)) (tCons tv tNil)) E σ H := by
  refine ⟨_, si, a, rfl, .inl ⟨_, .inl G.at_⟩, ev H0 own σ H _ R fun y w H2 ⟨q, ey, hz⟩ s2 r2 => ?_⟩
  subst ey
  cases r2.key
  have R2 := R.stay s2
  have G2 := G.stay R.b s2
  refine ⟨Nat.zero_le _, fun p hp => ?_⟩
  have R3 := R2.hold (o := .lst []) hp
  have G3 := G2.hold R2.b (u := .lst []) hp
  have lz : (ks.zip (as.map V.ref)).length < sizeLine := by rw [List.length_zip, List.length_map, ← G.lk, Nat.min_self]; exact few
  refine ⟨_, q, G3.at_, rfl, lz, fun v hv => ?_, fun hn => ?_⟩
  · -- the key is there
    by_cases m : q ∈ ks
    · obtain ⟨j, hj⟩ := List.getElem?_of_mem m
      have lj : j < as.length := by rw [← G.lk]; exact (List.getElem?_eq_some_iff.mp hj).1
      have e := valV_zip (vs := as.map V.ref) G.nd hj (by rw [List.getElem?_map, List.getElem?_eq_getElem lj]; rfl)
      rw [e] at hv
      cases hv
      refine grp_tail (fun _ _ z => by cases z) R3 G3 no hj (List.getElem?_eq_getElem lj) fit (hz.imp fun z g H' own' R' G' => g H' own' as R' ?_)
      unfold putKs
      rw [if_pos m]
      exact G'
    · rw [valV_zip_none m] at hv
      cases hv
  · have m : q ∉ ks := fun m => by
      obtain ⟨j, hj⟩ := List.getElem?_of_mem m
      have lj : j < as.length := by rw [← G.lk]; exact (List.getElem?_eq_some_iff.mp hj).1
      have e := valV_zip (vs := as.map V.ref) G.nd hj (by rw [List.getElem?_map, List.getElem?_eq_getElem lj]; rfl)
      rw [e] at hn
      cases hn
    have ap : a ≠ p := fun z => R2.b.here a G2.ao (by rw [z]; exact hp)
    have pas : p ∉ as := fun z => R2.b.here p (G2.aso p z) hp
    have po : p ∈ p :: own := List.mem_cons_self ..
    have ep : putK (ks.zip (as.map V.ref)) q (V.ref p) = (ks ++ [q]).zip ((as ++ [p]).map V.ref) := by
      rw [putK_zip _ (by rw [List.length_map]; exact G.lk) m, List.map_append]
      rfl
    rw [ep]
    have G4 := G3.newE R3.b m po ap pas upd_same
    have R4 := R3.wr (o := .dK ((ks ++ [q]).zip ((as ++ [p]).map V.ref))) G3.ao no
    refine grp_tail (i := ks.length) (k := q) (x := p) (fun _ _ z => by cases z) R4 G4 no List.getElem?_concat_length (by rw [G.lk]; exact List.getElem?_concat_length) (fun l hl => ?_) (hz.imp fun z g H' own' R' G' => g H' own' (as ++ [p]) R' ?_)
    · rcases List.mem_append.mp hl with h | h
      · exact fit l h
      · rw [List.mem_singleton.mp h, sizeLine_eq]
        decide
    · rw [addG_last ks ls q z (G.lk.trans G.ll) m] at G'
      unfold putKs
      rw [if_neg m]
      exact G'
end
end Tl
/-! ## T14 -/
set_option Elab.async false
set_option linter.all false
set_option maxRecDepth 100000
set_option maxHeartbeats 4000000
/-! loops that fill dicts of lists -/
namespace Tl
open PySem PySem.Spec PyProof.Rows L2 He Vx
theorem keyDs_ne {k : List L2.Key} : k ≠ [] → k.map keyDD ≠ [] := fun h e => h (List.map_eq_nil_iff.mp e)
theorem DR.tupKey {K : PySem.W.Frag} {W : List Addr} {H : Hp} {v : V} {k : List L2.Key} (r : DR K (msk W H) v (.tup (k.map keyDD))) (ne : k ≠ []) : ∃ b, v = .ref b ∧ b ∉ W ∧ H b = some (.tup (k.map kV)) := by
  generalize hl : k.map keyDD = l at r
  cases r with
  | tup g gr =>
    subst hl
    rw [keys_of gr] at g
    exact ⟨_, rfl, (mk_some g).1, (mk_some g).2⟩
  | tup0 _ => exact absurd hl (keyDs_ne ne)
/-- d.setdefault(k, []).append(v), keys tuples -/
theorem grp_turnT {c : C1} {H0 H : Hp} {own : List Addr} {a : Addr} {as : List Addr} {ks : List (List L2.Key)} {ls : List (List D)} {Γ : List Sl} {σ : L2.St} {tk tv : TE} {E : Ends} {i : Nat}
    (R : EnvR c H0 own H σ Γ) (G : Grp HO.dT c own H a as ks ls) (no : ∀ s ∈ Γ, s.isOwn = false) (si : σ[i]? = some (some (.ref a))) (few : ks.length < sizeLine) (fit : ∀ l ∈ ls, l.length < sizeLine)
    (ev : Ex c Γ tk fun y => ∃ q, q ≠ [] ∧ y = .tup (q.map keyDD) ∧ Ex c Γ tv fun z => ∀ H' own' as', EnvR c H0 own' H' σ Γ → Grp HO.dT c own' H' a as' (putKs ks q) (addG ks ls q z) → E.nx σ H') :
    tDrop (tBM c.K "list" rAppend (tDSetdT (tVar i) tk (tLst tNil)) (tCons tv tNil)) E σ H := by
  refine ⟨_, si, a, rfl, .inr ⟨_, .inl G.at_⟩, ev H0 own σ H _ R fun y w H2 ⟨q, qn, ey, hz⟩ s2 r2 => ?_⟩
  subst ey
  obtain ⟨b, rfl, nb, hb⟩ := r2.tupKey qn
  have R2 := R.stay s2
  have G2 := G.stay R.b s2
  refine ⟨Nat.zero_le _, fun p hp => ?_⟩
  have R3 := R2.hold (o := .lst []) hp
  have G3 := G2.hold R2.b (u := .lst []) hp
  have lz : (ks.zip (as.map V.ref)).length < sizeLine := by rw [List.length_zip, List.length_map, ← G.lk, Nat.min_self]; exact few
  refine ⟨_, q, b, G3.at_, rfl, (upd_ne (ne_of_none hb hp)).trans hb, lz, fun v hv => ?_, fun hn => ?_⟩
  · by_cases m : q ∈ ks
    · obtain ⟨j, hj⟩ := List.getElem?_of_mem m
      have lj : j < as.length := by rw [← G.lk]; exact (List.getElem?_eq_some_iff.mp hj).1
      have e := valV_zip (vs := as.map V.ref) G.nd hj (by rw [List.getElem?_map, List.getElem?_eq_getElem lj]; rfl)
      rw [e] at hv
      cases hv
      refine grp_tail (fun _ _ z => by cases z) R3 G3 no hj (List.getElem?_eq_getElem lj) fit (hz.imp fun z g H' own' R' G' => g H' own' as R' ?_)
      unfold putKs
      rw [if_pos m]
      exact G'
    · rw [valV_zip_none m] at hv
      cases hv
  · have m : q ∉ ks := fun m => by
      obtain ⟨j, hj⟩ := List.getElem?_of_mem m
      have lj : j < as.length := by rw [← G.lk]; exact (List.getElem?_eq_some_iff.mp hj).1
      have e := valV_zip (vs := as.map V.ref) G.nd hj (by rw [List.getElem?_map, List.getElem?_eq_getElem lj]; rfl)
      rw [e] at hn
      cases hn
    have ap : a ≠ p := fun z => R2.b.here a G2.ao (by rw [z]; exact hp)
    have pas : p ∉ as := fun z => R2.b.here p (G2.aso p z) hp
    have po : p ∈ p :: own := List.mem_cons_self ..
    have ep : putK (ks.zip (as.map V.ref)) q (V.ref p) = (ks ++ [q]).zip ((as ++ [p]).map V.ref) := by
      rw [putK_zip _ (by rw [List.length_map]; exact G.lk) m, List.map_append]
      rfl
    rw [ep]
    have G4 := G3.newE R3.b m po ap pas upd_same
    have R4 := R3.wr (o := .dT ((ks ++ [q]).zip ((as ++ [p]).map V.ref))) G3.ao no
    refine grp_tail (i := ks.length) (k := q) (x := p) (fun _ _ z => by cases z) R4 G4 no List.getElem?_concat_length (by rw [G.lk]; exact List.getElem?_concat_length) (fun l hl => ?_) (hz.imp fun z g H' own' R' G' => g H' own' (as ++ [p]) R' ?_)
    · rcases List.mem_append.mp hl with h | h
      · exact fit l h
      · rw [List.mem_singleton.mp h, sizeLine_eq]
        decide
    · rw [addG_last ks ls q z (G.lk.trans G.ll) m] at G'
      unfold putKs
      rw [if_neg m]
      exact G'
section
variable {κ : Type} [DecidableEq κ]
/-- one step of the grouping -/
def grpS (st : List κ × List (List D)) : Option (κ × D) → List κ × List (List D)
  | none => st
  | some (q, z) => (putKs st.1 q, addG st.1 st.2 q z)
theorem putKs_len (ks : List κ) (q : κ) : (putKs ks q).length ≤ ks.length + 1 := by
  unfold putKs
  split
  · omega
  · rw [List.length_append]
    exact Nat.le_refl _
theorem addG_fit {n : Nat} : ∀ {ks : List κ} {ls : List (List D)} {q : κ} {z : D}, (∀ l ∈ ls, l.length ≤ n) → ∀ l ∈ addG ks ls q z, l.length ≤ n + 1
  | [], ls, q, z, h, l, hl => by
    rw [show addG [] ls q z = [[z]] from by cases ls <;> rfl] at hl
    rw [List.mem_singleton.mp hl]
    exact Nat.le_add_left 1 n
  | _ :: _, [], q, z, h, l, hl => by
    rw [show addG (_ :: _) [] q z = [[z]] from rfl] at hl
    rw [List.mem_singleton.mp hl]
    exact Nat.le_add_left 1 n
  | k :: ks, m :: ls, q, z, h, l, hl => by
    rw [addG] at hl
    split at hl
    · rcases List.mem_cons.mp hl with rfl | hl
      · rw [List.length_append]
        exact Nat.succ_le_succ (h m (List.mem_cons_self ..))
      · exact Nat.le_succ_of_le (h l (List.mem_cons_of_mem _ hl))
    · rcases List.mem_cons.mp hl with rfl | hl
      · exact Nat.le_succ_of_le (h l (List.mem_cons_self ..))
      · exact addG_fit (fun y hy => h y (List.mem_cons_of_mem _ hy)) l hl
/-- one turn of the loop's body -/
def Turn (ho : List (κ × V) → HO) (c : C1) (Γ : List Sl) (i : Nat) (tb : TS) (o : Option (κ × D)) : Prop := ∀ H0 own H a as ks ls σ (E : Ends), EnvR c H0 own H σ Γ → Grp ho c own H a as ks ls → σ[i]? = some (some (.ref a)) → ks.length < sizeLine → (∀ l ∈ ls, l.length < sizeLine) →
  (∀ H' own' as', EnvR c H0 own' H' σ Γ → Grp ho c own' H' a as' (grpS (ks, ls) o).1 (grpS (ks, ls) o).2 → E.nx σ H') → tb E σ H
theorem turn_none {ho : List (κ × V) → HO} {c : C1} {Γ : List Sl} {i : Nat} : Turn (κ := κ) ho c Γ i tNext none := fun H0 own H a as ks ls σ E R G si few fit q => q H own as R G
theorem turn_if {ho : List (κ × V) → HO} {c : C1} {Γ : List Sl} {i : Nat} {tt : TT} {tb tc : TS} {o : Option (κ × D)} (h : ExT c Γ tt fun b => if b = true then Turn ho c Γ i tb o else Turn ho c Γ i tc o) : Turn ho c Γ i (tIfS tt tb tc) o := fun H0 own H a as ks ls σ E R G si few fit q =>
  h H0 own σ H _ R fun b H1 z s1 => by
    cases b with
    | true => exact z H0 own H1 a as ks ls σ E (R.stay s1) (G.stay R.b s1) si few fit q
    | false => exact z H0 own H1 a as ks ls σ E (R.stay s1) (G.stay R.b s1) si few fit q
end
theorem turn_K {c : C1} {Γ : List Sl} {i : Nat} {tk tv : TE} {q : L2.Key} {z : D} (no : ∀ s ∈ Γ, s.isOwn = false) (h : Ex c Γ tk fun y => y = keyDD q ∧ Ex c Γ tv fun x => x = z) : Turn HO.dK c Γ i (tDrop (tBM c.K "list" rAppend (tDSetd (tVar i) tk (tLst tNil)) (tCons tv tNil))) (some (q, z)) := fun H0 own H a as ks ls σ E R G si few fit g =>
  grp_turnK R G no si few fit (h.imp fun y ⟨e, h2⟩ => ⟨q, e, h2.imp fun x ex H' own' as' R' G' => g H' own' as' R' (by rw [ex] at G'; exact G')⟩)
theorem turn_T {c : C1} {Γ : List Sl} {i : Nat} {tk tv : TE} {q : List L2.Key} {z : D} (no : ∀ s ∈ Γ, s.isOwn = false) (qn : q ≠ []) (h : Ex c Γ tk fun y => y = .tup (q.map keyDD) ∧ Ex c Γ tv fun x => x = z) : Turn HO.dT c Γ i (tDrop (tBM c.K "list" rAppend (tDSetdT (tVar i) tk (tLst tNil)) (tCons tv tNil))) (some (q, z)) := fun H0 own H a as ks ls σ E R G si few fit g =>
  grp_turnT R G no si few fit (h.imp fun y ⟨e, h2⟩ => ⟨q, qn, e, h2.imp fun x ex H' own' as' R' G' => g H' own' as' R' (by rw [ex] at G'; exact G')⟩)
/-- the loop: the slot i holds the new dict -/
theorem grp_for {κ : Type} [DecidableEq κ] {ho : List (κ × V) → HO} {mk : List κ → List D → D} {c : C1} {Γ : List Sl} {P : Post} {wi : TI} {g : TG} {tb : TS} {js : List Nat} {i : Nat}
    (rd : ∀ {H : Hp} {a : Addr} {kvs : List (κ × V)} {ds : List D}, H a = some (ho kvs) → DRs c.K H (kvs.map Prod.snd) ds → DR c.K H (.ref a) (mk (kvs.map Prod.fst) ds))
    (hi : i ∉ js) (noΓ : ∀ s ∈ Γ, s.isOwn = false)
    (h : ExI c Γ wi fun l => l.length < sizeLine ∧ ∃ (f : D → Option (κ × D)) (Iv : List Sl → Prop), Iv Γ ∧ (∀ d ∈ l, ∀ Γ', Iv Γ' → GxD c Γ' g js d fun Γ2 => Iv Γ2 ∧ Turn ho c Γ2 i tb (f d)) ∧ (∀ Γ', Iv Γ' → (∀ s ∈ Γ', s.isOwn = false) ∧ Γ'[i]? = some .un) ∧
      ∀ Γ', Iv Γ' → P.nx (Γ'.set i (.val (mk (l.foldl (fun st d => grpS st (f d)) ([], [])).1 ((l.foldl (fun st d => grpS st (f d)) ([], [])).2.map D.lst)))))
    {H0 H : Hp} {own : List Addr} {σ : L2.St} {E : Ends} {a : Addr} (R : EnvR c H0 own H σ Γ) (e : EndsOk c H0 P E) (si : σ[i]? = some (some (.ref a))) (ao : a ∈ own) (ea : H a = some (ho [])) : tFor wi g tb E σ H :=
  h H0 own σ H _ R fun l J H1 ⟨ll, f, Iv, iv0, step, ivn, fin⟩ s1 it => by
    have R1 := R.stay s1
    have b1 := R1.b
    have e1 := e.less b1
    have ea1 := R.b.at_ s1 ao ea
    have G0 : Grp ho c own H1 a [] ([] : List κ) [] := ⟨ea1, ao, List.nodup_nil, rfl, rfl, List.nodup_nil, List.not_mem_nil, fun _ h => (nomatch h), fun i b l h => by simp at h⟩
    refine ⟨fun n m σ' H' => m = l.length - n ∧ n ≤ l.length ∧ ∃ own' Γ' as st, EnvR c (msk own H1) own' H' σ' Γ' ∧ Iv Γ' ∧ σ'[i]? = some (some (.ref a)) ∧ Grp ho c own' H' a as st.1 st.2 ∧ st = (l.take n).foldl (fun st d => grpS st (f d)) ([], []) ∧ st.1.length ≤ n ∧ ∀ x ∈ st.2, x.length ≤ n,
      ⟨_, rfl, Nat.zero_le _, own, Γ, [], ([], []), R1.anew, iv0, si, G0, rfl, Nat.le_refl _, fun _ h => nomatch h⟩, ?_⟩
    rintro n m σ' H' ⟨rfl, hn, own', Γ', as, st, R', iv, si', G, es, l1, l2⟩
    have sm : Same (msk (c.W ++ own) H1) (msk (c.W ++ own') H') := fun x u q => by
      obtain ⟨n, q⟩ := mk_some q
      have nW : x ∉ c.W := fun z => n (List.mem_append_left _ z)
      have no : x ∉ own := fun z => n (List.mem_append_right _ z)
      have q0 : msk own H1 x = some u := by rw [mk_out no]; exact q
      have no' : x ∉ own' := fun z => by
        rw [R'.b.fresh x z] at q0
        cases q0
      rw [mk_out fun z => (List.mem_append.mp z).elim nW no']
      exact (mk_some (R'.b.keep x u (by rw [mk_out fun z => nW (b1.pw x z)]; exact q0))).2
    obtain ⟨i1, i2, i3⟩ := it own' H' sm (base_all R'.b) n
    by_cases lt : n < l.length
    · refine .inr ⟨i1 lt, fun σ3 H3 => ∃ own' Γ' as st, EnvR c (msk own H1) own' H3 σ3 Γ' ∧ Iv Γ' ∧ σ3[i]? = some (some (.ref a)) ∧ Grp ho c own' H3 a as st.1 st.2 ∧ st = (l.take (n + 1)).foldl (fun st d => grpS st (f d)) ([], []) ∧ st.1.length ≤ n + 1 ∧ ∀ x ∈ st.2, x.length ≤ n + 1,
        fun σ3 H3 z => ⟨_, by omega, rfl, lt, z⟩, fun x H2 y => ?_⟩
      obtain ⟨d, ed, s2, r2⟩ := i3 x H2 lt y
      have st2 : Stay c H' H2 := Stay.of s2
      refine step d (List.mem_of_getElem? ed) Γ' iv (msk own H1) own' σ' H2 x _ (R'.stay st2) r2 fun Γ2 σ2 ⟨iv2, tr⟩ R3 fr fl => ?_
      have si2 : σ2[i]? = some (some (.ref a)) := (fr i hi).trans si'
      refine tr (msk own H1) own' H2 a as st.1 st.2 σ2 _ R3 (G.stay R'.b st2) si2 (by omega) (fun x hx => by have := l2 x hx; omega) fun H3 own3 as3 R4 G4 => ?_
      refine ⟨own3, Γ2, as3, _, R4, iv2, si2, G4, ?_, ?_, fun x hx => ?_⟩
      · rw [List.take_succ, ed, List.foldl_append, ← es]
        rfl
      · cases ho2 : f d with
        | none => exact Nat.le_succ_of_le l1
        | some p => exact Nat.le_trans (putKs_len _ _) (Nat.succ_le_succ l1)
      · cases ho2 : f d with
        | none =>
          rw [ho2] at hx
          exact Nat.le_succ_of_le (l2 x hx)
        | some p =>
          rw [ho2] at hx
          exact addG_fit l2 x hx
    · have q : n = l.length := by omega
      subst q
      refine .inl ⟨i2 (Nat.le_refl _), ?_⟩
      obtain ⟨noΓ', gi⟩ := ivn Γ' iv
      obtain ⟨naW, rr, fs⟩ := G.reads R'.b
      have dr := rd (H := msk c.W H') (a := a) ((mk_out naW).trans G.at_) rr
      rw [fs] at dr
      have R5 : EnvR c (msk own H1) [] H' σ' (Γ'.set i (.val (mk st.1 (st.2.map D.lst)))) := by
        refine ⟨R'.b.less fun _ h => (nomatch h), by rw [List.length_set, R'.len], fun j s o h1 h2 => ?_, fun j k s t x h1 h2 s1 s2 h3 h4 => ?_⟩
        · by_cases e1 : i = j
          · subst e1
            have l1 : i < Γ'.length := (List.getElem?_eq_some_iff.mp gi).1
            rw [List.getElem?_set_self l1] at h1
            cases h1
            rw [si'] at h2
            cases h2
            refine ⟨_, rfl, ?_⟩
            rw [List.append_nil]
            exact dr
          · rw [List.getElem?_set_ne e1] at h1
            refine (R'.sl j s o h1 h2).mv (mk_sub fun x hx => ?_) fun y hs _ _ => absurd hs (by rw [noΓ' s (List.mem_of_getElem? h1)]; exact Bool.false_ne_true)
            rw [List.append_nil] at hx
            exact List.mem_append_left _ hx
        · by_cases e1 : i = j
          · subst e1
            have l1 : i < Γ'.length := (List.getElem?_eq_some_iff.mp gi).1
            rw [List.getElem?_set_self l1] at h1
            cases h1
            cases s1
          · rw [List.getElem?_set_ne e1] at h1
            exact absurd s1 (by rw [noΓ' s (List.mem_of_getElem? h1)]; exact Bool.false_ne_true)
      rw [List.take_length] at es
      refine e1.nx [] σ' H' _ R5 ?_
      rw [es]
      exact fin Γ' iv
end Tl
/-! ## S6 -/
set_option Elab.async false
set_option linter.all false
set_option maxRecDepth 100000
set_option maxHeartbeats 6000000
/-! {e for target in it if test} -/
namespace Tl
open PySem PySem.Spec PyProof.Rows PySem.Calls L2 He Vx
/-- a sort of sets: what is known of one, and what adding to it does -/
structure SetSort (P : Program) (w : World) (K : PySem.W.Frag) where
  S : Type
  so : Addr → S → HO
  st0 : S
  ad : Hp → V → S → (S → Prop) → Prop
  new : ∀ (H : Hp) (h : Heap) (a : Addr), h.get? a = some (set0 w) → ObjOk P w H h a (so a st0)
  imp : ∀ H y st (k k' : S → Prop), (∀ st', k st' → k' st') → ad H y st k → ad H y st k'
  add : ∀ (X : Cx), X.prog = P → X.w = w → X.K = K → X.calm = true → X.A.units + 64 < cLine → ∀ (pins : List (Addr × Obj)) (σ : L2.St) (H : Hp) (s : Shared) (a : Addr) (st : S) (y : V) (v : Value) (E Q : Value → Shared → Prop), L2.Inv X pins σ H s → H a = some (so a st) → RelV y v →
    ad H y st (fun st' => ∀ s', L2.Inv X pins σ (upd H a (so a st')) s' → Q .none s') → wpAny (model P w) X.A (call (.builtin "set.add") [.ref a, v]) Q E s
def tSc {P : Program} {w : World} {K : PySem.W.Frag} (Z : SetSort P w K) (wi : TI) (g : TG) (tt : TT) (te : TE) (vs : List Nat) : TE := fun σ H Q => wi σ H fun J H1 => ∀ D, H1 D = none → ∃ W : Nat → Nat → Hp → Prop, (∃ m, W 0 m (upd H1 D (Z.so D Z.st0))) ∧ ∀ i m H, W i m H →
  (J.stop i H ∧ Q (.ref D) H) ∨ (J.go i H ∧ ∃ Nx : Hp → Prop, (∀ H', Nx H' → ∃ m', m' < m ∧ W (i + 1) m' H') ∧ ∀ x H', J.yld i H x H' → g x (L2.wipe σ vs) H' fun σ2 H2 => L2.wipe σ2 vs = L2.wipe σ vs ∧ tt σ2 H2 fun b H3 =>
    if b = true then te σ2 H3 fun y H4 => ∃ st, H4 D = some (Z.so D st) ∧ Z.ad H4 y st fun st' => Nx (upd H4 D (Z.so D st')) else Nx H3)
theorem pe_sc {X : Cx} (Z : SetSort X.prog X.w X.K) (hu : X.A.units + 64 < cLine) {elt tg iter : Expr} {ifs : List Expr} {scope : Scope} {own : List (Str × Nat)} {pos : Pos} {wi : TI} {g : TG} {tt : TT} {te : TE} (hc : X.calm = true) (hN : X.N.Nodup) (hi : PI X tg iter wi) (ok : BlkOk X.N X.env.scope scope own)
    (hg : ∀ (s : Shared) (H : Hp) (C : Addr) (cl : List (Str × Addr)) (fp : List Addr), PG (X.blk s H scope (compEnvC scope cl C X.env) fp) tg g) (ht : ∀ (s : Shared) (H : Hp) (C : Addr) (cl : List (Str × Addr)) (fp : List Addr), PTs (X.blk s H scope (compEnvC scope cl C X.env) fp) ifs tt)
    (he : ∀ (s : Shared) (H : Hp) (C : Addr) (cl : List (Str × Addr)) (fp : List Addr), PE (X.blk s H scope (compEnvC scope cl C X.env) fp) elt te) (hs : ∀ x, foldedSetIterable iter X.env x = pure x := by intro _; rfl) :
    PE X (.SetComp elt [⟨tg, iter, ifs, 0⟩] scope pos) (tSc Z wi g tt te (own.map (·.2))) := by
  refine ⟨fun pins s σ H Q I h => ?_⟩
  rw [arm_eval_SetComp]
  have free : ∀ y ∈ scope.names, y.2 = .free → ∃ c, X.env.cells.lookup y.1 = some c := fun y hy e => (ok.free y hy e).elim (fun k => I.ok.has _ (.inl k)) fun k => I.ok.has _ (.inr k)
  refine wpAny_comprehension_free (use := none) rfl hs (closure_ok free) ok.kind (fun y hy e => by rw [ok.uniq y hy, e]) (thn (hi.run pins s σ H _ I h) fun xv s1 hx => thn hx fun itv s2 h2 => ?_)
  obtain ⟨it, fp, tn, J, H2, rfl, I2, T, st2, f2, q⟩ := h2
  refine wpAny_newSet_raw fun led el => newEnv_comp ?_
  subst el
  generalize hD : s2.heap.objs.size = D
  obtain ⟨W, ⟨m0, w0⟩, turn⟩ := q D (I2.hok.fresh (Nat.le_of_eq hD))
  -- the new set
  have hpush : (s2.heap.push (set0 X.w)).get? D = some (set0 X.w) := by
    rw [← hD]
    exact Heap.get?_push_size _ rfl
  have I3 : L2.Inv X pins σ (upd H2 D (Z.so D Z.st0)) { s2 with heap := s2.heap.push (set0 X.w) } := I2.laid (t' := s2.toks) (fun b o e => Heap.get?_push_of_some _ e) (Nat.le_of_eq hD) (Z.new _ _ _ hpush)
  generalize hs3 : ({ s2 with heap := s2.heap.push (set0 X.w) } : Shared) = s3 at I3 ⊢
  have h3 : s3.heap = s2.heap.push (set0 X.w) := by rw [← hs3]
  generalize hH3 : upd H2 D (Z.so D Z.st0) = H3 at I3 w0
  have below : ∀ b ∈ fp, b < s2.heap.objs.size := fun b hb => (T.obj _ _ st2 b hb).elim fun o ho => Heap.lt_size ho.1
  have f3 : ∀ b ∈ fp, FpOk X pins H3 b ∧ b < s3.heap.objs.size := fun b hb => by
    have lt := below b hb
    refine ⟨⟨?_, (f2 b hb).2⟩, by rw [h3, Heap.size_push]; exact Nat.lt_succ_of_lt lt⟩
    rw [← hH3, upd_ne (by rw [← hD]; exact Nat.ne_of_lt lt)]
    exact (f2 b hb).1
  have st3 : tn 0 s3.heap := T.keep _ _ _ st2 fun b _ o e => by rw [h3]; exact Heap.get?_push_of_some _ e
  have I4 := block_start I3 ok hN f3
  have pg := hg s3 H3 s3.heap.objs.size (cellsFrom (s3.heap.objs.size + 1) scope.names (cloFrom X.env.cells scope.names [])) fp
  have pt := ht s3 H3 s3.heap.objs.size (cellsFrom (s3.heap.objs.size + 1) scope.names (cloFrom X.env.cells scope.names [])) fp
  have pe := he s3 H3 s3.heap.objs.size (cellsFrom (s3.heap.objs.size + 1) scope.names (cloFrom X.env.cells scope.names [])) fp
  show codeAny _ _ (.compStart (.SetComp elt [⟨tg, iter, ifs, 0⟩] scope pos) 0 (.ref it) (.ref D) (compEnvC scope (cellsFrom (s3.heap.objs.size + 1) scope.names (cloFrom X.env.cells scope.names [])) s3.heap.objs.size X.env)) (compPost (model X.prog X.w) X.A X.xe none (EP X pins σ Q) (.ref D) s3.heap.objs.size) { s3 with heap := pushCells (s3.heap.push { cls := .type "dict", data := .dict #[] }) scope.names }
  generalize hce : compEnvC scope (cellsFrom (s3.heap.objs.size + 1) scope.names (cloFrom X.env.cells scope.names [])) s3.heap.objs.size X.env = ce at I4 pg pt pe ⊢
  have cL : ce.locals = s3.heap.objs.size := by rw [← hce]; rfl
  generalize hs4 : ({ s3 with heap := pushCells (s3.heap.push { cls := .type "dict", data := .dict #[] }) scope.names } : Shared) = s4 at I4 ⊢
  have st4 : tn 0 s4.heap := T.keep _ _ _ st3 fun b _ o e => by rw [← hs4]; exact pushCells_keeps _ _ _ _ (Heap.get?_push_of_some _ e)
  have fpK : ∀ {σ' : L2.St} {H' : Hp} {s' : Shared}, L2.Inv (X.blk s3 H3 scope ce fp) [] σ' H' s' → (∀ b ∈ fp, H' b = none) → ∀ b ∈ fp, FpOk (X.blk s3 H3 scope ce fp) [] H' b := fun I' hn b hb =>
    ⟨hn b hb, (I'.ok.exf b hb).1, I'.ok.exfs b hb, .inl hb, fun x c e => (I'.ok.exf b hb).2 x c e, fun p hp => absurd (show p ∈ ([] : List (Addr × Obj)) ++ [] from hp) (by simp)⟩
  have loop : codeAny (model X.prog X.w) X.A (.compLoop (.SetComp elt [⟨tg, iter, ifs, 0⟩] scope pos) 0 (.ref it) (.ref D) ce) (compPost (model X.prog X.w) X.A X.xe none (EP X pins σ Q) (.ref D) s3.heap.objs.size) s4 := by
    refine compLoop_set_any (fun n s' => ∃ i H', L2.Inv (X.blk s3 H3 scope ce fp) [] (L2.wipe σ (own.map (·.2))) H' s' ∧ tn i s'.heap ∧ (∀ b ∈ fp, H' b = none) ∧ W i n H') ?_ m0 ⟨0, H3, I4, st4, fun b hb => (f3 b hb).1.1, w0⟩
    rintro n s5 ⟨i, H5, I5, st5, n5, w5⟩
    rcases turn i n H5 w5 with ⟨stop, qq⟩ | ⟨go, Nx, hNx, step⟩
    · refine thnF (T.done (X.blk s3 H3 scope ce fp) rfl rfl rfl hc i [] s5 _ H5 (fun _ _ => False) I5 (fpK I5 n5) st5 stop) fun r s6 ⟨hr, I6⟩ => ?_
      subst hr
      have I7 : L2.Inv X pins σ H5 s6 := I3.call' (ch := fp) I6.os I6.base I6.hok I6.bare fun b hb => ⟨(f3 b hb).1.2.2.2.1, (f3 b hb).1.2.1, (f3 b hb).1.2.2.2.2.1, (f3 b hb).1.2.2.2.2.2⟩
      have nC : H5 s3.heap.objs.size = none := cL ▸ (show H5 ce.locals = none from I6.free)
      obtain ⟨m, hn, _⟩ := I6.loc
      obtain ⟨f0, f1, f2, f3, f4, f5⟩ := I3.fpOk (Nat.le_refl _) nC
      exact ⟨m, cL ▸ (show s6.heap.Ns ce.locals m from hn), fun h'' sb => ⟨.ref D, H5, I7.turned (t' := s6.toks) (fun b o hb e => (sb.2 b hb).trans e) f0 f1 f3 f4 f5, rfl, qq⟩⟩
    · refine thnF (T.item (X.blk s3 H3 scope ce fp) rfl rfl rfl hc i [] s5 _ H5 (fun _ _ => False) I5 (fpK I5 n5) st5 go) fun r s6 ⟨u, hr, h6⟩ => ?_
      subst hr
      refine thnF h6 fun _ s7 ⟨x, H7, I7, r7, y7, st7, n7⟩ => ?_
      have I8 := I7.pinned (fpK I7 n7) (T.obj _ _ st7)
      refine thnF (pg.run _ s7 _ H7 x u _ I8 r7 (step x H7 y7)) fun _ s8 ⟨σ8, H8, I8, hw8, q8⟩ => ?_
      show wpAny _ _ (testsOf ifs ce) _ _ s8
      refine thnF (pt.run _ s8 σ8 H8 _ I8 q8) fun b s9 ⟨H9, I9, q9⟩ => ?_
      have fin : ∀ {s' : Shared} {H' : Hp}, L2.Inv (X.blk s3 H3 scope ce fp) ([] ++ pinsAt fp s7.heap) σ8 H' s' → Nx H' → ∃ m, m < n ∧ ∃ i H', L2.Inv (X.blk s3 H3 scope ce fp) [] (L2.wipe σ (own.map (·.2))) H' s' ∧ tn i s'.heap ∧ (∀ b ∈ fp, H' b = none) ∧ W i m H' := fun {s' H'} I' nx => by
        obtain ⟨m', hm, w'⟩ := hNx H' nx
        have pin : ∀ b ∈ fp, ∀ o, s7.heap.get? b = some o → s'.heap.get? b = some o ∧ H' b = none := fun b hb o e => by
          have z := I'.pin (b, o) (List.mem_append_right _ (mem_pinsAt hb e))
          exact ⟨z.1, z.2.1⟩
        have hl : (L2.wipe σ (own.map (·.2))).length = σ8.length := by rw [← hw8, wipe_length]
        refine ⟨m', hm, i + 1, H', (I'.unpinned (pins := [])).weak hl (fun j v e => (wipe_some (hw8 ▸ e)).1), T.keep _ _ _ st7 fun b hb o e => (pin b hb o e).1, fun b hb => ?_, w'⟩
        obtain ⟨o, e, _⟩ := T.obj _ _ st7 b hb
        exact (pin b hb o e).2
      cases b with
      | false =>
        rw [if_neg (by decide)] at q9 ⊢
        exact fin I9 q9
      | true =>
        rw [if_pos rfl] at q9 ⊢
        refine thnF (pe.run _ s9 σ8 H9 _ I9 q9) fun z s10 ⟨yv, H10, I10, r10, st, hD10, ad⟩ => ?_
        exact Z.add (X.blk s3 H3 scope ce fp) rfl rfl rfl hc hu _ σ8 H10 s10 D st yv z _ _ I10 hD10 r10 (Z.imp _ _ _ _ _ (fun st' nx s' I' => fin I' nx) ad)
  exact codeAny_compStart_set loop (T.self X.A 0 _ _ _ st4 loop)
end Tl
/-! ## S7 -/
set_option Elab.async false
set_option linter.all false
set_option maxRecDepth 100000
set_option maxHeartbeats 6000000
/-! sets of tuples: {e for ..}, len -/
namespace Tl
open PySem PySem.Spec PyProof.Rows PySem.Calls L2 He Vx
open PySem.W (alike keyToks dataLe AllAlike)
/-- the set at a is a set of the tuples L, its items read as such -/
def okE (K : PySem.W.Frag) (H : Hp) (L : List Sb.Ent) : Prop := ∀ p ∈ L, ∃ d, DR K H (.ref p.1) d ∧ d.key = some p.2 ∧ p.2.depth ≤ 8
theorem setH_of {P : Program} {w : World} {X : Cx} {pins : List (Addr × Obj)} {σ : L2.St} {H : Hp} {s : Shared} {a : Addr} {L : List Sb.Ent} (I : L2.Inv X pins σ H s) (e : H a = some (SetH w a L)) (ok : okE X.K H L) : ∃ es ep t, Sb.Hs w s.heap a L es ep t := by
  obtain ⟨es, ep, t, ob, tb⟩ := (I.hok a _ e).1
  exact ⟨es, ep, t, ob, tb, fun p hp => by
    obtain ⟨d, h1, h2, h3⟩ := ok p hp
    exact ⟨h1.nis I h2 rfl, h3⟩⟩
def tupSort (P : Program) (w : World) (K : PySem.W.Frag) : SetSort P w K where
  S := List Sb.Ent
  so := fun a L => SetH w a L
  st0 := []
  ad := fun H y L k => ∃ (x : Addr) (d : D) (kk : NestedKey), y = .ref x ∧ DR K H y d ∧ d.key = some kk ∧ kk.depth ≤ 8 ∧ L.length + 1 < 64 ∧ okE K H L ∧ ∀ L', (kk ∈ L.map Prod.snd → L' = L) → (kk ∉ L.map Prod.snd → L'.Perm ((x, kk) :: L)) → k L'
  new := fun H h a ho => setH_new (Sb.hs_new ho)
  imp := fun H y L k k' i ⟨x, d, kk, h1, h2, h3, h4, h5, h6, h7⟩ => ⟨x, d, kk, h1, h2, h3, h4, h5, h6, fun L' c1 c2 => i _ (h7 L' c1 c2)⟩
  add := fun X eP ew eK hc hu pins σ H s a L y v E Q I e r h => by
    subst eP ew eK
    obtain ⟨x, d, kk, rfl, h2, h3, h4, h5, h6, h7⟩ := h
    obtain rfl : v = Value.ref x := r
    obtain ⟨es, ep, t, R⟩ := setH_of (P := X.prog) I e h6
    obtain ⟨o, ho, hex, _⟩ := R.ob
    have hx : Sb.NIs s.heap kk x := ⟨h2.nis I h3 rfl, h4⟩
    have ti : s.TypeIs (.ref a) "set" := ⟨o, ho, hex.1⟩
    refine wpAny_call_entry PySem.F.slot_set_add ti PySem.F.entry_set_add ?_ (PySem.F.args_set_add_2 _ _)
    unfold Builtin.«set.add» Builtin.Frozenset.oneOther
    simp only [List.isEmpty_nil, bind_assoc]
    unfold Builtin.Frozenset.addrOf setAdd
    refine wpAny_bind (wpAny_pure ?_)
    try dsimp only
    refine wpAny_bind (wpAny_pure ?_)
    try dsimp only
    refine wpAny_bind ?_
    have hu2 : X.A.in1.units + 8 < cLine := by
      show X.A.units + 1 + 8 < cLine
      omega
    refine wpAny_holding (wpAny_bind ((nestedKind X.prog X.w).pyHash (k := kk) hu2 hx ?_))
    refine Sb.put_in (P := X.prog) (w := X.w) (A := X.A.in1) (s := { s with toks := s.toks + kk.draws }) R hx hu2 h5 fun b h' L' es' ep' t' sb R' c1 c2 => ?_
    obtain ⟨o', ho', _⟩ := R'.ob
    refine wpAny_pure ⟨_, rfl, h7 L' c1 c2 _ ?_⟩
    exact I.write (e := a) (t' := s.toks + kk.draws) (by rw [e]; trivial) (.inl rfl) (fun b u hb hu => (sb.2 b hb).trans hu) ⟨o', ho'⟩ (setH_new R')
/-- len(set) -/
def rLenH (w : World) : List V → Hp → VK → Prop := fun vs H Q => ∃ (a : Addr) (L : List Sb.Ent), vs = [.ref a] ∧ H a = some (SetH w a L) ∧ Q (.int L.length) H
theorem cr_lenH {X : Cx} : CallR X (.builtin "len") (rLenH X.w) := by
  intro pins s σ H vs us Q I r h
  obtain ⟨a, L, rfl, ha, q⟩ := h
  obtain ⟨u, rfl, ru⟩ := vals1 r
  obtain rfl : u = Value.ref a := ru
  obtain ⟨es, ep, t, ⟨o, ho, hex, hd⟩, T⟩ := (I.hok a _ ha).1
  have sz := T.size
  have few := T.few
  refine call_len_set ho hex hd T.fits (by omega) ?_
  rw [sz]
  exact ⟨.int L.length, H, (I.tok _), ⟨_, rfl⟩, q⟩
/-- the entries stand for the list m -/
structure Ents {α : Type} (T : TupE α) (K : PySem.W.Frag) (H : Hp) (L : List Sb.Ent) (m : List α) : Prop where
  nd : (L.map Prod.snd).Nodup
  at_ : ∀ p ∈ L, ∃ y, p.2 = T.key y ∧ y ∈ m ∧ DR K H (.ref p.1) (T.enc y)
  cov : ∀ y ∈ m, T.key y ∈ L.map Prod.snd
theorem Ents.mono {α : Type} {T : TupE α} {K : PySem.W.Frag} {H H' : Hp} {L : List Sb.Ent} {m : List α} (e : Ents T K H L m) (s : Same H H') : Ents T K H' L m := ⟨e.nd, fun p hp => by
  obtain ⟨y, h1, h2, h3⟩ := e.at_ p hp
  exact ⟨y, h1, h2, h3.mono s⟩, e.cov⟩
theorem Ents.len {α : Type} [DecidableEq α] {T : TupE α} {K : PySem.W.Frag} {H : Hp} {L : List Sb.Ent} {m : List α} (e : Ents T K H L m) : L.length = (dd m).length := by
  have p : (L.map Prod.snd).Perm ((dd m).map T.key) := by
    refine (List.perm_ext_iff_of_nodup e.nd (List.pairwise_map.mpr ((dd_nodup m).imp fun n h => n (T.kinj _ _ h)))).mpr fun k => ⟨fun h => ?_, fun h => ?_⟩
    · obtain ⟨q, hq, rfl⟩ := List.mem_map.mp h
      obtain ⟨y, h1, h2, _⟩ := e.at_ q hq
      rw [h1]
      exact List.mem_map_of_mem (mem_dd.mpr h2)
    · obtain ⟨y, hy, rfl⟩ := List.mem_map.mp h
      exact e.cov y (mem_dd.mp hy)
  have := p.length_eq
  rwa [List.length_map, List.length_map] at this
/-- an expression gives a new set of the tuples m -/
def ExH {α : Type} (T : TupE α) (w : World) (c : C1) (Γ : List Sl) (t : TE) (k : List α → Prop) : Prop := ∀ H0 own σ H (Q : VK), EnvR c H0 own H σ Γ →
  (∀ m L a H', k m → Stay c H H' → H a = none → H' a = some (SetH w a L) → Ents T c.K (msk (c.W ++ own) H') L m → Q (.ref a) H') → t σ H Q
section
variable {c : C1} {Γ : List Sl} {t : TE} {α : Type} [DecidableEq α] {w : World}
theorem exl_sortH (T : TupE α) {k : List D → Prop} (h : ExH T w c Γ t fun m => k ((T.srt m).map T.enc)) : ExL c Γ (tCB (rSortH c.K w) (tCons t tNil)) k := fun H0 own σ H Q E q =>
  h H0 own σ H _ E fun m L q0 H1 hk s1 n0 eq0 en => by
    have b1 := E.b.stay s1
    have b2 := b1
    have gL := en.at_
    have nd := en.nd
    have cov := en.cov
    have ed : ∀ p ∈ L, ∀ y, p.2 = T.key y → T.dec p.2 = some y := fun p hp y e => by rw [e, T.dec_key]
    refine ⟨q0, L, fun b => (T.dec b.2).elim .none fun y => (T.enc y).py, rfl, eq0, fun p hp => ?_, ?_, ?_, fun p hp => ?_, fun p0 L1 hp pm => ?_⟩
    · obtain ⟨y, e1, _, e2⟩ := gL p hp
      show Da _ _ _ ((T.dec p.2).elim .none fun y => (T.enc y).py)
      rw [ed p hp y e1]
      exact (e2.mono mk_all).da (T.dt y)
    · intro d hd d' hd'
      obtain ⟨p, hp, rfl⟩ := List.mem_map.mp hd
      obtain ⟨p', hp', rfl⟩ := List.mem_map.mp hd'
      obtain ⟨y, e1, _, _⟩ := gL p hp
      obtain ⟨y', e1', _, _⟩ := gL p' hp'
      show alike ((T.dec p.2).elim .none fun y => (T.enc y).py) ((T.dec p'.2).elim .none fun y => (T.enc y).py) = true
      rw [ed p hp y e1, ed p' hp' y' e1']
      exact T.al y y'
    · refine .inl fun d hd => ?_
      obtain ⟨p, hp, rfl⟩ := List.mem_map.mp hd
      obtain ⟨y, e1, _, _⟩ := gL p hp
      obtain ⟨z, l, et⟩ := T.tup y
      refine ⟨z.py, D.pys l, ?_⟩
      show ((T.dec p.2).elim PyData.none fun y => (T.enc y).py) = _
      rw [ed p hp y e1]
      show (T.enc y).py = _
      rw [et]
      rfl
    · obtain ⟨y, e1, _, _⟩ := gL p hp
      show ((T.dec p.2).elim PyData.none fun y => (T.enc y).py).depth ≤ 20
      rw [ed p hp y e1]
      exact T.d20 y
    · -- the sorted entries stand for the sorted list
      generalize hM : L1.mergeSort (dataLe false fun b : Sb.Ent => (T.dec b.2).elim PyData.none fun y => (T.enc y).py) = M
      have mL : ∀ p, p ∈ M ↔ p ∈ L := fun p => (hM ▸ (List.mergeSort_perm _ _).mem_iff).trans pm.mem_iff
      have ex : ∀ {N : List Sb.Ent}, (∀ p ∈ N, p ∈ L) → ∃ ys : List α, N.map Prod.snd = ys.map T.key ∧ DRs c.K (msk (c.W ++ own) H1) (N.map fun p => V.ref p.1) (ys.map T.enc) ∧ ∀ y, y ∈ ys ↔ ∃ p ∈ N, p.2 = T.key y := by
        intro N
        induction N with
        | nil => exact fun _ => ⟨[], rfl, .nil, fun y => ⟨fun h => (List.not_mem_nil h).elim, fun ⟨p, h, _⟩ => (List.not_mem_nil h).elim⟩⟩
        | cons p N ih =>
          intro hN
          obtain ⟨ys, e1, e2, e3⟩ := ih fun x hx => hN x (List.mem_cons_of_mem _ hx)
          obtain ⟨y, f1, _, f2⟩ := gL p (hN p (List.mem_cons_self ..))
          refine ⟨y :: ys, by rw [List.map_cons, e1, f1]; rfl, .cons f2 e2, fun z => ?_⟩
          rw [List.mem_cons, e3]
          constructor
          · rintro (rfl | ⟨p', h1, h2⟩)
            · exact ⟨p, List.mem_cons_self .., f1⟩
            · exact ⟨p', List.mem_cons_of_mem _ h1, h2⟩
          · rintro ⟨p', h1, h2⟩
            rcases List.mem_cons.mp h1 with rfl | h1
            · exact .inl (T.kinj _ _ (h2.symm.trans f1))
            · exact .inr ⟨p', h1, h2⟩
      obtain ⟨ys, e1, e2, e3⟩ := ex (N := M) fun p hp => (mL p).mp hp
      have ndM : (M.map Prod.snd).Nodup := by
        have p2 : M.Perm L := (hM ▸ List.mergeSort_perm _ _ : M.Perm L1).trans pm
        exact ((p2.map Prod.snd).nodup_iff).mpr nd
      have ndY : ys.Nodup := by
        rw [e1] at ndM
        exact List.Pairwise.imp_of_mem (fun ha hb z e => z (by rw [e])) (List.pairwise_map.mp ndM)
      have srtY : ys.Pairwise fun a b => T.le a b = true := by
        have pw : M.Pairwise (fun a b => dataLe false (fun b : Sb.Ent => (T.dec b.2).elim PyData.none fun y => (T.enc y).py) a b = true) := hM ▸ PySem.W.sort_pairwise (PySem.W.sortLe_total _ _ _) L1
        have go : ∀ {N : List Sb.Ent} {zs : List α}, N.map Prod.snd = zs.map T.key → N.Pairwise (fun a b => dataLe false (fun b : Sb.Ent => (T.dec b.2).elim PyData.none fun y => (T.enc y).py) a b = true) → zs.Pairwise fun a b => T.le a b = true := by
          intro N
          induction N with
          | nil =>
            intro zs e _
            cases zs with
            | nil => exact .nil
            | cons z zs => cases e
          | cons p N ih =>
            intro zs e pw
            cases zs with
            | nil => cases e
            | cons z zs =>
              rw [List.map_cons, List.map_cons] at e
              obtain ⟨ez, er⟩ := List.cons.inj e
              rw [List.pairwise_cons] at pw
              refine List.pairwise_cons.mpr ⟨fun y hy => ?_, ih er pw.2⟩
              have : T.key y ∈ N.map Prod.snd := er ▸ List.mem_map_of_mem hy
              obtain ⟨p', hp', ep'⟩ := List.mem_map.mp this
              have q := pw.1 p' hp'
              have d1 : T.dec p.2 = some z := by rw [ez, T.dec_key]
              have d2 : T.dec p'.2 = some y := by rw [ep', T.dec_key]
              have q2 : dataLe false (fun b : Sb.Ent => (T.dec b.2).elim PyData.none fun y => (T.enc y).py) p p' = leD (T.enc z) (T.enc y) := by
                show (!(listOrd itemOrd).blt (keyToks ((T.dec p'.2).elim PyData.none fun y => (T.enc y).py)) (keyToks ((T.dec p.2).elim PyData.none fun y => (T.enc y).py))) = (!(listOrd itemOrd).blt (keyToks (T.enc y).py) (keyToks (T.enc z).py))
                rw [d1, d2]
                rfl
              rw [q2] at q
              exact q
        exact go e1 pw
      have fin : T.srt m = ys := T.srt_eq ndY srtY fun y => by
        rw [e3]
        constructor
        · rintro ⟨p, hp, e⟩
          obtain ⟨y', f1, f2, _⟩ := gL p ((mL p).mp hp)
          exact T.kinj _ _ (f1.symm.trans e) ▸ f2
        · intro hy
          obtain ⟨p', hp', ep'⟩ := List.mem_map.mp (cov y hy)
          exact ⟨p', (mL p').mpr hp', ep'⟩
      have hk : k ((T.srt m).map T.enc) := hk
      rw [fin] at hk
      exact laid b1 hp hk e2 fun l a xs H' z st n e r => q l a xs H' z (s1.trans st) (s1.new b1 n) e r
theorem ex_lenH (T : TupE α) {k : D → Prop} (h : ExH T w c Γ t fun m => k (.int (dd m).length)) : Ex c Γ (tCB (rLenH w) (tCons t tNil)) k := fun H0 own σ H Q E q =>
  h H0 own σ H _ E fun m L q0 H1 hk s1 n0 eq0 en => by
    refine ⟨q0, L, rfl, eq0, ?_⟩
    rw [en.len]
    exact q _ _ H1 hk s1 (.int _)
/-- {e for target in it if test}, tuples of one sort -/
theorem exh_sc (T : TupE α) {P : Program} {wi : TI} {g : TG} {tt : TT} {te : TE} {vs js : List Nat} {k : List α → Prop} (hj : ∀ j ∈ js, j ∈ vs)
    (h : ExI c Γ wi fun l => l.length < 63 ∧ ∃ Pv : Nat → List α → Prop, Pv 0 [] ∧ (∀ i d acc, l[i]? = some d → Pv i acc → GxD c (wipeG Γ vs) g js d fun Γ2 => ExT c Γ2 tt fun b => if b = true then Ex c Γ2 te fun y => ∃ z, y = T.enc z ∧ Pv (i + 1) (acc ++ [z]) else Pv (i + 1) acc) ∧
      ∀ acc, Pv l.length acc → k acc) : ExH T w c Γ (tSc (tupSort P w c.K) wi g tt te vs) k := fun H0 own σ H Q E q =>
  h H0 own σ H _ E fun l J H1 ⟨hl, Pv, p0, step, fin⟩ s1 it Dn nD => by
    have E1 := E.stay s1
    have b1 := E1.b
    have EW : EnvR c H0 (Dn :: own) (upd H1 Dn (SetH w Dn [])) (L2.wipe σ vs) (wipeG Γ vs) := (E1.wipe vs).hold nD
    have old : ∀ {H' : Hp}, Stay c (upd H1 Dn (SetH w Dn [])) H' → Same (msk (c.W ++ own) H1) (msk (c.W ++ Dn :: own) H') := fun {H'} s x u e => by
      obtain ⟨n, e⟩ := mk_some e
      have ne := ne_of_none e nD
      have n2 : x ∉ c.W ++ Dn :: own := fun z => by
        rcases List.mem_append.mp z with z | z
        · exact n (List.mem_append_left _ z)
        · rcases List.mem_cons.mp z with z | z
          · exact ne z
          · exact n (List.mem_append_right _ z)
      refine s.ms EW.b.pw (Dn :: own) x u ?_
      rw [mk_out n2, upd_ne ne]
      exact e
    refine ⟨fun i m H' => m = l.length - i ∧ i ≤ l.length ∧ ∃ (L : List Sb.Ent) (acc : List α), H' Dn = some (SetH w Dn L) ∧ Ents T c.K (msk (c.W ++ Dn :: own) H') L acc ∧ L.length ≤ i ∧ Base c H0 (Dn :: own) H' ∧ EnvR c H0 (Dn :: own) H' (L2.wipe σ vs) (wipeG Γ vs) ∧ Stay c H1 H' ∧ Same (msk (c.W ++ own) H1) (msk (c.W ++ Dn :: own) H') ∧ Pv i acc,
      ⟨_, rfl, Nat.zero_le _, [], [], upd_same, ⟨List.nodup_nil, fun _ h => (nomatch h), fun _ h => (nomatch h)⟩, Nat.le_refl _, EW.b, EW, b1.made nD, old Stay.refl, p0⟩, ?_⟩
    rintro i m H' ⟨rfl, hi, L, acc, eD, rD, ha, bH, EH, sH, oH, pH⟩
    obtain ⟨i1, i2, i3⟩ := it (Dn :: own) H' oH (base_all bH) i
    by_cases lt : i < l.length
    · refine .inr ⟨i1 lt, fun H3 => ∃ (L : List Sb.Ent) (acc : List α), H3 Dn = some (SetH w Dn L) ∧ Ents T c.K (msk (c.W ++ Dn :: own) H3) L acc ∧ L.length ≤ i + 1 ∧ Base c H0 (Dn :: own) H3 ∧ EnvR c H0 (Dn :: own) H3 (L2.wipe σ vs) (wipeG Γ vs) ∧ Stay c H1 H3 ∧ Same (msk (c.W ++ own) H1) (msk (c.W ++ Dn :: own) H3) ∧ Pv (i + 1) acc,
        fun H3 z => ⟨_, by omega, rfl, lt, z⟩, fun x H2 y => ?_⟩
      obtain ⟨d, ed, s2, r2⟩ := i3 x H2 lt y
      have st2 : Stay c H' H2 := Stay.of s2
      have E2 := EH.stay st2
      refine step i d acc ed pH H0 (Dn :: own) _ H2 x _ E2 r2 fun Γ2 σ2 h2 E3 fr fl => ?_
      refine ⟨?_, h2 H0 (Dn :: own) σ2 H2 _ E3 fun b H3 h3 s3 => ?_⟩
      · rw [wipe_eq hj fl fr, wipe_wipe]
      have dn : Dn ∈ Dn :: own := List.mem_cons_self ..
      have st3 := st2.trans s3
      have eD3 := bH.at_ st3 dn eD
      have rD3 := rD.mono (st3.ms bH.pw (Dn :: own))
      have same3 : Same (msk (c.W ++ own) H1) (msk (c.W ++ Dn :: own) H3) := oH.trans (st3.ms bH.pw (Dn :: own))
      cases b with
      | false => exact ⟨L, acc, eD3, rD3, Nat.le_succ_of_le ha, bH.stay st3, EH.stay st3, sH.trans st3, same3, h3⟩
      | true =>
        refine h3 H0 (Dn :: own) σ2 H3 _ (E3.stay s3) fun yd yv H4 ⟨z0, ez, h4⟩ s4 r4 => ?_
        subst ez
        have st4 := st3.trans s4
        have eD4 := bH.at_ st4 dn eD
        have rD4 := rD.mono (st4.ms bH.pw (Dn :: own))
        have b4 := bH.stay st4
        have E4 := EH.stay st4
        obtain ⟨z1, z2, et⟩ := T.tup z0
        have r4' := r4
        rw [et] at r4'
        obtain ⟨x4, _, rfl, _, _⟩ := r4'.tup_of
        refine ⟨L, eD4, x4, T.enc z0, T.key z0, rfl, r4.mono mk_all, T.hk z0, T.dep z0, by omega, fun p hp => ?_, fun L' c1 c2 => ?_⟩
        · obtain ⟨y, e1, _, e3⟩ := rD4.at_ p hp
          exact ⟨_, e3.mono mk_all, by rw [e1]; exact T.hk y, by rw [e1]; exact T.dep y⟩
        · have ws : Same (msk (c.W ++ Dn :: own) H4) (msk (c.W ++ Dn :: own) (upd H4 Dn (SetH w Dn L'))) := Base.wsame dn
          have en : Ents T c.K (msk (c.W ++ Dn :: own) (upd H4 Dn (SetH w Dn L'))) L' (acc ++ [z0]) := by
            by_cases mk : T.key z0 ∈ L.map Prod.snd
            · rw [c1 mk]
              refine ⟨rD4.nd, fun p hp => ?_, fun y hy => ?_⟩
              · obtain ⟨y, e1, e2, e3⟩ := rD4.at_ p hp
                exact ⟨y, e1, List.mem_append_left _ e2, e3.mono (Base.wsame dn)⟩
              · rcases List.mem_append.mp hy with hy | hy
                · exact rD4.cov y hy
                · rw [List.mem_singleton.mp hy]
                  exact mk
            · have pm := c2 mk
              refine ⟨((pm.map Prod.snd).nodup_iff).mpr (List.nodup_cons.mpr ⟨mk, rD4.nd⟩), fun p hp => ?_, fun y hy => ?_⟩
              · rcases List.mem_cons.mp (pm.mem_iff.mp hp) with rfl | hp
                · exact ⟨z0, rfl, List.mem_append_right _ (List.mem_singleton.mpr rfl), r4.mono ws⟩
                · obtain ⟨y, e1, e2, e3⟩ := rD4.at_ p hp
                  exact ⟨y, e1, List.mem_append_left _ e2, e3.mono ws⟩
              · refine ((pm.map Prod.snd).mem_iff).mpr ?_
                rcases List.mem_append.mp hy with hy | hy
                · exact List.mem_cons_of_mem _ (rD4.cov y hy)
                · rw [List.mem_singleton.mp hy]
                  exact List.mem_cons_self ..
          have ll : L'.length ≤ i + 1 := by
            by_cases mk : T.key z0 ∈ L.map Prod.snd
            · rw [c1 mk]
              omega
            · rw [(c2 mk).length_eq, List.length_cons]
              omega
          refine ⟨L', acc ++ [z0], upd_same, en, ll, b4.write dn, ?_, (sH.trans st4).wnew b1 nD, (oH.trans (st4.ms bH.pw (Dn :: own))).trans ws, h4⟩
          refine ⟨b4.write dn, E4.len, fun j s o g1 g2 => ?_, E4.inj⟩
          have q0 := (E.wipe vs).sl j s o g1 g2
          refine (E4.sl j s o g1 g2).mv ws fun a hs ho hm => ⟨hm, fun u e => ?_⟩
          have ne : a ≠ Dn := fun z => by
            have hD0 : Dn ∉ own := (b1.free nD).2.1
            cases s with
            | own l =>
              obtain ⟨y, _, e, hy, _⟩ := q0
              rw [ho] at e
              cases e
              exact hD0 (z ▸ hy)
            | ownK ks l =>
              obtain ⟨y, _, e, hy, _⟩ := q0
              rw [ho] at e
              cases e
              exact hD0 (z ▸ hy)
            | ownT ks l =>
              obtain ⟨y, _, e, hy, _⟩ := q0
              rw [ho] at e
              cases e
              exact hD0 (z ▸ hy)
            | _ => cases hs
          rw [upd_ne ne]
          exact e
    · have e : i = l.length := by omega
      subst e
      refine .inl ⟨i2 (Nat.le_refl _), q acc L Dn H' (fin acc pH) (s1.trans sH) (s1.new b1 nD) eD (rD.mono (mk_sub fun x hx => ?_))⟩
      rcases List.mem_append.mp hx with hx | hx
      · exact List.mem_append_left _ hx
      · exact List.mem_append_right _ (List.mem_cons_of_mem _ hx)
end
end Tl
/-! ## T15 -/
set_option Elab.async false
set_option linter.all false
set_option maxRecDepth 100000
set_option maxHeartbeats 4000000
/-! defs and methods that raise nothing; methods by name; small rules -/
namespace Tl
open PySem PySem.Spec PyProof.Rows L2 He Vx
theorem passL {X : Cx} : Passes (L2.CX X.prog X.w) X E0 := fun _ _ _ _ _ _ _ ⟨_, _, _, _, _, _, _, _, _, _, _, _, h⟩ => h.elim
section
variable {P : Program} {w : World} {K : PySem.W.Frag} {mg : Str → Option Value} {base : Heap} {k : Nat} {x : Str} {ps : List Str} {sp sp' : Sp} {f : Addr} {fd : FuncData}
theorem fn_pure (F : FnOk P w K mg base (L2.CX P w) k f fd ps sp) (h : ∀ vs H Q E, sp' vs H Q E → sp vs H Q E0) : FnOk P w K mg base CX0 k f fd ps sp' :=
  ⟨fun vs H Q E q => F.len vs H Q E0 (h _ _ _ _ q), fun A outer s H args us vs Q E hr e0 hb r hs => codeAny_mono (F.run A outer s H args us vs Q E0 hr e0 hb r (h _ _ _ _ hs)) fun r s' z => by
    cases r with
    | ok f => cases f <;> exact z
    | error e =>
      obtain ⟨_, _, _, _, _, _, _, _, _, _, _, _, h⟩ := z
      exact h.elim⟩
theorem co_pure (C : Co P w K mg base (L2.CX P w) k x ps sp) (h : ∀ vs H Q E, sp' vs H Q E → sp vs H Q E0) : Co P w K mg base CX0 k x ps sp' := by
  obtain ⟨f, fd, F, r⟩ := C.ex
  exact ⟨f, fd, fn_pure F h, r⟩
theorem co_imp (C : Co P w K mg base CX0 k x ps sp) (h : ∀ vs H Q E, sp' vs H Q E → sp vs H Q E) : Co P w K mg base CX0 k x ps sp' := by
  obtain ⟨f, fd, F, r⟩ := C.ex
  exact ⟨f, fd, F.imp h, r⟩
theorem cd_imp (C : Cd P w K mg base k x ps sp) (h : ∀ vs H Q E, sp' vs H Q E → sp vs H Q E) : Cd P w K mg base k x ps sp' := by
  obtain ⟨f, fd, F, r⟩ := C.ex
  exact ⟨f, fd, ⟨fun vs H Q E q => F.ln vs H Q E (h _ _ _ _ q), fun A outer s H args us vs Q E hr hG e0 hb r hs => F.go A outer s H args us vs Q E hr hG e0 hb r (h _ _ _ _ hs)⟩, r⟩
/-- a method of the class Box -/
def Mo (P : Program) (w : World) (K : PySem.W.Frag) (mg : Str → Option Value) (base : Heap) (k : Nat) (m : Str) (ps : List Str) (sp : Sp) : Prop :=
  ∃ (f : Addr) (fd : FuncData), Meth K (ga K "Box") m f ∧ FnOk P w K mg base CX0 k f fd ps sp ∧ Binds K fd ps [] ∧ ∀ (a b : Str), ps = [a, b] → ∀ (s : Shared) (u v : Value), BindsTo s fd ⟨[u], [(b, v)]⟩ (ps.zip [u, v])
/-- a property of the class Box -/
def Po (P : Program) (w : World) (K : PySem.W.Frag) (mg : Str → Option Value) (base : Heap) (k : Nat) (m : Str) (sp : Sp) : Prop :=
  ∃ (p g : Addr) (fd : FuncData), PropOf K (ga K "Box") m p g ∧ FnOk P w K mg base CX0 k g fd ["self"] sp ∧ Binds K fd ["self"] []
end
section
variable {X : Cx} {k : Nat} {m : Str} {ps : List Str} {sp : Sp} {o e : Expr} {es : List Expr} {apos pos p : Pos} {ta te : TE} {t : TA}
theorem pe_mo {pl : Sem Bool} (M : Mo X.prog X.w X.K X.mg X.base k m ps sp) (c : Cls X.K (ga X.K "Box")) (hr : Room k X.A) (he : PE X o ta) (ha : PA X (e :: es) t)
    (hst : starEach (e :: es) X.env = (false, eval e X.env) :: starEach es X.env := by rfl) (hpl : (backTo pos (starEach es X.env)).any (·.1) = false := by rfl)
    (ht : eval (.Call (.Attribute o m apos) (e :: es) [] pos) X.env = (do
      let ov ← eval o X.env
      standAt apos.atName
      let (f, first) ← holding [ov] (getMethod ov m pl)
      callWith pos f first (backTo pos (starEach (e :: es) X.env)) (backToKw pos (keywordEach [] X.env))) := by rfl) : PE X (.Call (.Attribute o m apos) (e :: es) [] pos) (tMeth (ga X.K "Box") m sp [] E0 ta t) := by
  obtain ⟨f, fd, hm, F, b, _⟩ := M
  exact pe_meth (pl := pl) he c hm F hr b .nil pass0 ha hst hpl ht
theorem pe_mo0 {pl : Sem Bool} (M : Mo X.prog X.w X.K X.mg X.base k m ps sp) (c : Cls X.K (ga X.K "Box")) (hr : Room k X.A) (he : PE X o ta)
    (ht : eval (.Call (.Attribute o m apos) [] [] pos) X.env = (do
      let ov ← eval o X.env
      standAt apos.atName
      let (f, first) ← holding [ov] (getMethod ov m pl)
      callWith pos f first (backTo pos (starEach [] X.env)) (backToKw pos (keywordEach [] X.env))) := by rfl) : PE X (.Call (.Attribute o m apos) [] [] pos) (tMeth (ga X.K "Box") m sp [] E0 ta tNil) := by
  obtain ⟨f, fd, hm, F, b, _⟩ := M
  exact pe_meth0 (pl := pl) he c hm F hr b .nil pass0 ht
/-- o.m(y = e) -/
theorem pe_moK {pl : Sem Bool} {a y : Str} {kp : Pos} (M : Mo X.prog X.w X.K X.mg X.base k m [a, y] sp) (c : Cls X.K (ga X.K "Box")) (hr : Room k X.A) (he : PE X o ta) (hv : PE X e te)
    (hall : (backToKw pos (keywordEach [⟨some y, e, kp⟩] X.env)).all (·.1.isSome) = true := by rfl)
    (hks : (backToKw pos (keywordEach [⟨some y, e, kp⟩] X.env)).filterMap (·.1) = [y] := by rfl)
    (hpl : ((backTo pos (starEach [] X.env)).any (·.1) || (backToKw pos (keywordEach [⟨some y, e, kp⟩] X.env)).any (·.1.isNone)) = false := by rfl)
    (ht : eval (.Call (.Attribute o m apos) [] [⟨some y, e, kp⟩] pos) X.env = (do
      let ov ← eval o X.env
      standAt apos.atName
      let (f, first) ← holding [ov] (getMethod ov m pl)
      callWith pos f first (backTo pos (starEach [] X.env)) (backToKw pos (keywordEach [⟨some y, e, kp⟩] X.env))) := by rfl) : PE X (.Call (.Attribute o m apos) [] [⟨some y, e, kp⟩] pos) (tMeth (ga X.K "Box") m sp [] E0 ta (tCons te tNil)) := by
  obtain ⟨f, fd, hm, F, b, bk⟩ := M
  refine ⟨fun pins s σ H Q I h => ?_⟩
  refine PySem.W.methodCall_KW (pl := pl) (thn (he.run pins s σ H _ I h) fun u s1 ⟨x, H1, I1, rx, a', dx, fs, ex, ea, l, q⟩ => ?_) ht
  subst ex
  obtain rfl : u = Value.ref a' := rx
  refine getmeth_ok I1 ea c hm l ?_
  refine PySem.W.callWith_KW0 (first := [.ref a']) (h₀ := X.base) I.ok.mod.kin hm.kp hall ?_ hpl
  refine thn ((pk_cons hv pk_nil).run pos pins s1 σ H1 (one1 fun v H2 => sp (.ref a' :: ([v] ++ [])) H2 Q E0) I1 q) fun ws s2 z => ?_
  obtain ⟨vs, H2, I2, r1, q1⟩ := z
  rw [hks]
  match vs, q1 with
  | [v], q1 =>
    cases r1 with
    | cons rv rn =>
      cases rn
      rename_i u
      refine ⟨I2.kIn, wpAny_call (codeAny_mono (F.run X.A X.stack s2 H2 ⟨[.ref a'], [(y, u)]⟩ [.ref a', u] [.ref a', v] Q E0 hr I2.env0 (bk a y rfl s2 (.ref a') u) (.cons rfl (.cons rv .nil)) q1) (fun r s' z => ?_))⟩
      cases r with
      | error er => exact pass0 pins σ H2 s2 er s' I2 z
      | ok fl =>
        cases fl with
        | ret u => exact I2.after z
        | next => exact z.elim
        | brk => exact z.elim
        | cont => exact z.elim
theorem pe_po (M : Po X.prog X.w X.K X.mg X.base k m sp) (c : Cls X.K (ga X.K "Box")) (hr : Room (k + 1) X.A) (he : PE X o ta) (hab : attributeBase o m X.env (eval o X.env) = eval o X.env := by rfl) : PE X (.Attribute o m pos) (tProp (ga X.K "Box") sp [] E0 ta) := by
  obtain ⟨p, g, fd, hp, F, b⟩ := M
  exact pe_prop he c hp F hr b .nil pass0 hab
end
section
variable {c : C1} {Γ : List Sl} {t u : TE} {P : Post} {k : D → Prop}
theorem ex_neg {i : Int} (hk : k (.int (-i))) : Ex c Γ (tUn (rU fun i => .int (-i)) (tC (.int i))) k := ex_un (ex_int fun H0 own H v Q b r q => by
  cases r
  exact ⟨i, rfl, q _ _ H hk Stay.refl (.int _)⟩)
/-- 0, 1, .. -/
def rgI (n : Int) : List Int := (List.range n.toNat).map fun (i : Nat) => (i : Int)
theorem rgV_eq (n : Int) : rgV 0 n = (rgI n).map V.int := by
  unfold rgV rgI
  rw [List.map_map, Int.sub_zero]
  refine List.map_congr_left fun i _ => ?_
  show V.int (0 + (i : Int)) = V.int (i : Int)
  rw [Int.zero_add]
theorem mem_rgI {n i : Int} : i ∈ rgI n ↔ 0 ≤ i ∧ i < n := by
  unfold rgI
  rw [List.mem_map]
  constructor
  · rintro ⟨j, hj, rfl⟩
    rw [List.mem_range] at hj
    omega
  · rintro ⟨h1, h2⟩
    exact ⟨i.toNat, List.mem_range.mpr (by omega), by omega⟩
theorem rgI_nodup (n : Int) : (rgI n).Nodup := by
  unfold rgI
  exact List.pairwise_map.mpr (List.nodup_range.imp fun h e => h (by omega))
theorem rgI_len (n : Int) : (rgI n).length = n.toNat := by
  unfold rgI
  rw [List.length_map, List.length_range]
/-- list(range(e)) -/
theorem exl_rng {kk : List D → Prop} (h : Ex c Γ t fun x => ∃ n : Int, x = .int n ∧ 0 ≤ n ∧ n ≤ 1000 ∧ kk ((rgI n).map D.int)) : ExL c Γ (tLstRg (tRg1 t)) kk := fun H0 own σ H Q R q =>
  h H0 own σ H _ R fun x v H1 ⟨n, e, n0, n1, z⟩ s1 r1 => by
    subst e
    cases r1
    refine ⟨n, rfl, RgOk.of_le (by decide) (by omega) (by decide) n0, fun p hp => ?_⟩
    rw [rgV_eq]
    exact laid (R.b.stay s1) hp z (ints_drs _) fun l a xs H' z st n e r => q l a xs H' z (s1.trans st) (s1.new (R.b.stay s1) n) e r
end
end Tl
/-! ## T16 -/
set_option Elab.async false
set_option linter.all false
set_option maxRecDepth 100000
set_option maxHeartbeats 4000000
/-! x = {k: v for ..} -/
namespace Tl
open PySem PySem.Spec PyProof.Rows L2 He Vx
section
variable {X : Cx}
theorem sw_trueD {kx vx : Expr} {gs : List Comprehension} {scope : Scope} {pos py : Pos} {y : Str} {l : Nat} {env : Env} (hk : env.scope.kind = .function) (hy : env.scope.names.lookup y = some .local) (hl : (py.line == pos.line) = true)
    (ha : (scope.names.any fun (n, k) => n == y && (k == .local || k == .cell)) = false) : swapsWith (.DictComp kx vx gs scope pos) (some (.Name y py)) l env = pure true := by
  have ky : env.kindOf y = some .local := hy
  have hb : env.blockKind = .function := by unfold Env.blockKind; rw [hk]; rfl
  unfold swapsWith
  simp only [hb, ky, ha, Expr.pos, hl]
  rfl
theorem ps_setDc {i : Nat} {y : Str} {py : Pos} {kx vx tg iter : Expr} {ifs : List Expr} {scope : Scope} {own : List (Str × Nat)} {pos spos : Pos} {wi : TI} {g : TG} {tt : TT} {tk tv : TE} (hc : X.calm = true) (hN : X.N.Nodup) (hy : X.N[i]? = some y) (hyl : X.env.scope.names.lookup y = some .local)
    (hsw : swapsWith (.DictComp kx vx [⟨tg, iter, ifs, 0⟩] scope pos) (some (.Name y py)) spos.line X.env = pure true) (hi : PI X tg iter wi) (ok : BlkOk X.N X.env.scope scope own)
    (hg : ∀ (s : Shared) (H : Hp) (C : Addr) (cl : List (Str × Addr)) (fp : List Addr), PG (X.blk s H scope (compEnvC scope cl C X.env) fp) tg g) (ht : ∀ (s : Shared) (H : Hp) (C : Addr) (cl : List (Str × Addr)) (fp : List Addr), PTs (X.blk s H scope (compEnvC scope cl C X.env) fp) ifs tt)
    (hk : ∀ (s : Shared) (H : Hp) (C : Addr) (cl : List (Str × Addr)) (fp : List Addr), PE (X.blk s H scope (compEnvC scope cl C X.env) fp) kx tk)
    (he : ∀ (s : Shared) (H : Hp) (C : Addr) (cl : List (Str × Addr)) (fp : List Addr), PE (X.blk s H scope (compEnvC scope cl C X.env) fp) vx tv) (hs : ∀ x, foldedSetIterable iter X.env x = pure x := by intro _; rfl) :
    PS X (.Assign [.Name y py] (.DictComp kx vx [⟨tg, iter, ifs, 0⟩] scope pos) spos) (tAsg (tDc wi g tt tk tv (own.map (·.2))) (gName i)) := by
  refine ⟨fun pins s σ H D I h => ?_⟩
  rw [exec_Assign_Name_used _ _ _ _ hsw]
  refine wpAny_bind (wpAny_standAt (wpAny_bind ?_))
  show wpAny _ X.A (do let _ ← comprehension (.DictComp kx vx [⟨tg, iter, ifs, 0⟩] scope pos) scope X.env (firstIterPos [⟨tg, iter, ifs, 0⟩] pos) newDict false (eval iter X.env) (some (assign (.Name y py) X.env))) _ _ s
  have h : tDc wi g tt tk tv (own.map (·.2)) σ H (fun x H1 => gName i x σ H1 D.nx) := h
  refine wpAny_bind (thn (dc_core (Qf := fun _ s' => SP X pins D .next s') hc hN I hi ok hg ht hk he hs h fun L C s' m H' I' q hn f => ?_) fun _ s' hq => wpAny_pure (wpAny_pure hq))
  show wpAny _ _ (assign (.Name y py) X.env (.ref L)) _ _ _
  refine wpAny_assign_Name (store_ok2 (v := V.ref L) I' hN hy (.inl hyl) rfl (fun s2 I2 ⟨a, sb, ha⟩ => ?_) (.inr hyl))
  obtain ⟨f0, f1, f2, f3, f4, f5⟩ := f
  have haC : C ≠ a := by
    rcases ha with z | z
    · rw [z]; exact f1
    · exact fun e => f4 y a z e.symm
  refine ⟨m, hn.sameBut sb haC, fun h3 sb3 => ?_⟩
  exact ⟨_, H', I2.turned (t' := s2.toks) (fun b o hb e => (sb3.2 b hb).trans e) f0 f1 f3 f4 f5, q⟩
variable {K : PySem.W.Frag}
theorem ix_tupK (hK : X.K = K) : IxR X (rIxT K) := by
  subst hK
  exact ix_tup
theorem ix_listK (hK : X.K = K) : IxR X (rIxL K) := by
  subst hK
  exact ix_list
theorem sl_tupK (hK : X.K = K) : L2.SlR X (rSlT K) := by
  subst hK
  exact sl_tup
theorem sl_listK (hK : X.K = K) : L2.SlR X (rSlL K) := by
  subst hK
  exact sl_list
theorem op_eqDK (hK : X.K = K) (hu : X.A.units + 64 < cLine) : OpR X (compareOp .Eq) (rEqD K) := by
  subst hK
  exact op_eqD hu
theorem op_neDK (hK : X.K = K) (hu : X.A.units + 64 < cLine) : OpR X (compareOp .NotEq) (rNeD K) := by
  subst hK
  exact op_neD hu
theorem op_inDK (hK : X.K = K) (hu : X.A.units + 65 < cLine) : OpR X (compareOp .In) (rInD K) := by
  subst hK
  exact op_inD hu
theorem op_notInDK (hK : X.K = K) (hu : X.A.units + 65 < cLine) : OpR X (compareOp .NotIn) (rNotInD K) := by
  subst hK
  exact op_notInD hu
theorem mt_indexDK (hK : X.K = K) (hu : X.A.units + 65 < cLine) : MtR X "list.index" (rIndexD K) := by
  subst hK
  exact mt_indexD hu
theorem call_lenKK (hK : X.K = K) : CallR X (.builtin "len") (Evl.rLenS K) := by
  subst hK
  exact call_len_seq
theorem call_listKK (hK : X.K = K) : CallR X (.type "list") (Evl.rListS K) := by
  subst hK
  exact call_list_of
end
end Tl
/-! ## K16u -/
set_option Elab.async false
set_option linter.all false
set_option maxRecDepth 100000
set_option maxHeartbeats 4000000
namespace K16
open PySem PySem.Spec PyProof.Rows L2 He Vx Tl

theorem room65 {A : Around} (r : Room 1 A) : A.units + 65 < cLine := by
  have := r.un
  omega
theorem hu_of {A : Around} {k : Nat} (r : Room k A) : A.units + 1 < cLine := by
  have := r.un
  omega
def fState : Fn := fun ds k => ∃ n i : Int, ds = [.int n, .int i] ∧ k (.bl (decide (0 ≤ i) && decide (i < n)))
def isSeq (x : D) (l : List D) : Prop := x = .lst l ∨ x = .tup l
def fList : Fn := fun ds k => ∃ (x : D) (s : List Int), ds = [x] ∧ isSeq x (s.map D.int) ∧ s.length ≤ 100 ∧ k (.bl true)
def fFW : Fn := fun ds k => ∃ (x : D) (s : List Int), ds = [x, .lst (s.map fun _ => .bl true)] ∧ isSeq x (s.map D.int) ∧ s.length ≤ 100 ∧ s.Nodup ∧ k .non
def fCStarts : Fn := fun ds k => ∃ (n : Int) (x : D) (s : List Int) (m : List Mv), ds = [.int n, x] ∧ isSeq x (s.map D.int) ∧ OkB n s m ∧ s.length ≤ 100 ∧ k .non
section
variable {P : Program} {w : World} {K : PySem.W.Frag} {mg : Str → Option Value} {base : Heap}
theorem drs2 {W : List Addr} {H : Hp} {vs : List V} {a b : D} (r : DRs K (msk W H) vs [a, b]) : ∃ v u, vs = [v, u] ∧ DR K (msk W H) v a ∧ DR K (msk W H) u b := by
  cases r with
  | cons a b =>
    cases b with
    | cons b c =>
      cases c
      exact ⟨_, _, rfl, a, b⟩
theorem co_state (C : Co P w K mg base CX0 2 "is_state" ["states", "value"] (spS K stateD)) : Co P w K mg base CX0 2 "is_state" ["states", "value"] (spD K fState) := co_imp C fun vs H Q E ⟨W, ds, k, hW, r, ⟨n, i, e, hk⟩, q⟩ => by
  subst e
  obtain ⟨v, u, rfl, r1, r2⟩ := drs2 r
  cases r1
  cases r2
  exact ⟨n, .int i, .int i, rfl, .int i, rfl, fun H' s => q _ _ H' hk s (.bl _)⟩
theorem da_ints {W : List Addr} {H : Hp} {v : V} {x : D} {s : List Int} (h : isSeq x (s.map D.int)) (r : DR K (msk W H) v x) : Da K H v x.py := (r.mono mk_all).da (by rcases h with e | e <;> (rw [e]; exact datas_ints s))
theorem ok_ints {x : D} {s : List Int} (h : isSeq x (s.map D.int)) (l : s.length ≤ 100) : okD x.py = true ∧ seqD x.py = true := by
  have := okD_of (l := s.map PyData.int) (by rw [List.length_map]; exact l) (okA_ints s)
  rcases h with e | e
  · rw [e]
    exact ⟨by show okD (.list (D.pys (s.map D.int))) = true; rw [pys_ints]; exact this.1, rfl⟩
  · rw [e]
    exact ⟨by show okD (.tuple (D.pys (s.map D.int))) = true; rw [pys_ints]; exact this.2, rfl⟩
theorem co_list (C : Co P w K mg base CX0 1 "is_list" ["value"] (spP K seqD)) : Co P w K mg base CX0 1 "is_list" ["value"] (spD K fList) := co_imp C fun vs H Q E ⟨W, ds, k, hW, r, ⟨x, s, e, hs, l, hk⟩, q⟩ => by
  subst e
  obtain ⟨v, rfl, r1⟩ := r.one
  obtain ⟨o1, o2⟩ := ok_ints hs l
  exact ⟨v, x.py, rfl, da_ints hs r1, o1, fun H' s => by rw [o2]; exact q _ _ H' hk s (.bl _)⟩
theorem drs_trues {H : Hp} : ∀ {s : List Int} {ys : List V}, DRs K H ys (s.map fun _ => .bl true) → ys = s.map fun _ => V.bl true
  | [], _, r => by
    cases r
    rfl
  | i :: s, _, r => by
    rw [List.map_cons] at r
    cases r with
    | cons a b =>
      cases a
      rw [drs_trues b]
      rfl
theorem co_fw (C : Co P w K mg base CX0 1 "first_wrong" ["values", "right"] (spFW K)) : Co P w K mg base CX0 1 "first_wrong" ["values", "right"] (spD K fFW) := co_imp C fun vs H Q E ⟨W, ds, k, hW, r, ⟨x, s, e, hs, l, nd, hk⟩, q⟩ => by
  subst e
  obtain ⟨v, u, rfl, r1, r2⟩ := drs2 r
  obtain ⟨a, xs, rfl, ha, rx⟩ := Tl.seq_of hs r1
  obtain ⟨b, ys, rfl, hb, _, ry⟩ := r2.lst_of
  have ex := drs_ints rx
  subst ex
  have ey := drs_trues ry
  subst ey
  refine ⟨a, b, s.map V.int, rfl, ha, by rw [List.length_map]; omega, .inl ⟨(s.map Sum.inl).map some, ?_, by rw [List.length_map, List.length_map, List.length_map], fun i k hk => ?_, fun H' s' => ?_⟩⟩
  · rw [List.map_map, List.map_map]
    exact SqL.of hb
  · rw [List.map_map, List.getElem?_map] at hk
    obtain ⟨j, hj, ej⟩ := Option.map_eq_some_iff.mp hk
    rw [List.getElem?_map, hj]
    cases ej
    rfl
  · rw [fwk_none _ _ _ (by rw [List.nil_append]; exact nd_map (fun a b e => by cases e; rfl) nd)]
    exact q _ _ H' hk s' .non
end
end K16
/-! ## K16x -/
set_option Elab.async false
set_option linter.all false
set_option maxRecDepth 100000
set_option maxHeartbeats 4000000
namespace K16
open PySem PySem.Spec PyProof.Rows L2 He Vx Tl

theorem len_D {K : PySem.W.Frag} {f : Fn} {vs : List V} {H : Hp} {Q : VK} {E : XK} {n : Nat} (h : spD K f vs H Q E) (g : ∀ ds k, f ds k → ds.length = n) : vs.length = n := by
  obtain ⟨W, ds, k, _, r, hf, _⟩ := h
  rw [r.len]
  exact g ds k hf
theorem len_L {K : PySem.W.Frag} {f : FnL} {vs : List V} {H : Hp} {Q : VK} {E : XK} {n : Nat} (h : spL K f vs H Q E) (g : ∀ ds k, f ds k → ds.length = n) : vs.length = n := by
  obtain ⟨W, ds, k, _, r, hf, _⟩ := h
  rw [r.len]
  exact g ds k hf
theorem len_B {K : PySem.W.Frag} {f : FnB} {vs : List V} {H : Hp} {Q : VK} {E : XK} {n : Nat} (h : spB K f vs H Q E) (g : ∀ ds k, f ds k → ds.length = n) : vs.length = n := by
  obtain ⟨W, ds, k, _, r, hf, _⟩ := h
  rw [r.len]
  exact g ds k hf
def fCState : Fn := fun ds k => ∃ n i : Int, ds = [.int n, .int i] ∧ 0 ≤ i ∧ i < n ∧ k .non
def fStates : Fn := fun ds k => ∃ n s m, ds = [.box n s m] ∧ k (.int n)
def fStarts : FnL := fun ds k => ∃ n s m, ds = [.box n s m] ∧ k (s.map D.int)
def fSteps : FnL := fun ds k => ∃ n s m, ds = [.box n s m] ∧ k (m.map mvD)
def fLen : Fn := fun ds k => ∃ n s m, ds = [.box n s m] ∧ k (.int (m.length : Nat))
def fFrom : FnL := fun ds k => ∃ n s m i, ds = [.box n s m, .int i] ∧ 0 ≤ i ∧ i < n ∧ m.length < 1000 ∧ k ((m.filter fun x => decide (x.a = i)).map mvD)
def fTo : FnL := fun ds k => ∃ n s m i, ds = [.box n s m, .int i] ∧ 0 ≤ i ∧ i < n ∧ m.length < 1000 ∧ k ((m.filter fun x => decide (x.b = i)).map mvD)
def sgM (x : Mv) : Str × Str := (x.c, x.z)
def fSigns : FnL := fun ds k => ∃ n s m, ds = [.box n s m] ∧ m.length < 63 ∧ k ((sgE.srt (m.map sgM)).map sgD)
section
variable {P : Program} {w : World} {K : PySem.W.Frag} {mg : Str → Option Value} {base : Heap} {f : Addr} {fd : FuncData}
theorem co_check_state (F : At K mg "check_state" s_check_state) (c_is_state : Co P w K mg base CX0 2 "is_state" ["states", "value"] (spD K fState)) : Co P w K mg base CX0 3 "check_state" ["states", "state"] (spD K fCState) := by
  refine co_mk F sc_check_state (fun vs H Q E h => len_D h fun ds k ⟨n, i, e, _⟩ => by rw [e]; rfl) (fun _ _ _ _ _ _ us hl => match us, hl with | [_, _], _ => rfl) (fun f cdv A outer s H vs Q E hr h => ⟨_, (pss_one (ps_if (pt_not (pt_val (pe_co c_is_state (hr.mono (by decide)) (by rfl) (pa_cons (pv 0) (pa_cons (pv 1) pa_nil))))) (pss_one ps_never) pss_nil)), body_D (fun W ds k hf => ?_) h⟩)
  obtain ⟨n, i, rfl, h0, h1, hk⟩ := hf
  refine sx_if (ext_not (ext_b (ex_call (exa_cons (ex_var rfl (exa_cons (ex_var rfl (exa_nil ⟨n, i, rfl, _, rfl, ?_⟩))))))))
  rw [decide_eq_true h0, decide_eq_true h1]
  exact sx_next hk
theorem ok_states (F : Fun K "states" "Box.states" s_Box_states f fd) (CB : BoxC P w K mg base (ga K "Box")) : FnOk P w K mg base CX0 1 f fd ["self"] (spD K fStates) := by
  refine F.ok sc_Box_states (fun vs H Q E h => len_D h fun ds k ⟨n, s, m, e, _⟩ => by rw [e]; rfl) (fun cdv A outer s H vs Q E hr h => ⟨_, (pss_one (ps_ret (pe_fld (pv 0) rfl))), body_D (fun W ds k hf => ?_) h⟩)
  obtain ⟨n, s, m, rfl, hk⟩ := hf
  exact sx_ret (ex_fld CB.cls CB.n1 (ex_var rfl ⟨_, rfl, hk⟩))
theorem ok_starts (F : Fun K "starts" "Box.starts" s_Box_starts f fd) (T : BI mg) (CB : BoxC P w K mg base (ga K "Box")) : FnOk P w K mg base CX0 1 f fd ["self"] (spL K fStarts) := by
  refine F.ok sc_Box_starts (fun vs H Q E h => len_L h fun ds k ⟨n, s, m, e, _⟩ => by rw [e]; rfl) (fun cdv A outer s H vs Q E hr h => ⟨_, (pss_one (ps_ret (pe_callTy (Tl.call_listKK (K := K) rfl) (by rfl) T.list bt_list (pa_cons (pe_fld (pv 0) rfl) pa_nil)))), body_L (fun W ds k hf => ?_) h⟩)
  obtain ⟨n, s, m, rfl, hk⟩ := hf
  exact sx_retL (exl_cb (exa_cons (ex_fld CB.cls CB.n2 (ex_var rfl ⟨_, rfl, exa_nil (kl_list (.inl rfl) hk)⟩))))
theorem ok_steps (F : Fun K "steps" "Box.steps" s_Box_steps f fd) (T : BI mg) (CB : BoxC P w K mg base (ga K "Box")) : FnOk P w K mg base CX0 1 f fd ["self"] (spL K fSteps) := by
  refine F.ok sc_Box_steps (fun vs H Q E h => len_L h fun ds k ⟨n, s, m, e, _⟩ => by rw [e]; rfl) (fun cdv A outer s H vs Q E hr h => ⟨_, (pss_one (ps_ret (pe_callTy (Tl.call_listKK (K := K) rfl) (by rfl) T.list bt_list (pa_cons (pe_fld (pv 0) rfl) pa_nil)))), body_L (fun W ds k hf => ?_) h⟩)
  obtain ⟨n, s, m, rfl, hk⟩ := hf
  exact sx_retL (exl_cb (exa_cons (ex_fld CB.cls CB.n3 (ex_var rfl ⟨_, rfl, exa_nil (kl_list (.inl rfl) hk)⟩))))
theorem ok_len (F : Fun K "__len__" "Box.__len__" s_Box___len__ f fd) (T : BI mg) (CB : BoxC P w K mg base (ga K "Box")) : FnOk P w K mg base CX0 1 f fd ["self"] (spD K fLen) := by
  refine F.ok sc_Box___len__ (fun vs H Q E h => len_D h fun ds k ⟨n, s, m, e, _⟩ => by rw [e]; rfl) (fun cdv A outer s H vs Q E hr h => ⟨_, (pss_one (ps_ret (pe_callB (Tl.call_lenKK (K := K) rfl) (by rfl) T.len PySem.boot_len (pa_cons (pe_fld (pv 0) rfl) pa_nil)))), body_D (fun W ds k hf => ?_) h⟩)
  obtain ⟨n, s, m, rfl, hk⟩ := hf
  refine sx_ret (ex_cb (exa_cons (ex_fld CB.cls CB.n3 (ex_var rfl ⟨_, rfl, exa_nil (kd_len (l := m.map mvD) (.inl rfl) ?_)⟩))))
  rw [List.length_map]
  exact hk
/-- the steps of which p holds, by a comprehension -/
theorem filt {m : List Mv} {p : Mv → Bool} {Pv : Nat → List D → Prop} (hp : Pv = fun i acc => acc = ((m.take i).filter p).map mvD) {i : Nat} {x : Mv} {acc : List D} (hx : m[i]? = some x) (h : Pv i acc) : (p x = true → Pv (i + 1) (acc ++ [mvD x])) ∧ (p x = false → Pv (i + 1) acc) := by
  subst hp
  have e : m.take (i + 1) = m.take i ++ [x] := by rw [List.take_succ, hx]; rfl
  dsimp only at h ⊢
  rw [e, List.filter_append, List.map_append, h]
  exact ⟨fun z => by simp [List.filter, z], fun z => by simp [List.filter, z]⟩
theorem at_map {α β : Type} {g : α → β} {m : List α} {i : Nat} {d : β} (h : (m.map g)[i]? = some d) : ∃ x, m[i]? = some x ∧ d = g x := by
  rw [List.getElem?_map] at h
  obtain ⟨x, hx, e⟩ := Option.map_eq_some_iff.mp h
  exact ⟨x, hx, e.symm⟩
theorem ok_from (F : Fun K "steps_from" "Box.steps_from" s_Box_steps_from f fd) (T : BI mg) (CB : BoxC P w K mg base (ga K "Box")) (c_check_state : Co P w K mg base CX0 3 "check_state" ["states", "state"] (spD K fCState)) : FnOk P w K mg base CX0 4 f fd ["self", "state"] (spL K fFrom) := by
  refine F.ok sc_Box_steps_from (fun vs H Q E h => len_L h fun ds k ⟨n, s, m, i, e, _⟩ => by rw [e]; rfl) (fun cdv A outer s H vs Q E hr h => ⟨_, (pss_cons (ps_expr (pe_co c_check_state (hr.mono (by decide)) (by rfl) (pa_cons (pe_fld (pv 0) rfl) (pa_cons (pv 1) pa_nil))))
  (pss_one (ps_ret (pe_lc (own := [("step", 2)]) (g := (gName 2)) (by rfl) sc_Box_steps_from.nd (pi_list (pe_fld (pv 0) rfl)) (blkOk_by (own := [("step", 2)]) (N := ["self", "state", "step"]) (sc := defScope s_Box_steps_from) (by decide +kernel)) (fun _ _ _ _ _ => (pg_name (i := 2) sc_Box_steps_from.nd rfl (Or.inl rfl))) (fun _ _ _ _ _ => pts_one (pt_cmpR op_eq (pe_ix (Tl.ix_tupK (K := K) rfl) (pv 2) pe_int (fun _ _ => rfl)) (pv 1) (nomark _))) (fun _ _ _ _ _ => (pv 2)))))), body_L (fun W ds k hf => ?_) h⟩)
  obtain ⟨n, s, m, i, rfl, h0, h1, hl, hk⟩ := hf
  refine sx_seq (sx_drop (ex_call (exa_cons (ex_fld CB.cls CB.n1 (ex_var rfl ⟨_, rfl, exa_cons (ex_var rfl (exa_nil ⟨n, i, rfl, h0, h1, ?_⟩))⟩)))))
  refine sx_retL (exl_lc (js := [2]) (by decide) (exi_list (ex_fld CB.cls CB.n3 (ex_var rfl ⟨_, rfl, _, rfl, by rw [List.length_map]; exact Nat.lt_of_lt_of_le hl (by rw [sizeLine_eq]; decide), fun j acc => acc = ((m.take j).filter fun x => decide (x.a = i)).map mvD, rfl, fun j d acc hd pv => ?_, fun acc pv => ?_⟩))))
  · obtain ⟨x, hx, rfl⟩ := at_map hd
    obtain ⟨f1, f2⟩ := filt (p := fun x => decide (x.a = i)) rfl hx pv
    refine gx_name (ext_test (ex_op (ex_op (ex_var rfl (ex_int (od_ixT (d := .int x.a) rfl (ex_var rfl (od_eqi ⟨_, rfl, ?_⟩))))))))
    by_cases e : x.a = i
    · rw [decide_eq_true e, if_pos rfl]
      exact ex_var rfl (f1 (decide_eq_true e))
    · rw [decide_eq_false e, if_neg Bool.false_ne_true]
      exact f2 (decide_eq_false e)
  · rw [List.length_map, List.take_length] at pv
    rw [pv]
    exact hk
end
end K16
/-! ## T17 -/
set_option Elab.async false
set_option linter.all false
set_option maxRecDepth 100000
set_option maxHeartbeats 4000000
namespace Tl
open PySem PySem.Spec PyProof.Rows L2 He Vx
section
variable {c : C1} {Γ : List Sl} {t : TE} {P : Post}
/-- a list or a tuple is walked -/
theorem exi_seq {k : List D → Prop} (h : Ex c Γ t fun x => ∃ l, (x = .lst l ∨ x = .tup l) ∧ k l) : ExI c Γ (iSeq c.K t) k := fun H0 own σ H R E q =>
  h H0 own σ H _ E fun x v H1 ⟨l, e, h1⟩ s1 r1 => by
    rcases e with rfl | rfl
    · cases r1 with
      | lst e r => exact ⟨_, rfl, .inl ⟨⟨_, SqL.of (mk_some e).2⟩, q l _ H1 h1 s1 (itd_list c.K e r)⟩⟩
    · cases r1 with
      | tup e r => exact ⟨_, rfl, .inr ⟨⟨_, SqT.of (mk_some e).2⟩, q l _ H1 h1 s1 (itd_tup c.K e r)⟩⟩
      | tup0 h0 =>
        refine ⟨_, rfl, .inr ⟨⟨_, sqT_lift h0⟩, q _ _ H1 h1 s1 fun own' H' s al i => ?_⟩⟩
        exact ⟨fun hi => absurd hi (Nat.not_lt_zero _), fun hi => ⟨[], sqT_lift h0, Nat.zero_le _⟩, fun x H'' hi _ => absurd hi (Nat.not_lt_zero _)⟩
/-- x, y = e, f -/
theorem sx_par {i j : Nat} {ta : TA} (h : ExA c Γ ta fun ds => ∃ a b, ds = [a, b] ∧ P.nx ((Γ.set i (.val a)).set j (.val b))) : Sx c Γ (tPar i j ta) P := fun H0 own σ H E R e =>
  h H0 own σ H _ R fun ds vs H1 ⟨a, b, ed, z⟩ s1 r1 => by
    subst ed
    cases r1 with
    | cons ra r1 =>
      cases r1 with
      | cons rb r1 =>
        cases r1
        exact ⟨_, _, rfl, e.nx own _ _ _ (((R.stay s1).put ra i).put rb j) z⟩
end
end Tl
/-! ## K16y -/
set_option Elab.async false
set_option linter.all false
set_option maxRecDepth 100000
set_option maxHeartbeats 4000000
namespace K16
open PySem PySem.Spec PyProof.Rows L2 He Vx Tl

/-- a state, a call, an answer -/
def triE : TupE (Int × Str × Str) where
  enc := fun p => .tup [.int p.1, .str p.2.1, .str p.2.2]
  key := fun m => .tup [.num m.1, .text m.2.1, .text m.2.2]
  tup := fun m => ⟨_, _, rfl⟩
  hk := fun m => rfl
  kinj := fun a b h => by
    obtain ⟨a1, a2, a3⟩ := a
    obtain ⟨b1, b2, b3⟩ := b
    simp at h
    simp [h]
  dep := fun m => by simp [NestedKey.depth, NestedKey.depthAll]
  al := fun a b => by simp [D.py, D.pys, PySem.W.alike, PySem.W.alikeAll]
  inj := fun a b h => by
    obtain ⟨a1, a2, a3⟩ := a
    obtain ⟨b1, b2, b3⟩ := b
    simp [D.py, D.pys, PyData.eqv, PyData.eqvAll] at h
    simp [h]
  dt := fun m => rfl
  d20 := fun m => by simp [D.py, D.pys, PyData.depth, PyData.depthAll]
def tri (x : Mv) : Int × Str × Str := (x.a, x.c, x.z)
/-- is it sure -/
def sureB (s : List Int) (m : List Mv) : Bool := decide ((s.length : Int) = 1) && decide (((dd (m.map tri)).length : Int) = m.length)
def fSure : Fn := fun ds k => ∃ n s m, ds = [.box n s m] ∧ m.length < 63 ∧ k (.bl (sureB s m))
def fEq : Fn := fun ds k => ∃ n s m n' s' m', ds = [.box n s m, .box n' s' m'] ∧ OkB n s m ∧ OkB n' s' m' ∧ ∀ b : Bool, (b = true ↔ n = n' ∧ s = s' ∧ m = m') → k (.bl b)
def fOrder : Fn := fun ds k => ∃ (n : Int) (x : D) (o : List Int), ds = [.int n, x] ∧ isSeq x (o.map D.int) ∧ o.length = n.toNat ∧ 0 ≤ n ∧ n ≤ 100 ∧ o.Nodup ∧ (∀ i ∈ o, 0 ≤ i ∧ i < n) ∧ k (.bl true)
/-- the steps turned round -/
def mvT (x : Mv) : Mv := ⟨x.b, x.c, x.z, x.a⟩
theorem take_map {α β : Type} {g : α → β} {m : List α} {i : Nat} {x : α} (hx : m[i]? = some x) : (m.take (i + 1)).map g = (m.take i).map g ++ [g x] := by
  rw [List.take_succ, hx, List.map_append]
  rfl
theorem small_line {n : Nat} (h : n < 1000) : n < sizeLine := Nat.lt_of_lt_of_le h (by rw [sizeLine_eq]; decide)
/-- what isinstance asks of a box -/
structure BoxI (K : PySem.W.Frag) : Prop where
  si : SlX.SIsi K (ga K "Box")
  ki : PySem.W.kitOne K (.ref (ga K "Box")) (.ref (ga K "Box")) = some true
section
variable {P : Program} {w : World} {K : PySem.W.Frag} {mg : Str → Option Value} {base : Heap} {f : Addr} {fd : FuncData}
theorem ex_isBox {c : C1} {Γ : List Sl} {t : TE} {k : D → Prop} (cl : Cls c.K (ga c.K "Box")) (bi : BoxI c.K) (h : Ex c Γ t fun x => (∃ n s m, x = .box n s m) ∧ k (.bl true)) : Ex c Γ (tCB (rIsi c.K) (tCons t (tCons (tC (.ref (ga c.K "Box"))) tNil))) k := fun H0 own σ H Q R q =>
  h H0 own σ H _ R fun x v H1 ⟨⟨n, s, m, e⟩, z⟩ s1 r1 => by
    subst e
    obtain ⟨a, dx, p, q', rfl, ha, _, _⟩ := r1.box_of
    exact ⟨.ref a, .ref (ga c.K "Box"), .ref (ga c.K "Box"), .ref (ga c.K "Box"), true, rfl, .own _, .base (.ins ha cl bi.si.ca bi.si.cn bi.si.ct bi.si.cm), bi.ki, q _ _ H1 z s1 (.bl true)⟩
theorem ok_to (F : Fun K "steps_to" "Box.steps_to" s_Box_steps_to f fd) (T : BI mg) (CB : BoxC P w K mg base (ga K "Box")) (c_check_state : Co P w K mg base CX0 3 "check_state" ["states", "state"] (spD K fCState)) : FnOk P w K mg base CX0 4 f fd ["self", "state"] (spL K fTo) := by
  refine F.ok sc_Box_steps_to (fun vs H Q E h => len_L h fun ds k ⟨n, s, m, i, e, _⟩ => by rw [e]; rfl) (fun cdv A outer s H vs Q E hr h => ⟨_, (pss_cons (ps_expr (pe_co c_check_state (hr.mono (by decide)) (by rfl) (pa_cons (pe_fld (pv 0) rfl) (pa_cons (pv 1) pa_nil))))
  (pss_one (ps_ret (pe_lc (own := [("step", 2)]) (g := (gName 2)) (by rfl) sc_Box_steps_to.nd (pi_list (pe_fld (pv 0) rfl)) (blkOk_by (own := [("step", 2)]) (N := ["self", "state", "step"]) (sc := defScope s_Box_steps_to) (by decide +kernel)) (fun _ _ _ _ _ => (pg_name (i := 2) sc_Box_steps_to.nd rfl (Or.inl rfl))) (fun _ _ _ _ _ => pts_one (pt_cmpR op_eq (pe_ix (Tl.ix_tupK (K := K) rfl) (pv 2) pe_int (fun _ _ => rfl)) (pv 1) (nomark _))) (fun _ _ _ _ _ => (pv 2)))))), body_L (fun W ds k hf => ?_) h⟩)
  obtain ⟨n, s, m, i, rfl, h0, h1, hl, hk⟩ := hf
  refine sx_seq (sx_drop (ex_call (exa_cons (ex_fld CB.cls CB.n1 (ex_var rfl ⟨_, rfl, exa_cons (ex_var rfl (exa_nil ⟨n, i, rfl, h0, h1, ?_⟩))⟩)))))
  refine sx_retL (exl_lc (js := [2]) (by decide) (exi_list (ex_fld CB.cls CB.n3 (ex_var rfl ⟨_, rfl, _, rfl, by rw [List.length_map]; exact small_line hl, fun j acc => acc = ((m.take j).filter fun x => decide (x.b = i)).map mvD, rfl, fun j d acc hd pv => ?_, fun acc pv => ?_⟩))))
  · obtain ⟨x, hx, rfl⟩ := at_map hd
    obtain ⟨f1, f2⟩ := filt (p := fun x => decide (x.b = i)) rfl hx pv
    refine gx_name (ext_test (ex_op (ex_op (ex_var rfl (ex_int (od_ixT (d := .int x.b) rfl (ex_var rfl (od_eqi ⟨_, rfl, ?_⟩))))))))
    by_cases e : x.b = i
    · rw [decide_eq_true e, if_pos rfl]
      exact ex_var rfl (f1 (decide_eq_true e))
    · rw [decide_eq_false e, if_neg Bool.false_ne_true]
      exact f2 (decide_eq_false e)
  · rw [List.length_map, List.take_length] at pv
    rw [pv]
    exact hk
theorem ok_signs (F : Fun K "signs" "Box.signs" s_Box_signs f fd) (T : BI mg) (CB : BoxC P w K mg base (ga K "Box")) : FnOk P w K mg base CX0 1 f fd ["self"] (spL K fSigns) := by
  refine F.ok sc_Box_signs (fun vs H Q E h => len_L h fun ds k ⟨n, s, m, e, _⟩ => by rw [e]; rfl) (fun cdv A outer s H vs Q E hr h => ⟨_, (pss_one (ps_ret (pe_callB (cr_sortH rfl hr.units) (by rfl) T.sorted bt_sorted (pa_cons (pe_sc (tupSort _ _ _) hr.units (own := [("step", 1)]) (g := (gName 1)) (tt := tYes) (by rfl) sc_Box_signs.nd (pi_list (pe_fld (pv 0) rfl)) (blkOk_by (own := [("step", 1)]) (N := ["self", "step"]) (sc := defScope s_Box_signs) (by decide +kernel)) (fun _ _ _ _ _ => (pg_name (i := 1) sc_Box_signs.nd rfl (Or.inl rfl))) (fun _ _ _ _ _ => pts_nil) (fun _ _ _ _ _ => (pe_slice (Tl.sl_tupK (K := K) rfl) (pv 1) (po_some pe_int) (po_some pe_int)))) pa_nil)))), body_L (fun W ds k hf => ?_) h⟩)
  obtain ⟨n, s, m, rfl, hl, hk⟩ := hf
  refine sx_retL (exl_sortH sgE (exh_sc sgE (js := [1]) (by decide) (exi_list (ex_fld CB.cls CB.n3 (ex_var rfl ⟨_, rfl, _, rfl, by rw [List.length_map]; exact hl, fun j acc => acc = (m.take j).map sgM, rfl, fun j d acc hd pv => ?_, fun acc pv => ?_⟩)))))
  · obtain ⟨x, hx, rfl⟩ := at_map hd
    refine gx_name (ext_yes ?_)
    rw [if_pos rfl]
    refine ex_sl (ex_var rfl (exo_some (ex_int ⟨1, rfl, exo_some (ex_int ⟨3, rfl, sl_t (by simp only [List.length_cons, List.length_nil]; decide) ⟨sgM x, rfl, ?_⟩⟩)⟩)))
    rw [pv]
    exact (take_map hx).symm
  · rw [List.length_map, List.take_length] at pv
    rw [pv]
    exact hk
theorem ok_sure (F : Fun K "is_sure" "Box.is_sure" s_Box_is_sure f fd) (T : BI mg) (CB : BoxC P w K mg base (ga K "Box")) : FnOk P w K mg base CX0 1 f fd ["self"] (spD K fSure) := by
  refine F.ok sc_Box_is_sure (fun vs H Q E h => len_D h fun ds k ⟨n, s, m, e, _⟩ => by rw [e]; rfl) (fun cdv A outer s H vs Q E hr h => ⟨_, (pss_one (ps_ret (pe_and (pe_cmpR op_eq (pe_callB (Tl.call_lenKK (K := K) rfl) (by rfl) T.len PySem.boot_len (pa_cons (pe_fld (pv 0) rfl) pa_nil)) pe_int (nomark _)) (pe_one (pe_cmpR op_eq (pe_callB cr_lenH (by rfl) T.len PySem.boot_len (pa_cons (pe_sc (tupSort _ _ _) hr.units (own := [("step", 1)]) (g := (gName 1)) (tt := tYes) (by rfl) sc_Box_is_sure.nd (pi_list (pe_fld (pv 0) rfl)) (blkOk_by (own := [("step", 1)]) (N := ["self", "step"]) (sc := defScope s_Box_is_sure) (by decide +kernel)) (fun _ _ _ _ _ => (pg_name (i := 1) sc_Box_is_sure.nd rfl (Or.inl rfl))) (fun _ _ _ _ _ => pts_nil) (fun _ _ _ _ _ => (pe_slice (Tl.sl_tupK (K := K) rfl) (pv 1) po_none (po_some pe_int)))) pa_nil)) (pe_callB (Tl.call_lenKK (K := K) rfl) (by rfl) T.len PySem.boot_len (pa_cons (pe_fld (pv 0) rfl) pa_nil)) (nomark _)))))), body_D (fun W ds k hf => ?_) h⟩)
  obtain ⟨n, s, m, rfl, hl, hk⟩ := hf
  refine sx_ret (ex_and (ex_op (ex_cb (exa_cons (ex_fld CB.cls CB.n2 (ex_var rfl ⟨_, rfl, exa_nil (kd_len (l := s.map D.int) (.inl rfl) (ex_int (od_eqi ⟨_, rfl, ?_⟩)))⟩))))))
  rw [List.length_map]
  by_cases e : (s.length : Int) = 1
  · rw [decide_eq_true e, if_pos rfl]
    refine ex_op (ex_lenH triE (exh_sc triE (js := [1]) (by decide) (exi_list (ex_fld CB.cls CB.n3 (ex_var rfl ⟨_, rfl, _, rfl, by rw [List.length_map]; exact hl, fun j acc => acc = (m.take j).map tri, rfl, fun j d acc hd pv => ?_, fun acc pv => ?_⟩)))))
    · obtain ⟨x, hx, rfl⟩ := at_map hd
      refine gx_name (ext_yes ?_)
      rw [if_pos rfl]
      refine ex_sl (ex_var rfl (exo_none (exo_some (ex_int ⟨3, rfl, sl_t (by simp only [List.length_cons, List.length_nil]; decide) ⟨tri x, rfl, ?_⟩⟩))))
      rw [pv]
      exact (take_map hx).symm
    · rw [List.length_map, List.take_length] at pv
      rw [pv]
      refine ex_cb (exa_cons (ex_fld CB.cls CB.n3 (ex_var rfl ⟨_, rfl, exa_nil (kd_len (l := m.map mvD) (.inl rfl) (od_eqi ?_))⟩)))
      unfold sureB at hk
      rw [decide_eq_true e, Bool.true_and] at hk
      rw [List.length_map]
      exact hk
  · rw [decide_eq_false e, if_neg Bool.false_ne_true]
    unfold sureB at hk
    rw [decide_eq_false e, Bool.false_and] at hk
    exact hk
theorem ok_eq (F : Fun K "__eq__" "Box.__eq__" s_Box___eq__ f fd) (T : BI mg) (CB : BoxC P w K mg base (ga K "Box")) (bi : BoxI K) : FnOk P w K mg base CX0 1 f fd ["self", "other"] (spD K fEq) := by
  refine F.ok sc_Box___eq__ (fun vs H Q E h => len_D h fun ds k ⟨n, s, m, n', s', m', e, _⟩ => by rw [e]; rfl) (fun cdv A outer s H vs Q E hr h => ⟨_, (pss_one (ps_ret (pe_and (pe_callB call_isi (by rfl) T.isinstance bt_isinstance (pa_cons (pv 1) (pa_cons (pe_glob (v := .ref _) (by rfl) CB.hm rfl) pa_nil))) (pe_and (pe_cmpR op_eq (pe_fld (pv 0) rfl) (pe_fld (pv 1) rfl) (nomark _)) (pe_and (pe_cmpR (Tl.op_eqDK (K := K) rfl hr.units) (pe_fld (pv 0) rfl) (pe_fld (pv 1) rfl) (nomark _)) (pe_one (pe_cmpR (Tl.op_eqDK (K := K) rfl hr.units) (pe_fld (pv 0) rfl) (pe_fld (pv 1) rfl) (nomark _)))))))), body_D (fun W ds k hf => ?_) h⟩)
  obtain ⟨n, s, m, n', s', m', rfl, o1, o2, hk⟩ := hf
  refine sx_ret (ex_and (ex_isBox (c := ⟨K, none, W⟩) CB.cls bi (ex_var rfl ⟨⟨_, _, _, rfl⟩, _, rfl, ?_⟩)))
  rw [if_pos rfl]
  refine ex_and (ex_op (ex_fld CB.cls CB.n1 (ex_var rfl ⟨_, rfl, ex_fld CB.cls CB.n1 (ex_var rfl ⟨_, rfl, od_eqi ⟨_, rfl, ?_⟩⟩)⟩)))
  by_cases e : n = n'
  · rw [decide_eq_true e, if_pos rfl]
    refine ex_and (ex_op (ex_fld CB.cls CB.n2 (ex_var rfl ⟨_, rfl, ex_fld CB.cls CB.n2 (ex_var rfl ⟨_, rfl, od_eqD (pu_ints s) (pu_ints s') fun b hb => ⟨b, rfl, ?_⟩⟩)⟩)))
    cases b with
    | true =>
      rw [if_pos rfl]
      have es := ints_inj (by simpa using hb.mp rfl)
      refine ex_op (ex_fld CB.cls CB.n3 (ex_var rfl ⟨_, rfl, ex_fld CB.cls CB.n3 (ex_var rfl ⟨_, rfl, od_eqD (pu_mvs o1.mr) (pu_mvs o2.mr) fun b hb => hk b (hb.trans ⟨fun h => ⟨e, es, mvs_inj (by simpa using h)⟩, fun h => by rw [h.2.2]⟩)⟩)⟩))
    | false =>
      rw [if_neg Bool.false_ne_true]
      exact hk false ⟨fun h => absurd h Bool.false_ne_true, fun h => absurd (hb.mpr (by rw [h.2.1])) Bool.false_ne_true⟩
  · rw [decide_eq_false e, if_neg Bool.false_ne_true]
    exact hk false ⟨fun h => absurd h Bool.false_ne_true, fun h => absurd h.1 e⟩
theorem co_order (F : At K mg "is_order" s_is_order) (T : BI mg) (c_is_list : Co P w K mg base CX0 1 "is_list" ["value"] (spD K fList)) (c_is_state : Co P w K mg base CX0 2 "is_state" ["states", "value"] (spD K fState)) (c_first_wrong : Co P w K mg base CX0 1 "first_wrong" ["values", "right"] (spD K fFW)) :
    Co P w K mg base CX0 3 "is_order" ["states", "value"] (spD K fOrder) := by
  refine co_mk F sc_is_order (fun vs H Q E h => len_D h fun ds k ⟨n, x, o, e, _⟩ => by rw [e]; rfl) (fun _ _ _ _ _ _ us hl => match us, hl with | [_, _], _ => rfl) (fun f cdv A outer s H vs Q E hr h => ⟨_, (pss_cons (ps_if (PW.pt (pw_or (pt_not (pt_val (pe_co c_is_list (hr.mono (by decide)) (by rfl) (pa_cons (pv 1) pa_nil)))) (pw_or1 (pt_cmpR op_ne (pe_callB (Tl.call_lenKK (K := K) rfl) (by rfl) T.len PySem.boot_len (pa_cons (pv 1) pa_nil)) (pv 0) (nomark _))))) (pss_one (ps_ret pe_bl)) pss_nil)
  (pss_one (ps_ret (pe_cmpR op_isN (pe_co c_first_wrong (hr.mono (by decide)) (by rfl) (pa_cons (pv 1) (pa_cons (pe_lc (own := [("state", 2)]) (g := (gName 2)) (tt := tYes) (by rfl) sc_is_order.nd (pi_seqK (K := K) rfl (pv 1)) (blkOk_by (own := [("state", 2)]) (N := ["states", "value", "state"]) (sc := defScope s_is_order) (by decide +kernel)) (fun _ _ _ _ _ => (pg_name (i := 2) sc_is_order.nd rfl (Or.inl rfl))) (fun _ _ _ _ _ => pts_nil) (fun _ _ _ _ _ => (pe_co c_is_state (hr.mono (by decide)) (by rfl) (pa_cons (pv 0) (pa_cons (pv 2) pa_nil))))) pa_nil))) pe_non (nomark _))))), body_D (fun W ds k hf => ?_) h⟩)
  obtain ⟨n, x, o, rfl, hs, ol, n0, n1, nd, rg, hk⟩ := hf
  have o100 : o.length ≤ 100 := by omega
  refine sx_seq (sx_if (ext_or (ext_not (ext_b (ex_call (exa_cons (ex_var rfl (exa_nil ⟨x, o, rfl, hs, o100, _, rfl, ?_⟩))))))))
  show ExT _ _ _ _
  refine ext_test (ex_op (ex_cb (exa_cons (ex_var rfl (exa_nil (kd_len (l := o.map D.int) hs (ex_var rfl (od_nei ⟨_, rfl, ?_⟩))))))))
  rw [List.length_map, decide_eq_true (by omega : (o.length : Int) = n)]
  refine sx_next ?_
  refine sx_ret (ex_op (ex_call (exa_cons (ex_var rfl (exa_cons (ex_L (exl_lc (js := [2]) (by decide) (exi_seq (ex_var rfl ⟨o.map D.int, hs, by rw [List.length_map]; exact small_line (by omega), fun j acc => acc = (o.take j).map fun _ => .bl true, rfl, fun j d acc hd pv => ?_, fun acc pv => ?_⟩)))))))))
  · obtain ⟨i, hi, rfl⟩ := at_map hd
    refine gx_name (ext_yes ?_)
    rw [if_pos rfl]
    refine ex_call (exa_cons (ex_var rfl (exa_cons (ex_var rfl (exa_nil ⟨n, i, rfl, ?_⟩)))))
    have r := rg i (List.mem_of_getElem? hi)
    rw [decide_eq_true r.1, decide_eq_true r.2, pv]
    exact (take_map (g := fun _ => D.bl true) hi).symm
  · rw [List.length_map, List.take_length] at pv
    rw [pv]
    exact exa_nil ⟨x, o, rfl, hs, o100, nd, ex_non (od_isN hk)⟩
end
end K16
/-! ## T18 -/
set_option Elab.async false
set_option linter.all false
set_option maxRecDepth 100000
set_option maxHeartbeats 4000000
namespace Tl
open PySem PySem.Spec PyProof.Rows L2 He Vx
section
variable {c : C1} {Γ : List Sl} {t : TE} {P : Post}
/-- {} -/
theorem exk_new {k : List L2.Key → List D → Prop} (h : k [] []) : ExK c Γ tDNewK k := fun H0 own σ H Q E q p hp => q [] [] p [] _ h (E.b.made hp) hp upd_same rfl .nil
/-- x = {}, the keys tuples -/
theorem sx_newT {i : Nat} (h : P.nx (Γ.set i (.ownT [] []))) : Sx c Γ (tAsg tDNewT (gName i)) P := fun H0 own σ H E R e p hp => by
  have hb := R.b.hold (o := .dT []) hp
  have R1 := R.hold (o := .dT []) hp
  obtain ⟨nw, no, n0⟩ := R.b.free hp
  have R2 : EnvR c H0 (p :: own) (upd H p (.dT [])) (σ.set i (some (.ref p))) (Γ.set i (.ownT [] [])) := by
    refine ⟨hb, by rw [List.length_set, List.length_set, R.len], fun j s o h1 h2 => ?_, fun j k s t x h1 h2 s1 s2 h3 h4 => ?_⟩
    · by_cases e1 : i = j
      · subst e1
        have l1 : i < Γ.length := by
          have q := (List.getElem?_eq_some_iff.mp h1).1
          rwa [List.length_set] at q
        rw [List.getElem?_set_self l1] at h1
        rw [List.getElem?_set_self (by rw [R.len]; exact l1)] at h2
        cases h1
        cases h2
        exact ⟨p, [], rfl, List.mem_cons_self .., upd_same, rfl, .nil⟩
      · rw [List.getElem?_set_ne e1] at h1 h2
        exact R1.sl j s o h1 h2
    · have old : ∀ {j : Nat} {s' : Sl} {x : Addr}, i ≠ j → (Γ.set i (.ownT [] []))[j]? = some s' → s'.isOwn = true → (σ.set i (some (.ref p)))[j]? = some (some (V.ref x)) → x ≠ p := fun {j s' x} n g1 g2 g3 z => by
        rw [List.getElem?_set_ne n] at g1 g3
        have q := R.sl j s' _ g1 g3
        cases s' with
        | own l =>
          obtain ⟨y, _, e, hy, _⟩ := q
          cases e
          exact no (z ▸ hy)
        | ownK ks l =>
          obtain ⟨y, _, e, hy, _⟩ := q
          cases e
          exact no (z ▸ hy)
        | ownT ks l =>
          obtain ⟨y, _, e, hy, _⟩ := q
          cases e
          exact no (z ▸ hy)
        | _ => cases g2
      by_cases n1 : i = j
      · by_cases n2 : i = k
        · exact n1.symm.trans n2
        · subst n1
          have l1 : i < σ.length := by
            have q := (List.getElem?_eq_some_iff.mp h3).1
            rwa [List.length_set] at q
          have h3' := h3
          rw [List.getElem?_set_self l1] at h3'
          cases h3'
          exact absurd rfl (old n2 h2 s2 h4)
      · by_cases n2 : i = k
        · subst n2
          have l1 : i < σ.length := by
            have q := (List.getElem?_eq_some_iff.mp h4).1
            rwa [List.length_set] at q
          have h4' := h4
          rw [List.getElem?_set_self l1] at h4'
          cases h4'
          exact absurd rfl (old n1 h1 s1 h3)
        · rw [List.getElem?_set_ne n1] at h1 h3
          rw [List.getElem?_set_ne n2] at h2 h4
          exact R.inj j k s t x h1 h2 s1 s2 h3 h4
  exact e.nx _ _ _ _ R2 h
theorem set_id {α : Type} {l : List α} {i : Nat} {x : α} (h : l[i]? = some x) : l.set i x = l := by
  refine List.ext_getElem? fun j => ?_
  by_cases e : i = j
  · subst e
    rw [List.getElem?_set_self (List.getElem?_eq_some_iff.mp h).1, h]
  · rw [List.getElem?_set_ne e]
/-- for ..: d.setdefault(k, []).append(v), d the new dict of a slot -/
theorem sx_groupK {wi : TI} {g : TG} {tb : TS} {js : List Nat} {i : Nat} (hi : i ∉ js) (hΓ : Γ[i]? = some (.ownK [] [])) (noΓ : ∀ s ∈ Γ.set i .un, s.isOwn = false)
    (h : ExI c (Γ.set i .un) wi fun l => l.length < sizeLine ∧ ∃ (f : D → Option (L2.Key × D)) (Iv : List Sl → Prop), Iv (Γ.set i .un) ∧ (∀ d ∈ l, ∀ Γ', Iv Γ' → GxD c Γ' g js d fun Γ2 => Iv Γ2 ∧ Turn HO.dK c Γ2 i tb (f d)) ∧ (∀ Γ', Iv Γ' → (∀ s ∈ Γ', s.isOwn = false) ∧ Γ'[i]? = some .un) ∧
      ∀ Γ', Iv Γ' → P.nx (Γ'.set i (.val (.dK (l.foldl (fun st d => grpS st (f d)) ([], [])).1 ((l.foldl (fun st d => grpS st (f d)) ([], [])).2.map D.lst))))) : Sx c Γ (tFor wi g tb) P := fun H0 own σ H E R e => by
  obtain ⟨o, es, a, kvs, rfl, ha, hx, hk, r⟩ := R.at_ hΓ
  cases kvs with
  | nil =>
    have R1 := R.drop i (some (V.ref a))
    rw [set_id es] at R1
    exact grp_for (ho := HO.dK) (mk := D.dK) (fun h r => .dK h r) hi noΓ h R1 e es ha hx
  | cons _ _ => cases hk
theorem sx_groupT {wi : TI} {g : TG} {tb : TS} {js : List Nat} {i : Nat} (hi : i ∉ js) (hΓ : Γ[i]? = some (.ownT [] [])) (noΓ : ∀ s ∈ Γ.set i .un, s.isOwn = false)
    (h : ExI c (Γ.set i .un) wi fun l => l.length < sizeLine ∧ ∃ (f : D → Option (List L2.Key × D)) (Iv : List Sl → Prop), Iv (Γ.set i .un) ∧ (∀ d ∈ l, ∀ Γ', Iv Γ' → GxD c Γ' g js d fun Γ2 => Iv Γ2 ∧ Turn HO.dT c Γ2 i tb (f d)) ∧ (∀ Γ', Iv Γ' → (∀ s ∈ Γ', s.isOwn = false) ∧ Γ'[i]? = some .un) ∧
      ∀ Γ', Iv Γ' → P.nx (Γ'.set i (.val (.dT (l.foldl (fun st d => grpS st (f d)) ([], [])).1 ((l.foldl (fun st d => grpS st (f d)) ([], [])).2.map D.lst))))) : Sx c Γ (tFor wi g tb) P := fun H0 own σ H E R e => by
  obtain ⟨o, es, a, kvs, rfl, ha, hx, hk, r⟩ := R.at_ hΓ
  cases kvs with
  | nil =>
    have R1 := R.drop i (some (V.ref a))
    rw [set_id es] at R1
    exact grp_for (ho := HO.dT) (mk := D.dT) (fun h r => .dT h r) hi noΓ h R1 e es ha hx
  | cons _ _ => cases hk
/-- something new is held from now on -/
theorem EnvR.later {H0 H H' : Hp} {own : List Addr} {σ : L2.St} {a : Addr} (R : EnvR c H0 own H σ Γ) (n : H a = none) (st : Stay c H H') (h : H' a ≠ none) : EnvR c H0 (a :: own) H' σ Γ := by
  have b' := R.b.stay st
  obtain ⟨nw, no, n0⟩ := R.b.free n
  refine ⟨⟨b'.pot, b'.pw, b'.wf, b'.keep, fun x hx => (List.mem_cons.mp hx).elim (fun y => y ▸ n0) (b'.fresh x), fun x hx => (List.mem_cons.mp hx).elim (fun y => by rw [y]; exact h) (b'.here x)⟩, R.len, fun j s o h1 h2 => (R.sl j s o h1 h2).mv (fun x u e => ?_) fun x _ _ hx => ⟨List.mem_cons_of_mem _ hx, fun u e => R.b.at_ st hx e⟩, R.inj⟩
  obtain ⟨nx, e⟩ := mk_some e
  have ne := ne_of_none e n
  have q := st.ms R.b.pw own x u (by rw [mk_out nx]; exact e)
  rw [mk_out fun z => ?_]
  · exact (mk_some q).2
  · rcases List.mem_append.mp z with z | z
    · exact nx (List.mem_append_left _ z)
    · rcases List.mem_cons.mp z with z | z
      · exact ne z
      · exact nx (List.mem_append_right _ z)
theorem no_of {Γ : List Sl} (h : (Γ.all fun s => !s.isOwn) = true) : ∀ s ∈ Γ, s.isOwn = false := fun s hs => by
  have q := List.all_eq_true.mp h s hs
  cases e : s.isOwn with
  | false => rfl
  | true => rw [e] at q; cases q
theorem asg_at {te : TE} {g : TG} {E : Ends} {σ : L2.St} {H : Hp} (h : te σ H fun x H1 => g x σ H1 E.nx) : tAsg te g E σ H := h
theorem seq_at {t u : TS} {E : Ends} {σ : L2.St} {H : Hp} (h : t { E with nx := u E } σ H) : tSeq t u E σ H := h
end
end Tl
/-! ## K16z -/
set_option Elab.async false
set_option linter.all false
set_option maxRecDepth 100000
set_option maxHeartbeats 4000000
namespace K16
open PySem PySem.Spec PyProof.Rows L2 He Vx Tl

/-- Box(..), by place -/
structure MkB (P : Program) (w : World) (K : PySem.W.Frag) (mg : Str → Option Value) (base : Heap) : Prop where
  hm : mg "Box" = some (.ref (ga K "Box"))
  ex : ∃ (f : Addr) (fd : FuncData) (e0 : Addr) (d0 : Value), Mk K (ga K "Box") f ∧ FnOk P w K mg base CX0 6 f fd ["self", "states", "starts", "steps"] (spI K fInit) ∧ Binds K fd ["self", "states", "starts", "steps"] [] ∧ Vals [V.ref e0] [d0] ∧ Binds K fd ["self", "states", "starts", "steps"] [d0] ∧ SqT K (fun _ => none) e0 []
abbrev Gst := List L2.Key × List (List D)
/-- the ends of the steps -/
def endG (m : List Mv) : Gst := m.foldl (fun st x => grpS st (some (.inl x.a, .int x.b))) ([], [])
def fEnds : Fn := fun ds k => ∃ m : List Mv, ds = [.lst (m.map mvD)] ∧ m.length < 1000 ∧ k (.dK (endG m).1 ((endG m).2.map D.lst))
def endF : D → Option (L2.Key × D)
  | .tup [.int a, _, _, b] => some (.inl a, b)
  | _ => none
def fMade : FnB := fun ds k => ∃ (n : Int) (s : List Int) (m : List Mv), ds = [.int n, .lst (s.map D.int), .lst (m.map mvD)] ∧ s.length < 64 ∧ m.length < 64 ∧ k n (sI s) (mvE.srt m)
/-- what stands at each sign of the steps from i -/
def itemG (i : Int) (m : List Mv) : List (List L2.Key) × List (List D) := m.foldl (fun st x => grpS st (if x.a = i then some ([.inr x.c, .inr x.z], .int x.b) else none)) ([], [])
def itemF (i : Int) : D → Option (List L2.Key × D)
  | .tup [.int a, .str c, .str z, b] => if a = i then some ([.inr c, .inr z], b) else none
  | _ => none
def fItem : Fn := fun ds k => ∃ n s m i, ds = [.box n s m, .int i] ∧ 0 ≤ i ∧ i < n ∧ m.length < 1000 ∧ k (.dT (itemG i m).1 ((itemG i m).2.map D.lst))
def fWith : FnB := fun ds k => ∃ n s m s', ds = [.box n s m, .lst (s'.map D.int)] ∧ OkB n s' m ∧ s'.length < 64 ∧ m.length < 64 ∧ k n (sI s') (mvE.srt m)
def fTurned : FnB := fun ds k => ∃ n s m, ds = [.box n s m] ∧ OkB n s m ∧ n < 64 ∧ m.length < 64 ∧ k n (sI (rgI n)) (mvE.srt (m.map mvT))
section
variable {P : Program} {w : World} {K : PySem.W.Frag} {mg : Str → Option Value} {base : Heap} {f : Addr} {fd : FuncData}
theorem co_ends_of (F : At K mg "ends_of" s_ends_of) (T : BI mg) : Co P w K mg base CX0 1 "ends_of" ["links"] (spD K fEnds) := by
  refine co_mk F sc_ends_of (fun vs H Q E h => len_D h fun ds k ⟨m, e, _⟩ => by rw [e]; rfl) (fun _ _ _ _ _ _ us hl => match us, hl with | [_], _ => rfl) (fun f cdv A outer s H vs Q E hr h => ⟨_, (pss_cons (ps_set (i := 1) sc_ends_of.nd rfl (Or.inl rfl) pe_dnewK)
  (pss_cons (ps_for PassesOwn.never rfl (pi_list (pv 0)) (pg_name (i := 2) sc_ends_of.nd rfl (Or.inl rfl)) (pss_one (ps_expr (pe_bm PySem.F.plainAttrs_list PySem.F.slot_list_append PySem.F.type_list_append mt_append (pe_dsetd (pv 1) (pe_ix (Tl.ix_tupK (K := K) rfl) (pv 2) pe_int (fun _ _ => rfl)) (pe_lst pa_nil) ⟨rfl, rfl, rfl, rfl⟩) (pa_cons (pe_ix (Tl.ix_tupK (K := K) rfl) (pv 2) (pe_un un_neg pe_int) (fun _ _ => rfl)) pa_nil)))))
  (pss_one (ps_ret (pv 1))))), body_D (fun W ds k hf => ?_) h⟩)
  obtain ⟨m, rfl, hl, hk⟩ := hf
  refine sx_seq (sx_setK (exk_new ?_))
  refine sx_seq (sx_groupK (i := 1) (js := [2]) (by decide) rfl (no_of rfl) (exi_list (ex_var rfl ⟨_, rfl, by rw [List.length_map]; exact small_line hl, endF, fun Γ' => Γ' = [.val (.lst (m.map mvD)), .un, .un] ∨ ∃ d, Γ' = [.val (.lst (m.map mvD)), .un, .val d], .inl rfl, fun d hd Γ' iv => ?_, fun Γ' iv => ?_, fun Γ' iv => ?_⟩)))
  · obtain ⟨x, hx, rfl⟩ := List.mem_map.mp hd
    rcases iv with rfl | ⟨d, rfl⟩ <;>
    exact gx_name ⟨.inr ⟨_, rfl⟩, turn_K (q := .inl x.a) (z := .int x.b) (no_of rfl) (ex_op (ex_var rfl (ex_int (od_ixT (d := .int x.a) rfl ⟨rfl, ex_op (ex_var rfl (ex_neg (i := 1) (od_ixT (l := [.int x.a, .str x.c, .str x.z, .int x.b]) (d := .int x.b) rfl rfl)))⟩))))⟩
  · rcases iv with rfl | ⟨d, rfl⟩
    · exact ⟨no_of rfl, rfl⟩
    · exact ⟨no_of rfl, rfl⟩
  · have e : ((m.map mvD).foldl (fun st d => grpS st (endF d)) ([], [])) = endG m := by
      rw [List.foldl_map]
      rfl
    rw [e]
    rcases iv with rfl | ⟨d, rfl⟩
    · exact sx_ret (ex_var rfl hk)
    · exact sx_ret (ex_var rfl hk)
theorem co_made_box (F : At K mg "made_box" s_made_box) (T : BI mg) (CB : BoxC P w K mg base (ga K "Box")) (MB : MkB P w K mg base) : Co P w K mg base CX0 8 "made_box" ["states", "starts", "steps"] (spB K fMade) := by
  obtain ⟨f0, fd0, e0, d0, mk0, fn0, b3, v2, b2, em⟩ := MB.ex
  refine co_mk F sc_made_box (fun vs H Q E h => len_B h fun ds k ⟨n, s, m, e, _⟩ => by rw [e]; rfl) (fun _ _ _ _ _ _ us hl => match us, hl with | [_, _, _], _ => rfl) (fun f cdv A outer s H vs Q E hr h => ⟨_, (pss_cons (ps_set (i := 3) sc_made_box.nd rfl (Or.inl rfl) (L2.pe_make mk0 fn0 (hr.mono (by decide)) (by rfl) MB.hm b2 v2 pass0 (pa_cons pe_int (pa_cons (pe_lst (pa_cons pe_int pa_nil)) pa_nil))))
  (pss_cons (ps_fld (pv 3) (pv 0) rfl)
  (pss_cons (ps_fld (pv 3) (pe_callB (cr_sortedSet rfl) (by rfl) T.sorted bt_sorted (pa_cons (pe_callTy (cr_setL rfl) (by rfl) T.set bt_set (pa_cons (pv 1) pa_nil)) pa_nil)) rfl)
  (pss_cons (ps_fld (pv 3) (pe_callB (cr_sortH rfl hr.units) (by rfl) T.sorted bt_sorted (pa_cons (pe_callTy (cr_setT rfl hr.units) (by rfl) T.set bt_set (pa_cons (pv 2) pa_nil)) pa_nil)) rfl)
  (pss_one (ps_ret (pv 3))))))), ?_⟩)
  obtain ⟨W, ds, k, hW, r, ⟨n, s, m, rfl, s64, m64, hk⟩, q⟩ := h
  have R0 : EnvR ⟨K, none, W⟩ H [] H (L2.start ["states", "starts", "steps", "box"] vs) (valG 4 [.int n, .lst (s.map D.int), .lst (m.map mvD)]) := start_env (N := ["states", "starts", "steps", "box"]) (W := W) (own := []) (body_base hW) rfl r
  have p0 : ExB ⟨K, none, W⟩ (valG 4 [.int n, .lst (s.map D.int), .lst (m.map mvD)]) (tMake (ga K "Box") (spI K fInit) [V.ref e0] E0 (tCons (tC (.int 1)) (tCons (tLst (tCons (tC (.int 0)) tNil)) tNil))) fun _ _ _ => True :=
    exb_make (c := ⟨K, none, W⟩) (dds := [.tup []]) (fun H => .cons (.tup0 em) .nil) (exa_cons (ex_int (exa_cons (ex_L (exl_lst (exa_cons (ex_int (exa_nil ⟨by show 1 ≤ sizeLine; decide, exa_nil ⟨1, [0], [], .lst [.int 0], .tup [], rfl, .inl rfl, .inr rfl, ⟨by decide, by decide, by decide, fun i hi => by cases List.mem_singleton.mp hi; decide, List.nodup_nil, fun _ h => (nomatch h)⟩, by decide, by decide, by decide, trivial⟩⟩))))))))
  refine seq_at (asg_at (p0 _ _ _ _ _ R0 fun n' s' m' a dx pp qq H1 _ st1 n1 n2 na ea _ _ => ?_))
  have R1 := (R0.later na st1 (by rw [ea]; exact fun z => by cases z)).drop 3 (some (V.ref a))
  have no : ∀ x ∈ (valG 4 [.int n, .lst (s.map D.int), .lst (m.map mvD)]).set 3 Sl.un, x.isOwn = false := no_of rfl
  have oo : a ∈ [a] := List.mem_cons_self ..
  have pe : (C1.mk K none W).P = [] := rfl
  refine seq_at ?_
  show (sFld K (tVar 3) (tVar 0) "_states") _ ((L2.start ["states", "starts", "steps", "box"] vs).set 3 (some (.ref a))) H1
  generalize hσ : (L2.start ["states", "starts", "steps", "box"] vs).set 3 (some (V.ref a)) = σ at R1 ⊢
  generalize hΓ : (valG 4 [.int n, .lst (s.map D.int), .lst (m.map mvD)]).set 3 Sl.un = Γ at R1 no
  have sb : σ[3]? = some (some (V.ref a)) := by
    rw [← hσ]
    refine List.getElem?_set_self ?_
    unfold L2.start
    rw [List.length_append, List.length_map, List.length_replicate, r.len]
    show 3 < 3 + (4 - 3)
    decide
  have g0 : Γ[0]? = some (.val (.int n)) := by rw [← hΓ]; rfl
  have g1 : Γ[1]? = some (.val (.lst (s.map D.int))) := by rw [← hΓ]; rfl
  have g2 : Γ[2]? = some (.val (.lst (m.map mvD))) := by rw [← hΓ]; rfl
  have f0 : Ex ⟨K, none, W⟩ Γ (tVar 0) fun d => d = .int n := ex_var g0 rfl
  refine f0 _ _ _ _ _ R1 fun d v H2 ed s2 rv => ?_
  subst ed
  cases rv
  have R2 := R1.stay s2
  have o2 := R1.b.at_ s2 oo ea
  refine ⟨_, sb, a, _, dx, _, rfl, o2, CB.cls, CB.n1, by show 3 < 1000; decide, ?_⟩
  rw [show putF "_states" (V.int n) (bxF n' pp qq) = bxF n pp qq from rfl]
  refine seq_at ?_
  have R3 := R2.wr (o := .ins (ga K "Box") dx (bxF n pp qq)) oo no
  have o3 := upd_same (H := H2) (a := a) (o := .ins (ga K "Box") dx (bxF n pp qq))
  generalize upd H2 a (.ins (ga K "Box") dx (bxF n pp qq)) = H3 at R3 o3 ⊢
  have p3 : ExL ⟨K, none, W⟩ Γ (tCB (rSortedSet w) (tCons (tCB (rSetL K w) (tCons (tVar 1) tNil)) tNil)) fun l => l = (sI s).map D.int := exl_ssI (c := ⟨K, none, W⟩) (ex_var g1 ⟨s, rfl, s64, rfl⟩)
  refine p3 _ _ _ _ _ R3 fun l3 p xs3 H4 e3 s4 n4 e4 r4 => ?_
  subst e3
  have o4 := R3.b.at_ s4 oo o3
  have d4 := newL R3.b n4 e4 r4
  have R4 := R3.stay s4
  refine ⟨_, sb, a, _, dx, _, rfl, o4, CB.cls, CB.n2, by show 3 < 1000; decide, ?_⟩
  rw [show putF "_starts" (V.ref p) (bxF n pp qq) = bxF n p qq from rfl]
  have R5 := R4.wr (o := .ins (ga K "Box") dx (bxF n p qq)) oo no
  have d5 := d4.mono (Base.wsame (c := ⟨K, none, W⟩) (o := .ins (ga K "Box") dx (bxF n p qq)) oo)
  have o5 := upd_same (H := H4) (a := a) (o := .ins (ga K "Box") dx (bxF n p qq))
  generalize upd H4 a (.ins (ga K "Box") dx (bxF n p qq)) = H5 at R5 d5 o5 ⊢
  have p4 : ExL ⟨K, none, W⟩ Γ (tCB (rSortH K w) (tCons (tCB (rSetT K w) (tCons (tVar 2) tNil)) tNil)) fun l => l = (mvE.srt m).map mvD := exl_ssT (c := ⟨K, none, W⟩) mvE (ex_var g2 ⟨m, rfl, m64, rfl⟩)
  refine p4 _ _ _ _ _ R5 fun l6 q' xs6 H6 e6 s6 n6' e6' r6 => ?_
  subst e6
  have o6 := R5.b.at_ s6 oo o5
  have d6 := newL R5.b n6' e6' r6
  have R6 := R5.stay s6
  refine ⟨_, sb, a, _, dx, _, rfl, o6, CB.cls, CB.n3, by show 3 < 1000; decide, ?_⟩
  rw [show putF "_steps" (V.ref q') (bxF n p qq) = bxF n p q' from rfl]
  have R7 := R6.wr (o := .ins (ga K "Box") dx (bxF n p q')) oo no
  have ws := Base.wsame (c := ⟨K, none, W⟩) (H := H6) (o := .ins (ga K "Box") dx (bxF n p q')) oo
  have fr : ∀ {H' : Hp} {x : Addr}, Base ⟨K, none, W⟩ H [a] H' → H' x = none → H x = none := fun b z => (b.free z).2.2
  have less : ∀ x ∈ W, x ∈ W ++ [a] := fun x hx => List.mem_append_left _ hx
  exact ⟨_, sb, q n (sI s) (mvE.srt m) a dx p q' _ hk (body_same R7.b) (fr R3.b n4) (fr R5.b n6') na upd_same (((d5.mono (s6.ms R5.b.pw [a])).mono ws).mono (mk_sub less)) ((d6.mono ws).mono (mk_sub less))⟩
end
end K16
/-! ## K16A -/
set_option Elab.async false
set_option linter.all false
set_option maxRecDepth 100000
set_option maxHeartbeats 4000000
namespace K16
open PySem PySem.Spec PyProof.Rows L2 He Vx Tl

/-- the place in the order -/
def idx (o : List Int) (i : Int) : Int := (o.idxOf i : Nat)
theorem idx_lt {o : List Int} {i : Int} (h : i ∈ o) : 0 ≤ idx o i ∧ idx o i < o.length := by
  have := List.idxOf_lt_length_iff.mpr h
  unfold idx
  omega
theorem idx_at {o : List Int} {i : Int} (h : i ∈ o) : o[o.idxOf i]? = some i := by
  have l := List.idxOf_lt_length_iff.mpr h
  rw [List.getElem?_eq_getElem l, List.getElem_idxOf]
theorem idx_inj {o : List Int} {i j : Int} (hi : i ∈ o) (hj : j ∈ o) (e : idx o i = idx o j) : i = j := by
  have e' : o.idxOf i = o.idxOf j := by
    unfold idx at e
    omega
  have a := idx_at hi
  rw [e', idx_at hj] at a
  exact (Option.some.inj a).symm
def ren (o : List Int) (x : Mv) : Mv := ⟨idx o x.a, x.c, x.z, idx o x.b⟩
theorem nodup_cover {l m : List Int} (nl : l.Nodup) (nm : m.Nodup) (sub : ∀ x ∈ l, x ∈ m) (le : m.length ≤ l.length) : ∀ x ∈ m, x ∈ l := fun x hx => by
  by_cases h : x ∈ l
  · exact h
  · have q := List.Nodup.length_le_of_subset (l₁ := x :: l) (l₂ := m) (List.nodup_cons.mpr ⟨h, nl⟩) (fun y hy => (List.mem_cons.mp hy).elim (fun e => e ▸ hx) (sub y))
    rw [List.length_cons] at q
    omega
/-- an order of the states -/
structure Ord (n : Int) (o : List Int) : Prop where
  len : o.length = n.toNat
  nd : o.Nodup
  rg : ∀ i ∈ o, 0 ≤ i ∧ i < n
theorem Ord.all {n : Int} {o : List Int} (h : Ord n o) {i : Int} (h0 : 0 ≤ i) (h1 : i < n) : i ∈ o :=
  nodup_cover h.nd (rgI_nodup n) (fun x hx => mem_rgI.mpr (h.rg x hx)) (by rw [rgI_len, h.len]; exact Nat.le_refl _) i (mem_rgI.mpr ⟨h0, h1⟩)
def fRenum : FnB := fun ds k => ∃ (n : Int) (s : List Int) (m : List Mv) (x : D) (o : List Int), ds = [.box n s m, x] ∧ isSeq x (o.map D.int) ∧ o.Nodup ∧ (∀ i ∈ s, i ∈ o) ∧ (∀ y ∈ m, y.a ∈ o → y.b ∈ o) ∧ o.length < 64 ∧ s.length < 64 ∧ m.length < 64 ∧
  k o.length (sI (s.map (idx o))) (mvE.srt ((m.filter fun y => decide (y.a ∈ o)).map (ren o)))
def fNumb : FnB := fun ds k => ∃ (n : Int) (s : List Int) (m : List Mv) (x : D) (o : List Int), ds = [.box n s m, x] ∧ isSeq x (o.map D.int) ∧ Ord n o ∧ OkB n s m ∧ n < 64 ∧ s.length < 64 ∧ m.length < 64 ∧ k n (sI (s.map (idx o))) (mvE.srt (m.map (ren o)))
section
variable {P : Program} {w : World} {K : PySem.W.Frag} {mg : Str → Option Value} {base : Heap} {f : Addr} {fd : FuncData}
theorem co_starts (C : Co P w K mg base (L2.CX P w) 3 "check_starts" ["states", "starts"] (spStarts K)) : Co P w K mg base CX0 3 "check_starts" ["states", "starts"] (spD K fCStarts) := co_pure C fun vs H Q E ⟨W, ds, k, hW, r, ⟨n, x, s, m, e, hs, ok, l, hk⟩, q⟩ => by
  subst e
  obtain ⟨v, u, rfl, r1, r2⟩ := drs2 r
  cases r1
  have e0 : startsD n x.py = none := by
    rcases hs with e | e
    · rw [e]
      show startsL n (D.pys (s.map D.int)) = none
      rw [pys_ints]
      exact startsL_ok ok
    · rw [e]
      show startsL n (D.pys (s.map D.int)) = none
      rw [pys_ints]
      exact startsL_ok ok
  exact ⟨n, u, x.py, rfl, da_ints hs r2, (ok_ints hs l).1, fun _ H' s' => q _ _ H' hk s' .non, fun o eo => by rw [e0] at eo; cases eo⟩
theorem ok_with (F : Fun K "with_starts" "Box.with_starts" s_Box_with_starts f fd) (T : BI mg) (CB : BoxC P w K mg base (ga K "Box")) (c_check_starts : Co P w K mg base CX0 3 "check_starts" ["states", "starts"] (spD K fCStarts)) (c_made_box : Co P w K mg base CX0 8 "made_box" ["states", "starts", "steps"] (spB K fMade)) :
    FnOk P w K mg base CX0 9 f fd ["self", "starts"] (spB K fWith) := by
  refine F.ok sc_Box_with_starts (fun vs H Q E h => len_B h fun ds k ⟨n, s, m, s', e, _⟩ => by rw [e]; rfl) (fun cdv A outer s H vs Q E hr h => ⟨_, (pss_cons (ps_expr (pe_co c_check_starts (hr.mono (by decide)) (by rfl) (pa_cons (pe_fld (pv 0) rfl) (pa_cons (pv 1) pa_nil))))
  (pss_one (ps_ret (pe_co c_made_box (hr.mono (by decide)) (by rfl) (pa_cons (pe_fld (pv 0) rfl) (pa_cons (pv 1) (pa_cons (pe_fld (pv 0) rfl) pa_nil))))))), body_B (fun W ds k hf => ?_) h⟩)
  obtain ⟨n, s, m, s', rfl, ok, l1, l2, hk⟩ := hf
  refine sx_seq (sx_drop (ex_call (exa_cons (ex_fld CB.cls CB.n1 (ex_var rfl ⟨_, rfl, exa_cons (ex_var rfl (exa_nil ⟨n, _, s', m, rfl, .inl rfl, ok, by omega, ?_⟩))⟩)))))
  exact sx_retB (exb_call (exa_cons (ex_fld CB.cls CB.n1 (ex_var rfl ⟨_, rfl, exa_cons (ex_var rfl (exa_cons (ex_fld CB.cls CB.n3 (ex_var rfl ⟨_, rfl, exa_nil ⟨n, s', m, rfl, l1, l2, hk⟩⟩))))⟩))))
theorem ok_turned (F : Fun K "turned" "Box.turned" s_Box_turned f fd) (T : BI mg) (CB : BoxC P w K mg base (ga K "Box")) (c_made_box : Co P w K mg base CX0 8 "made_box" ["states", "starts", "steps"] (spB K fMade)) :
    FnOk P w K mg base CX0 9 f fd ["self"] (spB K fTurned) := by
  refine F.ok sc_Box_turned (fun vs H Q E h => len_B h fun ds k ⟨n, s, m, e, _⟩ => by rw [e]; rfl) (fun cdv A outer s H vs Q E hr h => ⟨_, (pss_cons (ps_setLc (i := 1) (own := [("state", 2), ("call", 3), ("answer", 4), ("to", 5)]) (g := (gTup K 4 (gCons (gName 2) (gCons (gName 3) (gCons (gName 4) (gCons (gName 5) gNil)))))) (tt := tYes) (by rfl) sc_Box_turned.nd rfl rfl (sw_true rfl rfl rfl (by decide +kernel)) (pi_list (pe_fld (pv 0) rfl)) (blkOk_by (own := [("state", 2), ("call", 3), ("answer", 4), ("to", 5)]) (N := ["self", "steps", "state", "call", "answer", "to"]) (sc := defScope s_Box_turned) (by decide +kernel)) (fun _ _ _ _ _ => (pg_tup (by rfl) (pgs_cons (pg_name (i := 2) sc_Box_turned.nd rfl (Or.inl rfl)) (pgs_cons (pg_name (i := 3) sc_Box_turned.nd rfl (Or.inl rfl)) (pgs_cons (pg_name (i := 4) sc_Box_turned.nd rfl (Or.inl rfl)) (pgs_cons (pg_name (i := 5) sc_Box_turned.nd rfl (Or.inl rfl)) pgs_nil)))))) (fun _ _ _ _ _ => pts_nil) (fun _ _ _ _ _ => (pe_tup (pa_cons (pv 5) (pa_cons (pv 3) (pa_cons (pv 4) (pa_cons (pv 2) pa_nil)))))))
  (pss_one (ps_ret (pe_co c_made_box (hr.mono (by decide)) (by rfl) (pa_cons (pe_fld (pv 0) rfl) (pa_cons (pe_listRg rfl (by rfl) T.list (prg_1 (by rfl) T.range (pe_fld (pv 0) rfl))) (pa_cons (pv 1) pa_nil))))))), body_B (fun W ds k hf => ?_) h⟩)
  obtain ⟨n, s, m, rfl, ok, n64, m64, hk⟩ := hf
  have n1 := ok.n1
  refine sx_seq (sx_set (ex_L (exl_lc (js := [2, 3, 4, 5]) (by decide) (exi_list (ex_fld CB.cls CB.n3 (ex_var rfl ⟨_, rfl, _, rfl, by rw [List.length_map]; exact small_line (by omega), fun j acc => acc = (m.take j).map fun x => mvD (mvT x), rfl, fun j d acc hd pv => ?_, fun acc pv => ?_⟩))))))
  · obtain ⟨x, hx, rfl⟩ := at_map hd
    refine gx_tup rfl (by simp) (gs_cons (gx_name (gs_cons (gx_name (gs_cons (gx_name (gs_cons (gx_name (gs_nil (ext_yes ?_))))))))))
    rw [if_pos rfl]
    refine ex_tup (exa_cons (ex_var rfl (exa_cons (ex_var rfl (exa_cons (ex_var rfl (exa_cons (ex_var rfl (exa_nil ⟨by show 4 ≤ sizeLine; decide, ?_⟩)))))))))
    rw [pv]
    exact (take_map (g := fun x => mvD (mvT x)) hx).symm
  · rw [List.length_map, List.take_length] at pv
    rw [pv]
    refine sx_retB (exb_call (exa_cons (ex_fld CB.cls CB.n1 (ex_var rfl ⟨_, rfl, exa_cons (ex_L (exl_rng (ex_fld CB.cls CB.n1 (ex_var rfl ⟨_, rfl, n, rfl, by omega, by omega, exa_cons (ex_var rfl (exa_nil ⟨n, rgI n, m.map mvT, ?_, by rw [rgI_len]; omega, by rw [List.length_map]; exact m64, hk⟩))⟩))))⟩))))
    rw [List.map_map]
    rfl
theorem ok_item (F : Fun K "__getitem__" "Box.__getitem__" s_Box___getitem__ f fd) (T : BI mg) (CB : BoxC P w K mg base (ga K "Box")) (c_check_state : Co P w K mg base CX0 3 "check_state" ["states", "state"] (spD K fCState)) : FnOk P w K mg base CX0 4 f fd ["self", "at"] (spD K fItem) := by
  refine F.ok sc_Box___getitem__ (fun vs H Q E h => len_D h fun ds k ⟨n, s, m, i, e, _⟩ => by rw [e]; rfl) (fun cdv A outer s H vs Q E hr h => ⟨_, (pss_cons (ps_expr (pe_co c_check_state (hr.mono (by decide)) (by rfl) (pa_cons (pe_fld (pv 0) rfl) (pa_cons (pv 1) pa_nil))))
  (pss_cons (ps_set (i := 2) sc_Box___getitem__.nd rfl (Or.inl rfl) pe_dnewT)
  (pss_cons (ps_for PassesOwn.never rfl (pi_list (pe_fld (pv 0) rfl)) (pg_tup (by rfl) (pgs_cons (pg_name (i := 3) sc_Box___getitem__.nd rfl (Or.inl rfl)) (pgs_cons (pg_name (i := 4) sc_Box___getitem__.nd rfl (Or.inl rfl)) (pgs_cons (pg_name (i := 5) sc_Box___getitem__.nd rfl (Or.inl rfl)) (pgs_cons (pg_name (i := 6) sc_Box___getitem__.nd rfl (Or.inl rfl)) pgs_nil))))) (pss_one (ps_if (pt_cmpR op_eq (pv 3) (pv 1) (nomark _)) (pss_one (ps_expr (pe_bm PySem.F.plainAttrs_list PySem.F.slot_list_append PySem.F.type_list_append mt_append (pe_dsetdT hr.units (pv 2) (pe_tup (pa_cons (pv 4) (pa_cons (pv 5) pa_nil))) (pe_lst pa_nil) ⟨rfl, rfl, rfl, rfl⟩) (pa_cons (pv 6) pa_nil)))) pss_nil)))
  (pss_one (ps_ret (pv 2)))))), body_D (fun W ds k hf => ?_) h⟩)
  obtain ⟨n, s, m, i, rfl, h0, h1, hl, hk⟩ := hf
  refine sx_seq (sx_drop (ex_call (exa_cons (ex_fld CB.cls CB.n1 (ex_var rfl ⟨_, rfl, exa_cons (ex_var rfl (exa_nil ⟨n, i, rfl, h0, h1, ?_⟩))⟩)))))
  refine sx_seq (sx_newT ?_)
  refine sx_seq (sx_groupT (i := 2) (js := [3, 4, 5, 6]) (by decide) rfl (no_of rfl) (exi_list (ex_fld CB.cls CB.n3 (ex_var rfl ⟨_, rfl, _, rfl, by rw [List.length_map]; exact small_line hl, itemF i,
    fun Γ' => Γ' = [.val (.box n s m), .val (.int i), .un, .un, .un, .un, .un] ∨ ∃ a b c d, Γ' = [.val (.box n s m), .val (.int i), .un, .val a, .val b, .val c, .val d], .inl rfl, fun d hd Γ' iv => ?_, fun Γ' iv => ?_, fun Γ' iv => ?_⟩))))
  · obtain ⟨x, hx, rfl⟩ := List.mem_map.mp hd
    have e0 : itemF i (mvD x) = if x.a = i then some ([.inr x.c, .inr x.z], .int x.b) else none := rfl
    rcases iv with rfl | ⟨_, _, _, _, rfl⟩
    all_goals
      refine gx_tup rfl (by simp) (gs_cons (gx_name (gs_cons (gx_name (gs_cons (gx_name (gs_cons (gx_name (gs_nil ⟨.inr ⟨_, _, _, _, rfl⟩, turn_if (ext_test (ex_op (ex_var rfl (ex_var rfl (od_eqi ⟨_, rfl, ?_⟩)))))⟩)))))))))
      by_cases e : x.a = i
      · rw [decide_eq_true e, if_pos rfl, e0, if_pos e]
        exact turn_T (no_of rfl) (by simp) (ex_tup (exa_cons (ex_var rfl (exa_cons (ex_var rfl (exa_nil ⟨by show 2 ≤ sizeLine; decide, rfl, ex_var rfl rfl⟩))))))
      · rw [decide_eq_false e, if_neg Bool.false_ne_true, e0, if_neg e]
        exact turn_none
  · rcases iv with rfl | ⟨_, _, _, _, rfl⟩ <;> exact ⟨no_of rfl, rfl⟩
  · have e : ((m.map mvD).foldl (fun st d => grpS st (itemF i d)) ([], [])) = itemG i m := by
      rw [List.foldl_map]
      rfl
    rw [e]
    rcases iv with rfl | ⟨_, _, _, _, rfl⟩ <;> exact sx_ret (ex_var rfl hk)
theorem take_new {o : List Int} (nd : o.Nodup) {j : Nat} {x : Int} (h : o[j]? = some x) : x ∉ o.take j := fun m => by
  obtain ⟨i, hi⟩ := List.getElem?_of_mem m
  rw [List.getElem?_take] at hi
  split at hi
  · rename_i lt
    have l := (List.getElem?_eq_some_iff.mp hi).1
    have := (List.getElem?_inj l nd).mp (hi.trans h.symm)
    omega
  · cases hi
theorem take_inl {o : List Int} (nd : o.Nodup) {j : Nat} {x : Int} (h : o[j]? = some x) : putKs ((o.take j).map (Sum.inl : Int → L2.Key)) (.inl x) = (o.take (j + 1)).map Sum.inl := by
  unfold putKs
  rw [if_neg fun m => ?_, take_map h]
  obtain ⟨y, hy, e⟩ := List.mem_map.mp m
  cases e
  exact take_new nd h hy
theorem val_idx : ∀ {o : List Int} {i : Int} (b : Nat), i ∈ o → valD (o.map (Sum.inl : Int → L2.Key)) ((List.range o.length).map fun j => D.int (b + j : Nat)) (.inl i) = some (.int (b + o.idxOf i : Nat))
  | [], i, _, h => nomatch h
  | a :: o, i, b, h => by
    rw [List.length_cons, List.range_succ_eq_map, List.map_cons, List.map_cons, Tl.valD]
    by_cases e : a = i
    · subst e
      rw [if_pos rfl, List.idxOf_cons_self]
    · rw [if_neg fun z => e (Sum.inl.inj z), List.map_map]
      have q := val_idx (o := o) (i := i) (b + 1) ((List.mem_cons.mp h).resolve_left fun z => e z.symm)
      rw [show (a :: o).idxOf i = o.idxOf i + 1 by rw [List.idxOf_cons, beq_eq_false_iff_ne.mpr e]; rfl]
      rw [show (b + (o.idxOf i + 1) : Nat) = b + 1 + o.idxOf i by omega, ← q]
      congr 1
      refine List.map_congr_left fun j _ => ?_
      show D.int ((b + (j + 1) : Nat) : Int) = D.int ((b + 1 + j : Nat) : Int)
      rw [show b + (j + 1) = b + 1 + j by omega]
theorem val_idx0 {o : List Int} {i : Int} (h : i ∈ o) : Tl.valD (o.map (Sum.inl : Int → L2.Key)) ((List.range o.length).map fun j => D.int (j : Nat)) (.inl i) = some (.int (idx o i)) := by
  have q := val_idx (o := o) 0 h
  simp only [Nat.zero_add] at q
  exact q
theorem val_out {o : List Int} {i : Int} {l : List D} (h : i ∉ o) : Tl.valD (o.map (Sum.inl : Int → L2.Key)) l (.inl i) = none := by
  induction o generalizing l with
  | nil => rfl
  | cons a o ih =>
    cases l with
    | nil => rfl
    | cons d l =>
      rw [List.map_cons, Tl.valD, if_neg fun z => h (by rw [← Sum.inl.inj z]; exact List.mem_cons_self ..)]
      exact ih fun z => h (List.mem_cons_of_mem _ z)
theorem en_at {o : List Int} {j : Nat} {d : D} (h : (enD (o.map D.int))[j]? = some d) : ∃ x, o[j]? = some x ∧ d = .tup [.int (j : Nat), .int x] := by
  have l := (List.getElem?_eq_some_iff.mp h).1
  rw [enD_len, List.length_map] at l
  have q := enD_at (l := o.map D.int) (i := j) (d := .int o[j]) (by rw [List.getElem?_map, List.getElem?_eq_getElem l]; rfl)
  rw [h] at q
  exact ⟨_, List.getElem?_eq_getElem l, Option.some.inj q⟩
theorem co_renumbered (F : At K mg "renumbered" s_renumbered) (T : BI mg) (cl : Cls K (ga K "Box")) (m_starts : Mo P w K mg base 1 "starts" ["self"] (spL K fStarts)) (m_steps : Mo P w K mg base 1 "steps" ["self"] (spL K fSteps)) (c_made_box : Co P w K mg base CX0 8 "made_box" ["states", "starts", "steps"] (spB K fMade)) :
    Co P w K mg base CX0 9 "renumbered" ["box", "kept"] (spB K fRenum) := by
  refine co_mk F sc_renumbered (fun vs H Q E h => len_B h fun ds k ⟨n, s, m, x, o, e, _⟩ => by rw [e]; rfl) (fun _ _ _ _ _ _ us hl => match us, hl with | [_, _], _ => rfl) (fun f cdv A outer s H vs Q E hr h => ⟨_, (pss_cons (ps_set (i := 2) sc_renumbered.nd rfl (Or.inr rfl) (pe_dc (own := [("number", 3), ("state", 4)]) (g := (gTup K 2 (gCons (gName 3) (gCons (gName 4) gNil)))) (tt := tYes) (by rfl) sc_renumbered.nd (pi_enS (by rfl) T.enumerate (pa_cons (pv 1) pa_nil)) (blkOk_by (own := [("number", 3), ("state", 4)]) (N := ["box", "kept", "numbers", "number", "state", "starts", "steps", "start", "call", "answer", "to"]) (sc := defScope s_renumbered) (by decide +kernel)) (fun _ _ _ _ _ => (pg_tup (by rfl) (pgs_cons (pg_name (i := 3) sc_renumbered.nd rfl (Or.inl rfl)) (pgs_cons (pg_name (i := 4) sc_renumbered.nd rfl (Or.inl rfl)) pgs_nil)))) (fun _ _ _ _ _ => pts_nil) (fun _ _ _ _ _ => (pv 4)) (fun _ _ _ _ _ => (pv 3))))
  (pss_cons (ps_setLc (i := 5) (own := [("start", 7)]) (g := (gName 7)) (tt := tYes) (by rfl) sc_renumbered.nd rfl rfl (sw_true rfl rfl rfl (by decide +kernel)) (pi_list (pe_mo0 m_starts cl (hr.mono (by decide)) (pv 0))) (blkOk_by (own := [("start", 7)]) (N := ["box", "kept", "numbers", "number", "state", "starts", "steps", "start", "call", "answer", "to"]) (sc := defScope s_renumbered) (by decide +kernel)) (fun _ _ _ _ _ => (pg_name (i := 7) sc_renumbered.nd rfl (Or.inl rfl))) (fun _ _ _ _ _ => pts_nil) (fun _ _ _ _ _ => (pe_dget (hu_of hr) (pv 2) (pv 7) (fun _ _ => rfl))))
  (pss_cons (ps_setLc (i := 6) (own := [("state", 4), ("call", 8), ("answer", 9), ("to", 10)]) (g := (gTup K 4 (gCons (gName 4) (gCons (gName 8) (gCons (gName 9) (gCons (gName 10) gNil)))))) (by rfl) sc_renumbered.nd rfl rfl (sw_true rfl rfl rfl (by decide +kernel)) (pi_list (pe_mo0 m_steps cl (hr.mono (by decide)) (pv 0))) (blkOk_by (own := [("state", 4), ("call", 8), ("answer", 9), ("to", 10)]) (N := ["box", "kept", "numbers", "number", "state", "starts", "steps", "start", "call", "answer", "to"]) (sc := defScope s_renumbered) (by decide +kernel)) (fun _ _ _ _ _ => (pg_tup (by rfl) (pgs_cons (pg_name (i := 4) sc_renumbered.nd rfl (Or.inl rfl)) (pgs_cons (pg_name (i := 8) sc_renumbered.nd rfl (Or.inl rfl)) (pgs_cons (pg_name (i := 9) sc_renumbered.nd rfl (Or.inl rfl)) (pgs_cons (pg_name (i := 10) sc_renumbered.nd rfl (Or.inl rfl)) pgs_nil)))))) (fun _ _ _ _ _ => pts_one (pt_cmp (pc_din (hu_of hr) (pv 4) (pv 2)))) (fun _ _ _ _ _ => (pe_tup (pa_cons (pe_dget (hu_of hr) (pv 2) (pv 4) (fun _ _ => rfl)) (pa_cons (pv 8) (pa_cons (pv 9) (pa_cons (pe_dget (hu_of hr) (pv 2) (pv 10) (fun _ _ => rfl)) pa_nil)))))))
  (pss_one (ps_ret (pe_co c_made_box (hr.mono (by decide)) (by rfl) (pa_cons (pe_callB (Tl.call_lenKK (K := K) rfl) (by rfl) T.len PySem.boot_len (pa_cons (pv 1) pa_nil)) (pa_cons (pv 5) (pa_cons (pv 6) pa_nil))))))))), body_B (fun W ds k hf => ?_) h⟩)
  obtain ⟨n, s, m, x, o, rfl, hs, nd, so, mo, l1, l2, l3, hk⟩ := hf
  refine sx_seq (sx_set (ex_K (exk_dc (js := [3, 4]) (by decide) (exi_enS (ex_var rfl ⟨o.map D.int, hs, by rw [enD_len, List.length_map]; exact small_line (by omega), fun j ks acc => ks = (o.take j).map Sum.inl ∧ acc = (List.range j).map (fun i => D.int (i : Nat)) ∧ j ≤ o.length, ⟨rfl, rfl, Nat.zero_le _⟩, fun j d ks acc hd pv => ?_, fun ks acc pv => ?_⟩)))))
  · obtain ⟨y, hy, rfl⟩ := en_at hd
    obtain ⟨rfl, rfl, jl⟩ := pv
    have jl2 : j < o.length := (List.getElem?_eq_some_iff.mp hy).1
    refine gx_tup rfl (by simp) (gs_cons (gx_name (gs_cons (gx_name (gs_nil (ext_yes ?_))))))
    rw [if_pos rfl]
    refine ex_var rfl ⟨.inl y, rfl, ex_var rfl ⟨take_inl nd hy, ?_, jl2⟩⟩
    rw [putD_new _ _ _ _ (by rw [List.length_map, List.length_map, List.length_range, List.length_take]; omega) fun m => ?_, List.range_succ, List.map_append]
    · rfl
    · obtain ⟨z, hz, e⟩ := List.mem_map.mp m
      cases e
      exact take_new nd hy hz
  · obtain ⟨rfl, rfl, _⟩ := pv
    rw [enD_len, List.length_map, List.take_length]
    refine sx_seq (sx_set (ex_L (exl_lc (js := [7]) (by decide) (exi_list (ex_L (exl_meth ⟨by decide, by decide, by decide⟩ (ex_var rfl ⟨⟨_, _, _, rfl⟩, exa_nil ⟨n, s, m, rfl, _, rfl, by rw [List.length_map]; exact small_line (by omega), fun j acc => acc = (s.take j).map (fun i => D.int (idx o i)), rfl, fun j d acc hd pv => ?_, fun acc pv => ?_⟩⟩)))))))
    · obtain ⟨i, hi, rfl⟩ := at_map hd
      refine gx_name (ext_yes ?_)
      rw [if_pos rfl]
      refine ex_dget (ex_var rfl ⟨_, _, rfl, ex_var rfl ⟨.inl i, .int (idx o i), rfl, val_idx0 (so i (List.mem_of_getElem? hi)), ?_⟩⟩)
      rw [pv]
      exact (take_map (g := fun i => D.int (idx o i)) hi).symm
    · rw [List.length_map, List.take_length] at pv
      subst pv
      refine sx_seq (sx_set (ex_L (exl_lc (js := [4, 8, 9, 10]) (by decide) (exi_list (ex_L (exl_meth ⟨by decide, by decide, by decide⟩ (ex_var rfl ⟨⟨_, _, _, rfl⟩, exa_nil ⟨n, s, m, rfl, _, rfl, by rw [List.length_map]; exact small_line (by omega), fun j acc => acc = ((m.take j).filter fun y => decide (y.a ∈ o)).map (fun y => mvD (ren o y)), rfl, fun j d acc hd pv => ?_, fun acc pv => ?_⟩⟩)))))))
      · obtain ⟨y, hy, rfl⟩ := at_map hd
        have e : m.take (j + 1) = m.take j ++ [y] := by rw [List.take_succ, hy]; rfl
        refine gx_tup rfl (by simp) (gs_cons (gx_name (gs_cons (gx_name (gs_cons (gx_name (gs_cons (gx_name (gs_nil (ext_b (ex_din (ex_var rfl ⟨.inl y.a, rfl, ex_var rfl ⟨_, _, rfl, _, rfl, ?_⟩⟩))))))))))))
        by_cases h : y.a ∈ o
        · rw [val_idx0 h]
          show Ex _ _ _ _
          refine ex_tup (exa_cons (ex_dget (ex_var rfl ⟨_, _, rfl, ex_var rfl ⟨.inl y.a, .int (idx o y.a), rfl, val_idx0 h, exa_cons (ex_var rfl (exa_cons (ex_var rfl (exa_cons (ex_dget (ex_var rfl ⟨_, _, rfl, ex_var rfl ⟨.inl y.b, .int (idx o y.b), rfl, val_idx0 (mo y (List.mem_of_getElem? hy) h), exa_nil ⟨by show 4 ≤ sizeLine; decide, ?_⟩⟩⟩))))))⟩⟩)))
          show acc ++ _ = ((m.take (j + 1)).filter fun y => decide (y.a ∈ o)).map fun y => mvD (ren o y)
          rw [e, List.filter_append, List.map_append, show acc = _ from pv]
          simp [List.filter, h]
          rfl
        · rw [val_out h]
          show acc = ((m.take (j + 1)).filter fun y => decide (y.a ∈ o)).map fun y => mvD (ren o y)
          rw [e, List.filter_append, List.map_append, show acc = _ from pv]
          simp [List.filter, h]
      · rw [List.length_map, List.take_length] at pv
        subst pv
        refine sx_retB (exb_call (exa_cons (ex_cb (exa_cons (ex_var rfl (exa_nil (kd_len (l := o.map D.int) hs (exa_cons (ex_var rfl (exa_cons (ex_var rfl (exa_nil ⟨((o.map D.int).length : Int), s.map (idx o), (m.filter fun y => decide (y.a ∈ o)).map (ren o), ?_, by rw [List.length_map]; exact l2, ?_, ?_⟩))))))))))))
        · rw [List.map_map, List.map_map]
          rfl
        · rw [List.length_map]
          exact Nat.lt_of_le_of_lt (List.length_filter_le _ _) l3
        · rw [List.length_map]
          exact hk
theorem ok_numbered (F : Fun K "numbered" "Box.numbered" s_Box_numbered f fd) (T : BI mg) (CB : BoxC P w K mg base (ga K "Box")) (c_is_order : Co P w K mg base CX0 3 "is_order" ["states", "value"] (spD K fOrder)) (c_renumbered : Co P w K mg base CX0 9 "renumbered" ["box", "kept"] (spB K fRenum)) :
    FnOk P w K mg base CX0 10 f fd ["self", "order"] (spB K fNumb) := by
  refine F.ok sc_Box_numbered (fun vs H Q E h => len_B h fun ds k ⟨n, s, m, x, o, e, _⟩ => by rw [e]; rfl) (fun cdv A outer s H vs Q E hr h => ⟨_, (pss_cons (ps_if (pt_not (pt_val (pe_co c_is_order (hr.mono (by decide)) (by rfl) (pa_cons (pe_fld (pv 0) rfl) (pa_cons (pv 1) pa_nil))))) (pss_one ps_never) pss_nil)
  (pss_one (ps_ret (pe_co c_renumbered (hr.mono (by decide)) (by rfl) (pa_cons (pv 0) (pa_cons (pv 1) pa_nil)))))), body_B (fun W ds k hf => ?_) h⟩)
  obtain ⟨n, s, m, x, o, rfl, hs, od, ok, n64, l2, l3, hk⟩ := hf
  have n1 := ok.n1
  have len := od.len
  refine sx_seq (sx_if (ext_not (ext_b (ex_call (exa_cons (ex_fld CB.cls CB.n1 (ex_var rfl ⟨_, rfl, exa_cons (ex_var rfl (exa_nil ⟨n, x, o, rfl, hs, len, by omega, by omega, od.nd, od.rg, _, rfl, ?_⟩))⟩)))))))
  refine sx_next ?_
  refine sx_retB (exb_call (exa_cons (ex_var rfl (exa_cons (ex_var rfl (exa_nil ⟨n, s, m, x, o, rfl, hs, od.nd, fun i hi => od.all (ok.sr i hi).1 (ok.sr i hi).2, fun y hy _ => od.all (ok.mr y hy).b0 (ok.mr y hy).bn, by omega, l2, l3, ?_⟩))))))
  have e1 : (o.length : Int) = n := by omega
  have e2 : (m.filter fun y => decide (y.a ∈ o)) = m := List.filter_eq_self.mpr fun y hy => decide_eq_true (od.all (ok.mr y hy).a0 (ok.mr y hy).an)
  rw [e1, e2]
  exact hk
end
end K16
/-! ## K16B -/
set_option Elab.async false
set_option linter.all false
set_option maxRecDepth 100000
set_option maxHeartbeats 4000000
namespace K16
open PySem PySem.Spec PyProof.Rows L2 He Vx Tl

/-- where the steps lead -/
inductive Rch (nx : Int → List Int) (s : List Int) : Int → Prop
  | base {x : Int} : x ∈ s → Rch nx s x
  | step {x y : Int} : Rch nx s x → y ∈ nx x → Rch nx s y
def fReached : FnL := fun ds k => ∃ (nx : Int → List Int) (ks : List L2.Key) (ls : List (List D)) (s U : List Int), ds = [.dK ks (ls.map D.lst), .lst (s.map D.int)] ∧ (∀ i, (Tl.valD ks (ls.map D.lst) (.inl i)).getD (.lst []) = .lst ((nx i).map D.int)) ∧ (∀ i, (nx i).length < 1000) ∧ U.length < 64 ∧ (∀ x ∈ s, x ∈ U) ∧
  (∀ i ∈ U, ∀ j ∈ nx i, j ∈ U) ∧ s.Nodup ∧ s.length < 64 ∧ ∀ R : List Int, (∀ x, x ∈ R ↔ Rch nx s x) → k ((sI R).map D.int)
def trues (n : Nat) : List D := List.replicate n (.bl true)
theorem trues_put {F : List Int} {y : Int} (h : y ∉ F) : putD (F.map (Sum.inl : Int → L2.Key)) (trues F.length) (.inl y) (.bl true) = trues (F.length + 1) := by
  rw [putD_new _ _ _ _ (by unfold trues; rw [List.length_map, List.length_replicate]) fun m => ?_]
  · unfold trues
    rw [List.replicate_succ']
  · obtain ⟨z, hz, e⟩ := List.mem_map.mp m
    cases e
    exact h hz
theorem inl_put {F : List Int} {y : Int} (h : y ∉ F) : putKs (F.map (Sum.inl : Int → L2.Key)) (.inl y) = (F ++ [y]).map Sum.inl := by
  unfold putKs
  rw [if_neg fun m => ?_, List.map_append]
  · rfl
  · obtain ⟨z, hz, e⟩ := List.mem_map.mp m
    cases e
    exact h hz
theorem val_in {F : List Int} {y : Int} : (Tl.valD (F.map (Sum.inl : Int → L2.Key)) (trues F.length) (.inl y)).isSome = decide (y ∈ F) := by
  induction F with
  | nil => rfl
  | cons a F ih =>
    rw [List.length_cons, List.map_cons]
    show (Tl.valD (Sum.inl a :: F.map Sum.inl) (D.bl true :: trues F.length) (.inl y)).isSome = _
    rw [Tl.valD]
    by_cases e : a = y
    · rw [if_pos (by rw [e]), decide_eq_true (by rw [e]; exact List.mem_cons_self ..)]
      rfl
    · rw [if_neg fun z => e (Sum.inl.inj z), ih]
      exact decide_eq_decide.mpr ⟨fun h => List.mem_cons_of_mem _ h, fun h => (List.mem_cons.mp h).resolve_left fun z => e z.symm⟩
/-- what is found so far -/
structure Found (nx : Int → List Int) (s U F wl : List Int) : Prop where
  nd : F.Nodup
  wd : wl.Nodup
  rch : ∀ x ∈ F, Rch nx s x
  base : ∀ x ∈ s, x ∈ F
  wf : ∀ x ∈ wl, x ∈ F
  fu : ∀ x ∈ F, x ∈ U
theorem Found.len {nx : Int → List Int} {s U F wl : List Int} (h : Found nx s U F wl) : F.length ≤ U.length ∧ wl.length ≤ F.length :=
  ⟨List.Nodup.length_le_of_subset h.nd h.fu, List.Nodup.length_le_of_subset h.wd h.wf⟩
section
variable {P : Program} {w : World} {K : PySem.W.Frag} {mg : Str → Option Value} {base : Heap} {f : Addr} {fd : FuncData}
theorem co_reached (F : At K mg "reached" s_reached) (T : BI mg) : Co P w K mg base CX0 1 "reached" ["ends", "states"] (spL K fReached) := by
  refine co_mk F sc_reached (fun vs H Q E h => len_L h fun ds k ⟨_, _, _, _, _, e, _⟩ => by rw [e]; rfl) (fun _ _ _ _ _ _ us hl => match us, hl with | [_, _], _ => rfl) (fun f cdv A outer s H vs Q E hr h => ⟨_, (pss_cons (ps_setDc (i := 2) (own := [("state", 3)]) (g := (gName 3)) (tt := tYes) (by rfl) sc_reached.nd rfl rfl (sw_trueD rfl rfl rfl (by decide +kernel)) (pi_list (pv 1)) (blkOk_by (own := [("state", 3)]) (N := ["ends", "states", "found", "state", "waiting", "to"]) (sc := defScope s_reached) (by decide +kernel)) (fun _ _ _ _ _ => (pg_name (i := 3) sc_reached.nd rfl (Or.inl rfl))) (fun _ _ _ _ _ => pts_nil) (fun _ _ _ _ _ => (pv 3)) (fun _ _ _ _ _ => pe_bl))
  (pss_cons (ps_set (i := 4) sc_reached.nd rfl (Or.inl rfl) (pe_callTy (Tl.call_listKK (K := K) rfl) (by rfl) T.list bt_list (pa_cons (pv 1) pa_nil)))
  (pss_cons (ps_while PassesOwn.never (pt_truth (pv 4) (fun _ => rfl)) (pss_cons (ps_set (i := 3) sc_reached.nd rfl (Or.inl rfl) (pe_bm0 PySem.F.plainAttrs_list PySem.F.slot_list_pop PySem.F.type_list_pop mt_pop (pv 4)))
  (pss_one (ps_for PassesOwn.never rfl (pi_list (pe_dget2 (hu_of hr) (pv 0) (pv 3) (pe_lst pa_nil) ⟨rfl, rfl, rfl, rfl⟩)) (pg_name (i := 5) sc_reached.nd rfl (Or.inl rfl)) (pss_one (ps_if (pt_cmp (pc_dnotin (hu_of hr) (pv 5) (pv 2))) (pss_cons (ps_dput (hu_of hr) (pv 2) (pv 5) pe_bl rfl)
  (pss_one (ps_expr (pe_bm PySem.F.plainAttrs_list PySem.F.slot_list_append PySem.F.type_list_append mt_append (pv 4) (pa_cons (pv 5) pa_nil))))) pss_nil))))))
  (pss_one (ps_ret (pe_callB (call_sortedDI rfl) (by rfl) T.sorted bt_sorted (pa_cons (pv 2) pa_nil))))))), body_L (fun W ds k hf => ?_) h⟩)
  obtain ⟨nx, ks, ls, s, U, rfl, hv, hn, u64, sU, cU, sd, s64, hk⟩ := hf
  refine sx_seq (sx_setK (exk_dc (js := [3]) (by decide) (exi_list (ex_var rfl ⟨_, rfl, by rw [List.length_map]; exact small_line (by omega), fun j ks acc => ks = (s.take j).map Sum.inl ∧ acc = trues j ∧ j ≤ s.length, ⟨rfl, rfl, Nat.zero_le _⟩, fun j d ks acc hd pv => ?_, fun ks acc pv => ?_⟩))))
  · obtain ⟨y, hy, rfl⟩ := at_map hd
    obtain ⟨rfl, rfl, jl⟩ := pv
    have jl2 : j < s.length := (List.getElem?_eq_some_iff.mp hy).1
    refine gx_name (ext_yes ?_)
    rw [if_pos rfl]
    refine ex_var rfl ⟨.inl y, rfl, ex_bl ⟨take_inl sd hy, ?_, jl2⟩⟩
    have q := trues_put (take_new sd hy)
    rw [List.length_take, Nat.min_eq_left jl] at q
    exact q
  obtain ⟨rfl, rfl, _⟩ := pv
  rw [List.length_map, List.take_length]
  refine sx_seq (sx_setO (exl_cb (exa_cons (ex_var rfl (exa_nil (kl_list (.inl rfl) ?_))))))
  refine sx_seq (sx_while (m0 := 2 * (U.length - s.length) + s.length) (fun m Γ' => ∃ F wl u3 u5, Γ' = [.val (.dK ks (ls.map D.lst)), .val (.lst (s.map D.int)), .ownK (F.map Sum.inl) (trues F.length), u3, .own (wl.map D.int), u5] ∧ u3.isOwn = false ∧ u5.isOwn = false ∧ Found nx s U F wl ∧ (∀ x ∈ F, x ∈ wl ∨ ∀ y ∈ nx x, y ∈ F) ∧ m = 2 * (U.length - F.length) + wl.length)
    ⟨s, s, .un, .un, rfl, rfl, rfl, ⟨sd, sd, fun x hx => .base hx, fun x hx => hx, fun x hx => hx, sU⟩, fun x hx => .inl hx, rfl⟩ fun m Γ' iv => ?_)
  obtain ⟨F, wl, u3, u5, rfl, h3, h5, fo, cl, rfl⟩ := iv
  obtain ⟨fl, wll⟩ := fo.len
  refine ext_truO rfl ?_
  rcases List.eq_nil_or_concat wl with rfl | ⟨wl', x, rfl⟩
  · rw [if_neg (by decide)]
    refine sx_retL (exl_sortK rfl fo.nd (by omega) (hk F fun y => ⟨fo.rch y, fun h => ?_⟩))
    induction h with
    | base h => exact fo.base _ h
    | step _ hy ih =>
      rcases cl _ ih with h | h
      · cases h
      · exact h _ hy
  · rw [List.concat_eq_append] at *
    rw [if_pos (by rw [List.map_append]; simp)]
    have xw : x ∈ wl' ++ [x] := List.mem_append_right _ (List.mem_singleton.mpr rfl)
    have xF := fo.wf x xw
    have nd2 := List.nodup_append.mp fo.wd
    rw [List.length_append, List.length_singleton] at wll ⊢
    refine sx_seq (sx_setPop (l := wl'.map D.int) (d := .int x) (by show some (Sl.own _) = _; rw [List.map_append]; rfl) (by decide) ?_)
    refine sx_for (js := [5]) (exi_list (ex_dget2 (ex_var rfl ⟨ks, _, rfl, ex_var rfl ⟨.inl x, rfl, ex_L (exl_lst (exa_nil ⟨Nat.zero_le _, (nx x).map D.int, hv x, ?_⟩))⟩⟩)))
    refine ⟨fun i Γ2 => ∃ F2 wl2 u5, Γ2 = [.val (.dK ks (ls.map D.lst)), .val (.lst (s.map D.int)), .ownK (F2.map Sum.inl) (trues F2.length), .val (.int x), .own (wl2.map D.int), u5] ∧ u5.isOwn = false ∧ Found nx s U F2 wl2 ∧ x ∈ F2 ∧ (∀ z ∈ F2, z ∈ wl2 ∨ z = x ∨ ∀ y ∈ nx z, y ∈ F2) ∧ (∀ y ∈ (nx x).take i, y ∈ F2) ∧ 2 * (U.length - F2.length) + wl2.length ≤ 2 * (U.length - F.length) + wl'.length,
      ⟨F, wl', u5, rfl, h5, ⟨fo.nd, nd2.1, fo.rch, fo.base, fun z hz => fo.wf z (List.mem_append_left _ hz), fo.fu⟩, xF, fun z hz => ?_, fun y hy => (List.not_mem_nil hy).elim, Nat.le_refl _⟩, fun i d Γ2 hd iv => ?_, fun Γ2 iv => ?_⟩
    · rcases cl z hz with h | h
      · rcases List.mem_append.mp h with h | h
        · exact .inl h
        · exact .inr (.inl (List.mem_singleton.mp h))
      · exact .inr (.inr h)
    · obtain ⟨y, hy, rfl⟩ := at_map hd
      obtain ⟨F2, wl2, u5, rfl, h5, fo2, xF2, cl2, tk, ms⟩ := iv
      obtain ⟨fl2, wll2⟩ := fo2.len
      have yn : y ∈ nx x := List.mem_of_getElem? hy
      have tk1 : ∀ {F3 : List Int}, (∀ z ∈ F2, z ∈ F3) → y ∈ F3 → ∀ z ∈ (nx x).take (i + 1), z ∈ F3 := fun sub hy3 z hz => by
        rw [List.take_succ, hy] at hz
        rcases List.mem_append.mp hz with hz | hz
        · exact sub z (tk z hz)
        · cases List.mem_singleton.mp hz
          exact hy3
      refine gx_name (sx_if (ext_b (ex_dnotinO (ks := F2.map Sum.inl) (l := trues F2.length) rfl (ex_var rfl ⟨.inl y, rfl, _, rfl, ?_⟩))))
      rw [val_in]
      by_cases h : y ∈ F2
      · rw [decide_eq_true h, if_neg (by decide)]
        exact sx_next ⟨F2, wl2, _, rfl, rfl, fo2, xF2, cl2, tk1 (fun z hz => hz) h, ms⟩
      · rw [decide_eq_false h, if_pos (by decide)]
        have yU := cU x (fo2.fu x xF2) y yn
        have nd3 : (F2 ++ [y]).Nodup := List.nodup_append.mpr ⟨fo2.nd, by simp, fun a ha b hb e => h (by rw [List.mem_singleton.mp hb] at e; rw [← e]; exact ha)⟩
        have ywl : y ∉ wl2 := fun z => h (fo2.wf y z)
        have f3 : Found nx s U (F2 ++ [y]) (wl2 ++ [y]) := ⟨nd3, List.nodup_append.mpr ⟨fo2.wd, by simp, fun a ha b hb e => ywl (by rw [List.mem_singleton.mp hb] at e; rw [← e]; exact ha)⟩, fun z hz => (List.mem_append.mp hz).elim (fo2.rch z) fun z2 => by rw [List.mem_singleton.mp z2]; exact .step (fo2.rch x xF2) yn,
          fun z hz => List.mem_append_left _ (fo2.base z hz), fun z hz => (List.mem_append.mp hz).elim (fun z2 => List.mem_append_left _ (fo2.wf z z2)) fun z2 => List.mem_append_right _ z2, fun z hz => (List.mem_append.mp hz).elim (fo2.fu z) fun z2 => by rw [List.mem_singleton.mp z2]; exact yU⟩
        have l3 := f3.len.1
        rw [List.length_append, List.length_singleton] at l3
        refine sx_seq (sx_dput (ks := F2.map Sum.inl) (l := trues F2.length) rfl (nd_map (fun a b e => by cases e; rfl) fo2.nd) (by rw [List.length_map]; exact small_line (by omega)) (ex_bl (ex_var rfl ⟨.inl y, rfl, ?_⟩)))
        rw [inl_put h, trues_put h]
        refine sx_app (l := wl2.map D.int) rfl (ex_var rfl ⟨by rw [List.length_map]; exact small_line (by omega), F2 ++ [y], wl2 ++ [y], .val (.int y), ?_, rfl, f3, List.mem_append_left _ xF2, fun z hz => ?_, tk1 (fun z hz => List.mem_append_left _ hz) (List.mem_append_right _ (List.mem_singleton.mpr rfl)), ?_⟩)
        · rw [List.map_append (l₁ := wl2), List.length_append, List.length_singleton]
          rfl
        · rcases List.mem_append.mp hz with hz | hz
          · rcases cl2 z hz with h | h | h
            · exact .inl (List.mem_append_left _ h)
            · exact .inr (.inl h)
            · exact .inr (.inr fun y2 hy2 => List.mem_append_left _ (h y2 hy2))
          · exact .inl (List.mem_append_right _ hz)
        · rw [List.length_append, List.length_append, List.length_singleton]
          omega
    · obtain ⟨F2, wl2, u5, rfl, h5, fo2, xF2, cl2, tk, ms⟩ := iv
      rw [List.length_map, List.take_length] at tk
      refine ⟨_, ?_, F2, wl2, .val (.int x), u5, rfl, rfl, h5, fo2, fun z hz => ?_, rfl⟩
      · omega
      · rcases cl2 z hz with h | h | h
        · exact .inl h
        · subst h
          exact .inr tk
        · exact .inr h
end
end K16
/-! ## K16C -/
set_option Elab.async false
set_option linter.all false
set_option maxRecDepth 100000
set_option maxHeartbeats 4000000
namespace K16
open PySem PySem.Spec PyProof.Rows L2 He Vx Tl

/-- where the steps from i lead -/
def nxt (m : List Mv) (i : Int) : List Int := (m.filter fun x => decide (x.a = i)).map fun x => x.b
section
variable {κ : Type} [DecidableEq κ]
def valX : List κ → List (List D) → κ → List D
  | k' :: ks, l :: ls, k => if k' = k then l else valX ks ls k
  | _, _, _ => []
theorem valX_D : ∀ (ks : List κ) (ls : List (List D)) (k : κ), (Tl.valD ks (ls.map D.lst) k).getD (.lst []) = .lst (valX ks ls k)
  | [], ls, k => rfl
  | _ :: _, [], k => rfl
  | k' :: ks, l :: ls, k => by
    rw [List.map_cons, Tl.valD, valX]
    split
    · rfl
    · exact valX_D ks ls k
theorem valX_add : ∀ {ks : List κ} {ls : List (List D)} (q k : κ) (z : D), ks.length = ls.length → valX (putKs ks q) (addG ks ls q z) k = if q = k then valX ks ls k ++ [z] else valX ks ls k
  | [], [], q, k, z, _ => by
    show valX [q] [[z]] k = _
    rw [valX]
    split <;> rfl
  | [], _ :: _, _, _, _, h => by cases h
  | _ :: _, [], _, _, _, h => by cases h
  | k' :: ks, l :: ls, q, k, z, h => by
    have ih := valX_add (ks := ks) (ls := ls) q k z (by simpa using h)
    unfold putKs at ih ⊢
    rw [addG]
    by_cases e : k' = q
    · subst e
      rw [if_pos (List.mem_cons_self ..), if_pos rfl, valX, valX]
      by_cases e2 : k' = k
      · rw [if_pos e2, if_pos e2, if_pos e2]
      · rw [if_neg e2, if_neg e2, if_neg e2]
    · rw [if_neg e]
      have e3 : (if q ∈ k' :: ks then k' :: ks else k' :: ks ++ [q]) = k' :: (if q ∈ ks then ks else ks ++ [q]) := by
        by_cases m : q ∈ ks
        · rw [if_pos m, if_pos (List.mem_cons_of_mem _ m)]
        · rw [if_neg m, if_neg fun h => m ((List.mem_cons.mp h).resolve_left fun z => e z.symm)]
          rfl
      rw [e3, valX, valX]
      by_cases e2 : k' = k
      · rw [if_pos e2, if_pos e2, if_neg fun z => e (e2.trans z.symm)]
      · rw [if_neg e2, if_neg e2, ih]
end
theorem end_fold (i : Int) : ∀ (m : List Mv) (st : Gst), st.1.length = st.2.length → valX (m.foldl (fun st x => grpS st (some (.inl x.a, .int x.b))) st).1 (m.foldl (fun st x => grpS st (some (.inl x.a, .int x.b))) st).2 (.inl i) = valX st.1 st.2 (.inl i) ++ (nxt m i).map D.int
  | [], st, _ => by
    show _ = _ ++ []
    rw [List.append_nil]
    rfl
  | x :: m, st, h => by
    have q := end_fold i m (grpS st (some (.inl x.a, .int x.b))) (by
      show (putKs st.1 (Sum.inl x.a)).length = (addG st.1 st.2 (Sum.inl x.a) (.int x.b)).length
      rw [addG_len _ _ _ _ h])
    rw [List.foldl_cons, q]
    show valX (putKs st.1 (Sum.inl x.a)) (addG st.1 st.2 (Sum.inl x.a) (.int x.b)) (.inl i) ++ _ = _
    rw [valX_add _ _ _ h]
    unfold nxt
    by_cases e : x.a = i
    · rw [if_pos (by rw [e]), List.filter_cons_of_pos (by rw [decide_eq_true e]), List.map_cons, List.map_cons, List.append_assoc]
      rfl
    · rw [if_neg fun z => e (Sum.inl.inj z), List.filter_cons_of_neg (by rw [decide_eq_false e]; exact Bool.false_ne_true)]
theorem end_val (m : List Mv) (i : Int) : (Tl.valD (endG m).1 ((endG m).2.map D.lst) (.inl i)).getD (.lst []) = .lst ((nxt m i).map D.int) := by
  rw [valX_D, show valX (endG m).1 (endG m).2 (.inl i) = _ from end_fold i m ([], []) rfl]
  rfl
theorem nxt_in {n : Int} {s : List Int} {m : List Mv} (h : OkB n s m) {i j : Int} (hj : j ∈ nxt m i) : 0 ≤ j ∧ j < n := by
  obtain ⟨x, hx, rfl⟩ := List.mem_map.mp hj
  have q := h.mr x (List.mem_filter.mp hx).1
  exact ⟨q.b0, q.bn⟩
theorem rch_in {n : Int} {s : List Int} {m : List Mv} (h : OkB n s m) {x : Int} (r : Rch (nxt m) s x) : 0 ≤ x ∧ x < n := by
  cases r with
  | base hx => exact h.sr x hx
  | step _ hy => exact nxt_in h hy
open Classical in
/-- the reachable states -/
noncomputable def rchN (n : Int) (s : List Int) (m : List Mv) : List Int := (rgI n).filter fun x => decide (Rch (nxt m) s x)
open Classical in
theorem mem_rchN {n : Int} {s : List Int} {m : List Mv} (h : OkB n s m) {x : Int} : x ∈ rchN n s m ↔ Rch (nxt m) s x := by
  unfold rchN
  rw [List.mem_filter]
  exact ⟨fun z => of_decide_eq_true z.2, fun z => ⟨mem_rgI.mpr (rch_in h z), decide_eq_true z⟩⟩
def fReach : FnL := fun ds k => ∃ n s m, ds = [.box n s m] ∧ OkB n s m ∧ n < 64 ∧ m.length < 1000 ∧ k ((sI (rchN n s m)).map D.int)
section
variable {P : Program} {w : World} {K : PySem.W.Frag} {mg : Str → Option Value} {base : Heap} {f : Addr} {fd : FuncData}
theorem ok_reachable (F : Fun K "reachable" "Box.reachable" s_Box_reachable f fd) (T : BI mg) (CB : BoxC P w K mg base (ga K "Box")) (c_ends_of : Co P w K mg base CX0 1 "ends_of" ["links"] (spD K fEnds)) (c_reached : Co P w K mg base CX0 1 "reached" ["ends", "states"] (spL K fReached)) :
    FnOk P w K mg base CX0 2 f fd ["self"] (spL K fReach) := by
  refine F.ok sc_Box_reachable (fun vs H Q E h => len_L h fun ds k ⟨n, s, m, e, _⟩ => by rw [e]; rfl) (fun cdv A outer s H vs Q E hr h => ⟨_, (pss_one (ps_ret (pe_co c_reached (hr.mono (by decide)) (by rfl) (pa_cons (pe_co c_ends_of (hr.mono (by decide)) (by rfl) (pa_cons (pe_fld (pv 0) rfl) pa_nil)) (pa_cons (pe_fld (pv 0) rfl) pa_nil))))), body_L (fun W ds k hf => ?_) h⟩)
  obtain ⟨n, s, m, rfl, ok, n64, ml, hk⟩ := hf
  have n1 := ok.n1
  have sl : s.length ≤ (rgI n).length := List.Nodup.length_le_of_subset ok.sd fun x hx => mem_rgI.mpr (ok.sr x hx)
  have rl := rgI_len n
  refine sx_retL (exl_call (exa_cons (ex_call (exa_cons (ex_fld CB.cls CB.n3 (ex_var rfl ⟨_, rfl, exa_nil ⟨m, rfl, ml, exa_cons (ex_fld CB.cls CB.n2 (ex_var rfl ⟨_, rfl, exa_nil ⟨nxt m, _, _, s, rgI n, rfl, end_val m, fun i => ?_, by omega, fun x hx => mem_rgI.mpr (ok.sr x hx), fun i _ j hj => mem_rgI.mpr (nxt_in ok hj), ok.sd, by omega, fun R hR => ?_⟩⟩))⟩⟩))))))
  · unfold nxt
    rw [List.length_map]
    exact Nat.lt_of_le_of_lt (List.length_filter_le _ _) ml
  · rw [sI_congr (l := R) (m := rchN n s m) fun x => (hR x).trans (mem_rchN ok).symm]
    exact hk
end
end K16
/-! ## T19 -/
set_option Elab.async false
set_option linter.all false
set_option maxRecDepth 100000
set_option maxHeartbeats 4000000
namespace Tl
open PySem PySem.Spec PyProof.Rows L2 He Vx
section
variable {c : C1} {Γ : List Sl} {t u tl : TE} {P : Post}
/-- x, y, z = e, f, (a new list) -/
theorem sx_par3L {i j l : Nat} (h : Ex c Γ t fun a => Ex c Γ u fun b => ExL c Γ tl fun m => P.nx (((Γ.set i (.val a)).set j (.val b)).set l (.own m))) : Sx c Γ (tAsg (tTup (tCons t (tCons u (tCons tl tNil)))) (gTup c.K 3 (gCons (gName i) (gCons (gName j) (gCons (gName l) gNil))))) P := fun H0 own σ H E R e =>
  h H0 own σ H _ R fun a v H1 h1 s1 r1 => h1 H0 own σ H1 _ (R.stay s1) fun b w H2 h2 s2 r2 => h2 H0 own σ H2 _ ((R.stay s1).stay s2) fun m p xs H3 z s3 n ea r => by
    have R2 := (R.stay s1).stay s2
    have R3 := (R2.put (r1.mono (s2.ms R.b.pw own)) i).put r2 j
    have b' := R3.b.stay s3
    obtain ⟨nw, no, n0⟩ := R3.b.free n
    have hb : Base c H0 (p :: own) H3 := ⟨b'.pot, b'.pw, b'.wf, b'.keep, fun x hx => (List.mem_cons.mp hx).elim (fun y => y ▸ n0) (b'.fresh x), fun x hx => (List.mem_cons.mp hx).elim (fun y => by rw [y, ea]; exact fun z => by cases z) (b'.here x)⟩
    have R4 := R3.later n s3 (by rw [ea]; exact fun z => by cases z)
    have R5 := (R3.stay s3).putS (s := .own m) no rfl hb ⟨p, xs, rfl, List.mem_cons_self .., ea, r⟩ l R4.sl
    refine ⟨by show 3 ≤ sizeLine; decide, fun q hq => ⟨q, _, rfl, SqT.of upd_same, rfl, v, _, rfl, w, _, rfl, .ref p, _, rfl, rfl, ?_⟩⟩
    exact e.nx _ _ _ _ (R5.stay (R5.b.made hq)) z
end
end Tl
/-! ## K16D -/
set_option Elab.async false
set_option linter.all false
set_option maxRecDepth 100000
set_option maxHeartbeats 4000000
namespace K16
open PySem PySem.Spec PyProof.Rows L2 He Vx Tl

/-- all that is known of the class -/
structure Bx (P : Program) (w : World) (K : PySem.W.Frag) (mg : Str → Option Value) (base : Heap) : Prop where
  cl : Cls K (ga K "Box")
  CB : BoxC P w K mg base (ga K "Box")
  MB : MkB P w K mg base
  p_states : Po P w K mg base 1 "states" (spD K fStates)
  p_is_sure : Po P w K mg base 1 "is_sure" (spD K fSure)
  m_starts : Mo P w K mg base 1 "starts" ["self"] (spL K fStarts)
  m_steps : Mo P w K mg base 1 "steps" ["self"] (spL K fSteps)
  m_signs : Mo P w K mg base 1 "signs" ["self"] (spL K fSigns)
  m_reachable : Mo P w K mg base 2 "reachable" ["self"] (spL K fReach)
  m_steps_from : Mo P w K mg base 4 "steps_from" ["self", "state"] (spL K fFrom)
  m_steps_to : Mo P w K mg base 4 "steps_to" ["self", "state"] (spL K fTo)
  m_with_starts : Mo P w K mg base 9 "with_starts" ["self", "starts"] (spB K fWith)
  m_numbered : Mo P w K mg base 10 "numbered" ["self", "order"] (spB K fNumb)
  m_turned : Mo P w K mg base 9 "turned" ["self"] (spB K fTurned)
  di : ∃ g, PySem.W.findIn K (.ref (ga K "Box")) "__getitem__" = some (some (.ref g)) ∧ PySem.W.fnIn K g = true ∧ PySem.W.isFn K (.ref g) = true ∧ FnR P w K mg base CX0 4 g (spD K fItem)
  dq : ∃ g, PySem.W.findIn K (.ref (ga K "Box")) "__eq__" = some (some (.ref g)) ∧ PySem.W.isFn K (.ref g) = true ∧ FnR P w K mg base CX0 1 g (spD K fEq)
  dn : PySem.W.mroIn K (ga K "Box") (.type "object") = some true ∧ PySem.W.findIn K (.ref (ga K "Box")) "__ne__" = some (some (.builtin "object.__ne__"))
  dl : ∃ g, PySem.W.findIn K (.ref (ga K "Box")) "__len__" = some (some (.ref g)) ∧ PySem.W.isFn K (.ref g) = true ∧ FnR P w K mg base CX0 1 g (spD K fLen)
def dealD (n : Int) (s : List Int) (m : List Mv) : D := .dK [.inr "many", .inr "firsts", .inr "moves"] [.int n, .lst (s.map D.int), .lst (m.map mvD)]
/-- a box's parts in their sequence -/
structure Deal (n : Int) (s : List Int) (m : List Mv) : Prop where
  ok : OkB n s m
  n6 : n ≤ 6
  m14 : m.length ≤ 14
  ns : sI s = s
  nm : mvE.srt m = m
theorem Deal.sl {n : Int} {s : List Int} {m : List Mv} (h : Deal n s m) : s.length ≤ 6 := by
  have q : s.length ≤ (rgI n).length := List.Nodup.length_le_of_subset h.ok.sd fun x hx => mem_rgI.mpr (h.ok.sr x hx)
  rw [rgI_len] at q
  have := h.n6
  have := h.ok.n1
  omega
def fMadeL : FnB := fun ds k => ∃ n s m, ds = [dealD n s m] ∧ Deal n s m ∧ k n s m
def fDraw : Fn := fun ds k => ∃ n : Int, ds = [.int n] ∧ 1 ≤ n ∧ n < 2 ^ 200 ∧ ∀ i : Int, 0 ≤ i → i < n → k (.int i)
def fPick : Fn := fun ds k => ∃ l, ds = [.lst l] ∧ 1 ≤ l.length ∧ l.length ≤ 1000 ∧ ∀ x ∈ l, k x
def fMixed : Fn := fun ds k => ∃ l, ds = [.lst l] ∧ l.length ≤ 1000 ∧ ∀ l', l'.Perm l → k (.lst l')
def fMenu : Fn := fun ds k => ds = [] ∧ ∀ l : List (Str × Str), 1 ≤ l.length → l.length ≤ 6 → (∀ p ∈ l, nm p.1 = true ∧ nm p.2 = true) → k (.lst (l.map sgD))
def fDeal : Fn := fun ds k => ds = [.int 6, .int 14] ∧ ∀ n s m, Deal n s m → k (dealD n s m)
section
variable {P : Program} {w : World} {K : PySem.W.Frag} {mg : Str → Option Value} {base : Heap}
theorem stp_msk {p : Addr} {W : List Addr} {H H' : Hp} (hp : p ∈ W) (s : Stp p H H') : Same (msk W H) (msk W H') := fun a o e => by
  obtain ⟨n, e⟩ := mk_some e
  have ne : a ≠ p := fun z => n (by rw [z]; exact hp)
  have q := s.k a o ((off_ne ne).trans e)
  rw [off_ne ne] at q
  exact (mk_out n).trans q
theorem cd_draw2 (C : Cd P w K mg base 1 "_law_draw" ["_law_pot_here", "_law_many"] spDraw) : Cd P w K mg base 1 "_law_draw" ["_law_pot_here", "_law_many"] (Tl.spP K fDraw) := cd_imp C fun vs H Q E ⟨p, W, vs', ds, k, e, hp, hP, hW, r, ⟨n, ed, n1, n2, hk⟩, q⟩ => by
  subst e ed
  obtain ⟨v, rfl, r1⟩ := r.one
  cases r1
  exact ⟨p, n, rfl, hP, n1, n2, fun d H' st d0 d1 => q _ _ H' (hk d d0 d1) st (.int d)⟩
theorem drs_mem {H : Hp} : ∀ {xs : List V} {l : List D} {x : V}, DRs K H xs l → x ∈ xs → ∃ d ∈ l, DR K H x d
  | _, _, _, .nil, h => nomatch h
  | _, _, x, .cons (d := d) a b, h => by
    rcases List.mem_cons.mp h with rfl | h
    · exact ⟨d, List.mem_cons_self .., a⟩
    · obtain ⟨e, he, r⟩ := drs_mem b h
      exact ⟨e, List.mem_cons_of_mem _ he, r⟩
theorem cd_pick2 (C : Cd P w K mg base 2 "_law_pick" ["_law_pot_here", "_law_menu_here"] (spPick K)) : Cd P w K mg base 2 "_law_pick" ["_law_pot_here", "_law_menu_here"] (Tl.spP K fPick) := cd_imp C fun vs H Q E ⟨p, W, vs', ds, k, e, hp, hP, hW, r, ⟨l, ed, l1, l2, hk⟩, q⟩ => by
  subst e ed
  obtain ⟨v, rfl, r1⟩ := r.one
  obtain ⟨a, xs, rfl, ha, na, rx⟩ := r1.lst_of
  have ap : a ≠ p := fun z => na (by rw [z]; exact hp)
  exact ⟨p, a, xs, rfl, hP, SqL.of ((off_ne ap).trans ha), by rw [rx.len]; exact l1, by rw [rx.len]; exact l2, fun x H' st hx => by
    obtain ⟨d, hd, rd⟩ := drs_mem rx hx
    exact q d x H' (hk d hd) st (rd.mono (stp_msk hp st))⟩
theorem drs_perm {H : Hp} {xs ys : List V} (pm : ys.Perm xs) : ∀ {l : List D}, DRs K H xs l → ∃ l', l'.Perm l ∧ DRs K H ys l' := by
  induction pm with
  | nil => exact fun r => ⟨_, List.Perm.refl _, r⟩
  | cons x _ ih =>
    intro l r
    cases r with
    | cons a b =>
      obtain ⟨l', h1, h2⟩ := ih b
      exact ⟨_ :: l', h1.cons _, .cons a h2⟩
  | swap x y _ =>
    intro l r
    cases r with
    | cons a b =>
      cases b with
      | cons b c => exact ⟨_ :: _ :: _, List.Perm.swap .., .cons b (.cons a c)⟩
  | trans _ _ ih1 ih2 =>
    intro l r
    obtain ⟨l1, h1, h2⟩ := ih2 r
    obtain ⟨l2, h3, h4⟩ := ih1 h2
    exact ⟨l2, h3.trans h1, h4⟩
theorem cd_mixed2 (C : Cd P w K mg base 2 "_law_mixed" ["_law_pot_here", "_law_menu_here"] (spMixed K)) : Cd P w K mg base 2 "_law_mixed" ["_law_pot_here", "_law_menu_here"] (Tl.spP K fMixed) := cd_imp C fun vs H Q E ⟨p, W, vs', ds, k, e, hp, hP, hW, r, ⟨l, ed, l2, hk⟩, q⟩ => by
  subst e ed
  obtain ⟨v, rfl, r1⟩ := r.one
  obtain ⟨a, xs, rfl, ha, na, rx⟩ := r1.lst_of
  have ap : a ≠ p := fun z => na (by rw [z]; exact hp)
  refine ⟨p, a, xs, rfl, hP, SqL.of ((off_ne ap).trans ha), by rw [rx.len]; exact l2, fun D ys H' st nD Dp eD pm => ?_⟩
  obtain ⟨l', h1, h2⟩ := drs_perm pm rx
  exact q _ _ H' (hk l' h1) st (.lst ((mk_out fun z => hW D z nD).trans eD) (h2.mono (stp_msk hp st)))
theorem len_P {f : Fn} {vs : List V} {H : Hp} {Q : VK} {E : XK} {n : Nat} (h : Tl.spP K f vs H Q E) (g : ∀ ds k, f ds k → ds.length = n) : vs.length = n + 1 := by
  obtain ⟨p, W, vs', ds, k, rfl, _, _, _, r, hf, _⟩ := h
  rw [List.length_cons, r.len, g ds k hf]
theorem cd_made (F : At K mg "_law_made" s_law_made) (T : BI mg) (B : Bx P w K mg base) : Cd P w K mg base 8 "_law_made" ["_law_deal_here"] (spB K fMadeL) := by
  obtain ⟨f0, fd0, e0, d0, mk0, fn0, b3, v2, b2, em⟩ := B.MB.ex
  have MB := B.MB
  refine cd_mk F sc_law_made (fun vs H Q E h => len_B h fun ds k ⟨n, s, m, e, _⟩ => by rw [e]; rfl) (fun _ _ _ _ _ _ us hl => match us, hl with | [_], _ => rfl) (fun f cdv A outer s H vs Q E hr hG h => ⟨_, (pss_one (ps_ret (L2.pe_make mk0 fn0 (hr.mono (by decide)) (by rfl) MB.hm b3 .nil pass0 (pa_cons (pe_dget (hu_of hr) (pv 0) pe_str (fun _ _ => rfl)) (pa_cons (pe_dget (hu_of hr) (pv 0) pe_str (fun _ _ => rfl)) (pa_cons (pe_dget (hu_of hr) (pv 0) pe_str (fun _ _ => rfl)) pa_nil)))))), body_B (fun W ds k hf => ?_) h⟩)
  obtain ⟨n, s, m, rfl, dl, hk⟩ := hf
  refine sx_retB (exb_make (c := ⟨K, none, W⟩) (dds := []) (fun _ => .nil) (exa_cons (ex_dget (ex_var rfl ⟨_, _, rfl, ex_str ⟨.inr "many", .int n, rfl, rfl, exa_cons (ex_dget (ex_var rfl ⟨_, _, rfl, ex_str ⟨.inr "firsts", .lst (s.map D.int), rfl, rfl, exa_cons (ex_dget (ex_var rfl ⟨_, _, rfl, ex_str ⟨.inr "moves", .lst (m.map mvD), rfl, rfl, exa_nil ⟨n, s, m, _, _, rfl, .inl rfl, .inl rfl, dl.ok, dl.n6, ?_, ?_, ?_⟩⟩⟩))⟩⟩))⟩⟩))))
  · have := dl.m14
    omega
  · have := dl.sl
    omega
  · rw [dl.ns, dl.nm]
    exact hk
end
end K16
/-! ## K16E -/
set_option Elab.async false
set_option linter.all false
set_option maxRecDepth 100000
set_option maxHeartbeats 4000000
namespace K16
open PySem PySem.Spec PyProof.Rows L2 He Vx Tl

def cutL {α : Type} (l : List α) (lo hi : Option Int) : List α := (l.drop (HT.sIx l.length 0 lo)).take (HT.sIx l.length l.length hi - HT.sIx l.length 0 lo)
theorem cut_map {α : Type} (g : α → D) (l : List α) (lo hi : Option Int) : Tl.cutD (l.map g) lo hi = (cutL l lo hi).map g := by
  unfold Tl.cutD cutL
  rw [List.length_map, List.map_take, List.map_drop]
theorem cut_mem {α : Type} {l : List α} {lo hi : Option Int} {x : α} (h : x ∈ cutL l lo hi) : x ∈ l := List.mem_of_mem_drop (List.mem_of_mem_take h)
def menu0 : List (Str × Str) := [("go", "ok"), ("look", "ok"), ("go", "bad"), ("look", "b"), ("abcdefgh", "zzzzzzzz"), ("a", "go")]
theorem menu0_ok : ∀ p ∈ menu0, nm p.1 = true ∧ nm p.2 = true := by
  intro p hp
  simp only [menu0, List.mem_cons, List.not_mem_nil, or_false] at hp
  rcases hp with rfl | rfl | rfl | rfl | rfl | rfl <;> exact ⟨by decide +kernel, by decide +kernel⟩
section
variable {P : Program} {w : World} {K : PySem.W.Frag} {mg : Str → Option Value} {base : Heap}
theorem cd_menu2 (F : At K mg "_law_menu" s_law_menu) (T : BI mg) (c__law_draw : Cd P w K mg base 1 "_law_draw" ["_law_pot_here", "_law_many"] (Tl.spP K fDraw)) : Cd P w K mg base 2 "_law_menu" ["_law_pot_here"] (Tl.spP K fMenu) := by
  refine cd_mk F sc_law_menu (fun vs H Q E h => len_P h fun ds k ⟨e, _⟩ => by rw [e]; rfl) (fun _ _ _ _ _ _ us hl => match us, hl with | [_], _ => rfl) (fun f cdv A outer s H vs Q E hr hG h => ⟨_, (pss_cons (ps_set (i := 1) sc_law_menu.nd rfl (Or.inl rfl) (pe_lst (pa_cons (pe_tup (pa_cons pe_str (pa_cons pe_str pa_nil))) (pa_cons (pe_tup (pa_cons pe_str (pa_cons pe_str pa_nil))) (pa_cons (pe_tup (pa_cons pe_str (pa_cons pe_str pa_nil))) (pa_cons (pe_tup (pa_cons pe_str (pa_cons pe_str pa_nil))) (pa_cons (pe_tup (pa_cons pe_str (pa_cons pe_str pa_nil))) (pa_cons (pe_tup (pa_cons pe_str (pa_cons pe_str pa_nil))) pa_nil))))))))
  (pss_cons (ps_set (i := 2) sc_law_menu.nd rfl (Or.inl rfl) (pe_cd c__law_draw (hr.mono (by decide)) hG (by rfl) (pa_cons (pv 0) (pa_cons pe_int pa_nil))))
  (pss_one (ps_ret (pe_slice (Tl.sl_listK (K := K) rfl) (pe_op op_cat (pe_slice (Tl.sl_listK (K := K) rfl) (pv 1) (po_some (pv 2)) po_none) (pe_slice (Tl.sl_listK (K := K) rfl) (pv 1) po_none (po_some (pv 2)))) po_none (po_some (pe_op op_add pe_int (pe_cd c__law_draw (hr.mono (by decide)) hG (by rfl) (pa_cons (pv 0) (pa_cons pe_int pa_nil)))))))))), body_P (fun p W ds k hf => ?_) (by decide) h⟩)
  obtain ⟨rfl, hk⟩ := hf
  have two : (2 : Nat) ≤ sizeLine := by decide
  refine sx_seq (sx_set (ex_L (exl_lst (exa_cons (ex_tup (exa_cons (ex_str (exa_cons (ex_str (exa_nil ⟨two, exa_cons (ex_tup (exa_cons (ex_str (exa_cons (ex_str (exa_nil ⟨two, exa_cons (ex_tup (exa_cons (ex_str (exa_cons (ex_str (exa_nil ⟨two, exa_cons (ex_tup (exa_cons (ex_str (exa_cons (ex_str (exa_nil ⟨two, exa_cons (ex_tup (exa_cons (ex_str (exa_cons (ex_str (exa_nil ⟨two, exa_cons (ex_tup (exa_cons (ex_str (exa_cons (ex_str (exa_nil ⟨two, exa_nil ⟨by decide, ?_⟩⟩))))))⟩))))))⟩))))))⟩))))))⟩))))))⟩))))))))))
  refine sx_seq (sx_set (ex_callP rfl (exa_cons (ex_int (exa_nil ⟨6, rfl, by decide, by decide, fun f f0 f1 => ?_⟩)))))
  have g1 : Ex ⟨K, some p, W⟩ ((Sl.pot :: valG 2 []).set 1 (.val (.lst (menu0.map sgD))) |>.set 2 (.val (.int f))) (tVar 1) (fun d => d = .lst (menu0.map sgD)) := ex_var rfl rfl
  refine sx_ret (ex_L (exl_sl (ex_L (exl_op (ex_L (exl_sl (ex_var rfl (exo_some (ex_var rfl ⟨f, rfl, exo_none (sl_l (ex_L (exl_sl (ex_var rfl (exo_none (exo_some (ex_var rfl ⟨f, rfl, sl_l (ol_cat ?_ (exo_none (exo_some (ex_op (ex_int (ex_callP rfl (exa_cons (ex_int (exa_nil ⟨4, rfl, by decide, by decide, fun d d0 d1 => od_ii ⟨1 + d, rfl, sl_l ?_⟩⟩)))))))))⟩)))))))⟩)))))))))
  · rw [sizeLine_eq]
    refine Nat.le_trans (Nat.add_le_add (b := 6) (d := 6) ?_ ?_) (by decide)
    · unfold Tl.cutD
      rw [List.length_take, List.length_drop]
      show min _ (6 - _) ≤ 6
      omega
    · unfold Tl.cutD
      rw [List.length_take, List.length_drop]
      show min _ (6 - _) ≤ 6
      omega
  · have e : ([.tup [.str "go", .str "ok"], .tup [.str "look", .str "ok"], .tup [.str "go", .str "bad"], .tup [.str "look", .str "b"], .tup [.str "abcdefgh", .str "zzzzzzzz"], .tup [.str "a", .str "go"]] : List D) = menu0.map sgD := rfl
    rw [e, cut_map, cut_map, ← List.map_append, cut_map]
    obtain ⟨fn, rfl⟩ : ∃ fn : Nat, f = (fn : Int) := ⟨f.toNat, by omega⟩
    obtain ⟨dn, rfl⟩ : ∃ dn : Nat, d = (dn : Int) := ⟨d.toNat, by omega⟩
    have l6 : (cutL menu0 (some (fn : Int)) none ++ cutL menu0 none (some (fn : Int))).length = 6 := by
      rw [List.length_append]
      unfold cutL
      rw [List.length_take, List.length_drop, List.length_take, List.length_drop, HT.sIx_nat, HT.sIx_none, HT.sIx_nat, HT.sIx_none]
      show min (6 - min fn 6) (6 - min fn 6) + min (min fn 6 - 0) (6 - 0) = 6
      omega
    have l2 : (cutL (cutL menu0 (some (fn : Int)) none ++ cutL menu0 none (some (fn : Int))) none (some (1 + (dn : Int)))).length = min (1 + dn) 6 := by
      rw [show (1 + (dn : Int)) = ((1 + dn : Nat) : Int) from by omega]
      generalize cutL menu0 (some (fn : Int)) none ++ cutL menu0 none (some (fn : Int)) = L at l6
      unfold cutL
      rw [List.length_take, List.length_drop, HT.sIx_nat, HT.sIx_none, l6]
      omega
    refine hk _ (by rw [l2]; omega) (by rw [l2]; omega) fun p hp => ?_
    rcases List.mem_append.mp (cut_mem hp) with h | h
    · exact menu0_ok p (cut_mem h)
    · exact menu0_ok p (cut_mem h)
end
end K16
/-! ## K16F -/
set_option Elab.async false
set_option linter.all false
set_option maxRecDepth 100000
set_option maxHeartbeats 4000000
namespace K16
open PySem PySem.Spec PyProof.Rows L2 He Vx Tl

theorem srt_len {α : Type} [DecidableEq α] (T : TupE α) (l : List α) : (T.srt l).length ≤ l.length := by
  unfold TupE.srt
  rw [List.length_mergeSort]
  exact dd_len l
theorem sI_id (l : List Int) : sI (sI l) = sI l := sI_eq (sI_nodup l) (sI_sorted l) fun x => Iff.rfl
theorem srt_id (l : List Mv) : mvE.srt (mvE.srt l) = mvE.srt l := mvE.srt_eq (mvE.srt_nodup l) (mvE.srt_sorted l) fun x => Iff.rfl
theorem deal_of {n : Int} {s : List Int} {m : List Mv} (h : OkB n s m) (n6 : n ≤ 6) (m14 : m.length ≤ 14) : Deal n (sI s) (mvE.srt m) := ⟨sI_ok h, n6, Nat.le_trans (srt_len _ _) m14, sI_id s, srt_id m⟩
theorem sI_ne {s : List Int} (s0 : s ≠ []) (e : sI s = []) : False := by
  cases s with
  | nil => exact s0 rfl
  | cons a s =>
    have : a ∈ sI (a :: s) := mem_sI.mpr (List.mem_cons_self ..)
    rw [e] at this
    cases this
theorem okB_of {n : Int} {s : List Int} {m : List Mv} (n1 : 1 ≤ n) (s0 : s ≠ []) (sr : ∀ i ∈ s, 0 ≤ i ∧ i < n) (md : m.Nodup) (mr : ∀ x ∈ m, MvK n x) (n6 : n ≤ 6) (m14 : m.length ≤ 14) : Deal n (sI s) (mvE.srt m) where
  ok := ⟨n1, fun e => sI_ne s0 e, sI_nodup s, fun i hi => sr i (mem_sI.mp hi), mvE.srt_nodup m, fun x hx => mr x (mvE.mem_srt.mp hx)⟩
  n6 := n6
  m14 := Nat.le_trans (srt_len _ _) m14
  ns := sI_id s
  nm := srt_id m
theorem rng_at {cnt i : Nat} {d : D} (h : (rngD 0 cnt)[i]? = some d) : i < cnt ∧ d = .int (i : Nat) := by
  unfold rngD at h
  rw [List.getElem?_map] at h
  obtain ⟨j, hj, rfl⟩ := Option.map_eq_some_iff.mp h
  have l := (List.getElem?_eq_some_iff.mp hj).1
  rw [List.length_range] at l
  rw [List.getElem?_range l] at hj
  cases hj
  exact ⟨l, by rw [Int.zero_add]⟩
theorem rng_len (cnt : Nat) : (rngD 0 cnt).length = cnt := by
  unfold rngD
  rw [List.length_map, List.length_range]
section
variable {P : Program} {w : World} {K : PySem.W.Frag} {mg : Str → Option Value} {base : Heap}
theorem cd_deal (F : At K mg "_law_deal" s_law_deal) (T : BI mg) (c__law_draw : Cd P w K mg base 1 "_law_draw" ["_law_pot_here", "_law_many"] (Tl.spP K fDraw)) (c__law_pick : Cd P w K mg base 2 "_law_pick" ["_law_pot_here", "_law_menu_here"] (Tl.spP K fPick)) (c__law_menu : Cd P w K mg base 2 "_law_menu" ["_law_pot_here"] (Tl.spP K fMenu)) :
    Cd P w K mg base 3 "_law_deal" ["_law_pot_here", "_law_most", "_law_wide"] (Tl.spP K fDeal) := by
  refine cd_mk F sc_law_deal (fun vs H Q E h => len_P h fun ds k ⟨e, _⟩ => by rw [e]; rfl) (fun _ _ _ _ _ _ us hl => match us, hl with | [_, _, _], _ => rfl) (fun f cdv A outer s H vs Q E hr hG h => ⟨_, (pss_cons (ps_asg (pe_tup (pa_cons (pe_cd c__law_menu (hr.mono (by decide)) hG (by rfl) (pa_cons (pv 0) pa_nil)) (pa_cons (pe_op op_add pe_int (pe_cd c__law_draw (hr.mono (by decide)) hG (by rfl) (pa_cons (pv 0) (pa_cons (pv 1) pa_nil)))) (pa_cons (pe_lst pa_nil) pa_nil)))) (pg_tup (by rfl) (pgs_cons (pg_name (i := 3) sc_law_deal.nd rfl (Or.inl rfl)) (pgs_cons (pg_name (i := 4) sc_law_deal.nd rfl (Or.inr rfl)) (pgs_cons (pg_name (i := 5) sc_law_deal.nd rfl (Or.inl rfl)) pgs_nil)))))
  (pss_cons (ps_for PassesOwn.never rfl (pi_range1 (by rfl) T.range (pa_cons (pe_cd c__law_draw (hr.mono (by decide)) hG (by rfl) (pa_cons (pv 0) (pa_cons (pe_op op_add (pv 2) pe_int) pa_nil))) pa_nil)) (pg_name (i := 6) sc_law_deal.nd rfl (Or.inl rfl)) (pss_cons (ps_asg (pe_cd c__law_pick (hr.mono (by decide)) hG (by rfl) (pa_cons (pv 0) (pa_cons (pv 3) pa_nil))) (pg_tup (by rfl) (pgs_cons (pg_name (i := 7) sc_law_deal.nd rfl (Or.inl rfl)) (pgs_cons (pg_name (i := 8) sc_law_deal.nd rfl (Or.inl rfl)) pgs_nil))))
  (pss_cons (ps_set (i := 9) sc_law_deal.nd rfl (Or.inl rfl) (pe_tup (pa_cons (pe_cd c__law_draw (hr.mono (by decide)) hG (by rfl) (pa_cons (pv 0) (pa_cons (pv 4) pa_nil))) (pa_cons (pv 7) (pa_cons (pv 8) (pa_cons (pe_cd c__law_draw (hr.mono (by decide)) hG (by rfl) (pa_cons (pv 0) (pa_cons (pv 4) pa_nil))) pa_nil))))))
  (pss_one (ps_if (pt_cmpR (Tl.op_notInDK (K := K) rfl (room65 (hr.mono (by decide)))) (pv 9) (pv 5) rfl) (pss_one (ps_expr (pe_bm PySem.F.plainAttrs_list PySem.F.slot_list_append PySem.F.type_list_append mt_append (pv 5) (pa_cons (pv 9) pa_nil)))) pss_nil)))))
  (pss_cons (ps_setLc (i := 10) (own := [("_law_turn", 6)]) (g := (gName 6)) (tt := tYes) (by rfl) sc_law_deal.nd rfl rfl (sw_true rfl rfl rfl (by decide +kernel)) (pi_range1 (by rfl) T.range (pa_cons (pe_op op_add pe_int (pe_cd c__law_draw (hr.mono (by decide)) hG (by rfl) (pa_cons (pv 0) (pa_cons pe_int pa_nil)))) pa_nil)) (blkOk_by (own := [("_law_turn", 6)]) (N := ["_law_pot_here", "_law_most", "_law_wide", "_law_menu_here", "_law_many", "_law_moves", "_law_turn", "_law_call", "_law_answer", "_law_move", "_law_firsts"]) (sc := defScope s_law_deal) (by decide +kernel)) (fun _ _ _ _ _ => (pg_name (i := 6) sc_law_deal.nd rfl (Or.inl rfl))) (fun _ _ _ _ _ => pts_nil) (fun _ _ _ _ _ => (pe_cd c__law_draw (hr.mono (by decide)) hG (by rfl) (pa_cons (pv 0) (pa_cons (pv 4) pa_nil)))))
  (pss_one (ps_ret (pe_disp (pps_cons pe_str (pv 4) (pps_cons pe_str (pe_callB (cr_sortedSet rfl) (by rfl) T.sorted bt_sorted (pa_cons (pe_callTy (cr_setL rfl) (by rfl) T.set bt_set (pa_cons (pv 10) pa_nil)) pa_nil)) (pps_cons pe_str (pe_callB (cr_sortS hr.units) (by rfl) T.sorted bt_sorted (pa_cons (pv 5) pa_nil)) pps_nil))) (by rfl) (by rfl) (fun z => by cases z) (by decide))))))), body_P (fun p W ds k hf => ?_) (by decide) h⟩)
  obtain ⟨rfl, hk⟩ := hf
  refine sx_seq (sx_par3L (ex_callP rfl (exa_nil ⟨rfl, fun M l1 l6 gM => ex_op (ex_int (ex_callP rfl (exa_cons (ex_var rfl (exa_nil ⟨6, rfl, by decide, by decide, fun d d0 d6 => od_ii (exl_lst (exa_nil ⟨Nat.zero_le _, ?_⟩))⟩)))))⟩)))
  dsimp only
  generalize hn : 1 + d = n
  have n1 : 1 ≤ n := by omega
  have n6 : n ≤ 6 := by omega
  refine sx_seq (sx_for (js := [6]) (exi_rng1 (exa_cons (ex_callP rfl (exa_cons (ex_op (ex_var rfl (ex_int (od_ii (exa_nil ⟨14 + 1, rfl, by decide, by decide, fun cnt c0 c1 => exa_nil ⟨cnt, rfl, by omega, by omega, ?_⟩⟩))))))))))
  refine ⟨fun i Γ' => ∃ mv u6 u7 u8 u9, Γ' = [.pot, .val (.int 6), .val (.int 14), .val (.lst (M.map sgD)), .val (.int n), .own (mv.map mvD), u6, u7, u8, u9, .un] ∧ mv.Nodup ∧ (∀ x ∈ mv, MvK n x) ∧ mv.length ≤ i, ⟨[], .un, .un, .un, .un, rfl, List.nodup_nil, fun _ h => (nomatch h), Nat.le_refl _⟩, fun i e Γ' he iv => ?_, fun Γ' iv => ?_⟩
  · obtain ⟨mv, u6, u7, u8, u9, rfl, nd, ok, ml⟩ := iv
    obtain ⟨lt, rfl⟩ := rng_at he
    refine gx_name (sx_seq (sx_asg (js := [7, 8]) (ex_callP rfl (exa_cons (ex_var rfl (exa_nil ⟨_, rfl, by rw [List.length_map]; exact l1, by rw [List.length_map]; omega, fun x hx => ?_⟩))))))
    obtain ⟨q, hq, rfl⟩ := List.mem_map.mp hx
    obtain ⟨k1, k2⟩ := gM q hq
    refine gx_tup rfl (by simp) (gs_cons (gx_name (gs_cons (gx_name (gs_nil ?_)))))
    refine sx_seq (sx_set (ex_tup (exa_cons (ex_callP rfl (exa_cons (ex_var rfl (exa_nil ⟨n, rfl, n1, by omega, fun a a0 a1 => exa_cons (ex_var rfl (exa_cons (ex_var rfl (exa_cons (ex_callP rfl (exa_cons (ex_var rfl (exa_nil ⟨n, rfl, n1, by omega, fun b b0 b1 => exa_nil ⟨by show 4 ≤ sizeLine; decide, ?_⟩⟩))))))))⟩)))))))
    have mk : MvK n ⟨a, q.1, q.2, b⟩ := ⟨a0, a1, k1, k2, b0, b1⟩
    refine sx_if (ext_test (ex_lend (i := 5) (l := mv.map mvD) rfl (ex_op (ex_var rfl (ex_var rfl (od_notInD (x := mvD ⟨a, q.1, q.2, b⟩) (pu_mv mk) (pu_mvs ok) fun bb hb => ⟨rfl, _, rfl, ?_⟩))))))
    cases bb with
    | true =>
      rw [if_neg (by decide)]
      exact sx_next ⟨mv, _, _, _, _, rfl, nd, ok, Nat.le_succ_of_le ml⟩
    | false =>
      rw [if_pos (by decide)]
      have nm : (⟨a, q.1, q.2, b⟩ : Mv) ∉ mv := fun z => Bool.false_ne_true (hb.mpr (List.mem_map_of_mem (f := mvD) z))
      refine sx_app (l := mv.map mvD) rfl (ex_var rfl ⟨by rw [List.length_map]; exact small_line (by omega), mv ++ [⟨a, q.1, q.2, b⟩], .val (.int (i : Nat)), .val (.str q.1), .val (.str q.2), .val (mvD ⟨a, q.1, q.2, b⟩), ?_, List.nodup_append.mpr ⟨nd, by simp, fun x hx y hy e => nm (by rw [List.mem_singleton.mp hy] at e; rw [← e]; exact hx)⟩, fun x hx => (List.mem_append.mp hx).elim (ok x) fun z => by rw [List.mem_singleton.mp z]; exact mk, by rw [List.length_append]; exact Nat.succ_le_succ ml⟩)
      rw [List.map_append (l₁ := mv)]
      rfl
  · obtain ⟨mv, u6, u7, u8, u9, rfl, nd, ok, ml⟩ := iv
    rw [rng_len] at ml
    refine sx_seq (sx_set (ex_L (exl_lc (js := [6]) (by decide) (exi_rng1 (exa_cons (ex_op (ex_int (ex_callP rfl (exa_cons (ex_int (exa_nil ⟨3, rfl, by decide, by decide, fun c2 c20 c21 => od_ii (exa_nil ⟨1 + c2, rfl, by omega, by omega, by rw [rng_len]; exact small_line (by omega), fun i acc => ∃ fs : List Int, acc = fs.map D.int ∧ fs.length = i ∧ ∀ x ∈ fs, 0 ≤ x ∧ x < n, ⟨[], rfl, rfl, fun _ h => (nomatch h)⟩, fun i e acc he pv => ?_, fun acc pv => ?_⟩)⟩)))))))))))
    · obtain ⟨fs, rfl, lf, rg⟩ := pv
      obtain ⟨lt, rfl⟩ := rng_at he
      refine gx_name (ext_yes ?_)
      rw [if_pos rfl]
      refine ex_callP rfl (exa_cons (ex_var rfl (exa_nil ⟨n, rfl, n1, by omega, fun v v0 v1 => ⟨fs ++ [v], by rw [List.map_append]; rfl, by rw [List.length_append, lf]; rfl, fun x hx => (List.mem_append.mp hx).elim (rg x) fun z => by rw [List.mem_singleton.mp z]; exact ⟨v0, v1⟩⟩⟩)))
    · obtain ⟨fs, rfl, lf, rg⟩ := pv
      rw [rng_len] at lf
      have fl : fs.length < 64 := by omega
      have f0 : fs ≠ [] := fun z => by rw [z] at lf; simp at lf; omega
      refine sx_free (i := 5) (l := mv.map mvD) rfl ?_
      refine sx_ret (ex_K (exk_disp (exp_cons (ex_str (ex_var rfl (exp_cons (ex_str (ex_L (exl_ssI (ex_var rfl ⟨fs, rfl, fl, exp_cons (ex_str (ex_L (exl_sortT mvE (ex_var rfl ⟨mv, .inl rfl, nd, exp_nil ⟨[.inr "many", .inr "firsts", .inr "moves"], _, rfl, rfl, by decide, by decide, ?_⟩⟩))))⟩))))))))))
      exact hk n (sI fs) (mvE.srt mv) (okB_of n1 f0 rg nd ok n6 (by omega))
end
end K16
/-! ## T20 -/
set_option Elab.async false
set_option linter.all false
set_option maxRecDepth 100000
set_option maxHeartbeats 4000000
/-! sizes of small data -/
namespace Tl
open PySem PySem.Spec PyProof.Rows L2 He Vx
theorem fin_small {i : Int} (h : i.natAbs < 64) : Fin 0 8 (.int i) := by
  have g := fin_int (i := i) (Nat.lt_of_lt_of_le h (by decide))
  refine ⟨g.dt, g.lf, g.sh, g.dp, ?_⟩
  have hl : i.natAbs.log2 < 6 := by
    by_cases z : i.natAbs = 0
    · rw [z]
      decide
    · exact (Nat.log2_lt z).2 h
  simp only [D.py, PyData.weight]
  split <;> omega
theorem key_py : ∀ q : List L2.Key, (D.tup (q.map keyDD)).py = keyT q := fun q => by
  show PyData.tuple (D.pys (q.map keyDD)) = PyData.tuple (q.map keyD)
  rw [pys_map, List.map_map]
  refine congrArg _ (List.map_congr_left fun x _ => ?_)
  cases x <;> rfl
theorem kv_all {k n nk : Nat} : ∀ {ks : List (List L2.Key)} {l : List D}, (∀ q ∈ ks, Fin 1 nk (.tup (q.map keyDD))) → (∀ d ∈ l, Fin (k + 1) n d) → PyData.leavesShortKv 40 ((ks.map keyT).zip (D.pys l)) = true ∧ PyData.showableKv ((ks.map keyT).zip (D.pys l)) = true ∧ PyData.depthKv ((ks.map keyT).zip (D.pys l)) ≤ k + 1 ∧ PyData.weightKv ((ks.map keyT).zip (D.pys l)) ≤ ks.length * (nk + n + 2)
  | [], l, _, _ => ⟨by simp [PyData.leavesShortKv], by simp [PyData.showableKv], by simp [PyData.depthKv], by simp [PyData.weightKv]⟩
  | q :: ks, [], _, _ => ⟨by simp [D.pys, PyData.leavesShortKv], by simp [D.pys, PyData.showableKv], by simp [D.pys, PyData.depthKv], by simp [D.pys, PyData.weightKv]⟩
  | q :: ks, d :: l, h1, h2 => by
    obtain ⟨a1, a2, a3, a4⟩ := kv_all (fun x hx => h1 x (List.mem_cons_of_mem _ hx)) fun x hx => h2 x (List.mem_cons_of_mem _ hx)
    have b1 := h1 q (List.mem_cons_self ..)
    have b2 := h2 d (List.mem_cons_self ..)
    have e := key_py q
    have c1 := b1.lf
    have c2 := b1.sh
    have c3 := b1.dp
    have c4 := b1.wt
    rw [e] at c1 c2 c3 c4
    have d3 := b2.dp
    have d4 := b2.wt
    rw [List.map_cons, D.pys, List.zip_cons_cons]
    refine ⟨?_, ?_, ?_, ?_⟩
    · simp only [PyData.leavesShortKv, c1, b2.lf, a1, Bool.and_self]
    · simp only [PyData.showableKv, c2, b2.sh, a2, Bool.and_self]
    · simp only [PyData.depthKv]
      omega
    · simp only [PyData.weightKv]
      rw [List.length_cons, Nat.add_mul]
      omega
theorem fin_dT {k n nk m : Nat} {ks : List (List L2.Key)} {l : List D} (h1 : ∀ q ∈ ks, Fin 1 nk (.tup (q.map keyDD))) (h2 : ∀ d ∈ l, Fin (k + 1) n d) (hm : ks.length ≤ m) : Fin (k + 2) (m * (nk + n + 2)) (.dT ks l) := by
  obtain ⟨a1, a2, a3, a4⟩ := kv_all h1 h2
  refine ⟨(fin_all h2).1, ?_, ?_, ?_, ?_⟩
  · simpa only [D.py, PyData.leavesShort] using a1
  · simpa only [D.py, PyData.showable] using a2
  · simp only [D.py, PyData.depth]
    omega
  · simp only [D.py, PyData.weight]
    exact Nat.le_trans a4 (Nat.mul_le_mul_right _ hm)
theorem fin_shown {n : Nat} {d : D} {k : Nat} (h : Fin k n d) (hn : n ≤ 200000) : d.py.shown.length ≤ sizeLine := by
  have q := PyData.shown_le 40 (by decide) d.py h.lf
  have w := h.wt
  have q4 : 10000000 ≤ sizeLine := by decide
  omega
theorem addG_all {κ : Type} [DecidableEq κ] (p : D → Prop) : ∀ {ks : List κ} {ls : List (List D)} {q : κ} {z : D}, p z → (∀ l ∈ ls, ∀ d ∈ l, p d) → ∀ l ∈ addG ks ls q z, ∀ d ∈ l, p d
  | [], ls, q, z, hz, h, l, hl, d, hd => by
    rw [show addG [] ls q z = [[z]] from by cases ls <;> rfl] at hl
    rw [List.mem_singleton.mp hl] at hd
    rw [List.mem_singleton.mp hd]
    exact hz
  | _ :: _, [], q, z, hz, h, l, hl, d, hd => by
    rw [show addG (_ :: _) [] q z = [[z]] from rfl] at hl
    rw [List.mem_singleton.mp hl] at hd
    rw [List.mem_singleton.mp hd]
    exact hz
  | k :: ks, m :: ls, q, z, hz, h, l, hl, d, hd => by
    rw [addG] at hl
    split at hl
    · rcases List.mem_cons.mp hl with rfl | hl
      · rcases List.mem_append.mp hd with hd | hd
        · exact h m (List.mem_cons_self ..) d hd
        · rw [List.mem_singleton.mp hd]
          exact hz
      · exact h l (List.mem_cons_of_mem _ hl) d hd
    · rcases List.mem_cons.mp hl with rfl | hl
      · exact h l (List.mem_cons_self ..) d hd
      · exact addG_all p hz (fun y hy => h y (List.mem_cons_of_mem _ hy)) l hl d hd
end Tl
/-! ## K16G -/
set_option Elab.async false
set_option linter.all false
set_option maxRecDepth 100000
set_option maxHeartbeats 4000000
namespace K16
open PySem PySem.Spec PyProof.Rows L2 He Vx Tl

def itemD (m : List Mv) (i : Int) : D := .dT (itemG i m).1 ((itemG i m).2.map D.lst)
noncomputable def found0 (n : Int) (s : List Int) (m : List Mv) : List D := [.int n, .lst (s.map D.int), .lst (m.map mvD), .lst ((sgE.srt (m.map sgM)).map sgD), .lst ((sI (rchN n s m)).map D.int), .bl (sureB s m)]
noncomputable def shownD (n : Int) (s : List Int) (m : List Mv) : D := .lst (found0 n s m ++ [.lst ((rgI n).map (itemD m))])
theorem sm_int {n i : Int} (h0 : 0 ≤ i) (h1 : i < n) (h : n ≤ 6) : Fin 0 8 (.int i) := fin_small (by omega)
theorem sm_str {z : Str} (h : nm z = true) : Fin 0 8 (.str z) := fin_str (nm_asc h) (nm_len h)
theorem fin_mv {n : Int} {x : Mv} (h : MvK n x) (hn : n ≤ 6) : Fin 1 36 (mvD x) := fin_tup (k := 0) (n := 8) (m := 4) (fun d hd => by
  simp only [List.mem_cons, List.not_mem_nil, or_false] at hd
  rcases hd with rfl | rfl | rfl | rfl
  · exact sm_int h.a0 h.an hn
  · exact sm_str h.c
  · exact sm_str h.z
  · exact sm_int h.b0 h.bn hn) (Nat.le_refl _)
theorem fin_sg {n : Int} {x : Mv} (h : MvK n x) : Fin 1 18 (sgD (sgM x)) := fin_tup (k := 0) (n := 8) (m := 2) (fun d hd => by
  simp only [List.mem_cons, List.not_mem_nil, or_false] at hd
  rcases hd with rfl | rfl
  · exact sm_str h.c
  · exact sm_str h.z) (Nat.le_refl _)
/-- what the groups of a box's steps are -/
theorem item_ok (i : Int) : ∀ (m m0 : List Mv) (st : List (List L2.Key) × List (List D)), (∀ x ∈ m, x ∈ m0) → (∀ q ∈ st.1, ∃ x ∈ m0, q = [.inr x.c, .inr x.z]) → (∀ l ∈ st.2, ∀ d ∈ l, ∃ x ∈ m0, d = .int x.b) → ∀ j : Nat, st.1.length ≤ j → (∀ l ∈ st.2, l.length ≤ j) →
    (∀ q ∈ (m.foldl (fun st x => grpS st (if x.a = i then some ([.inr x.c, .inr x.z], .int x.b) else none)) st).1, ∃ x ∈ m0, q = [.inr x.c, .inr x.z]) ∧ (∀ l ∈ (m.foldl (fun st x => grpS st (if x.a = i then some ([.inr x.c, .inr x.z], .int x.b) else none)) st).2, l.length ≤ j + m.length ∧ ∀ d ∈ l, ∃ x ∈ m0, d = .int x.b) ∧
      (m.foldl (fun st x => grpS st (if x.a = i then some ([.inr x.c, .inr x.z], .int x.b) else none)) st).1.length ≤ j + m.length
  | [], m0, st, _, h1, h2, j, h3, h4 => ⟨h1, fun l hl => ⟨h4 l hl, h2 l hl⟩, h3⟩
  | x :: m, m0, st, h0, h1, h2, j, h3, h4 => by
    have hx := h0 x (List.mem_cons_self ..)
    have ih := fun st' => item_ok i m m0 st' (fun y hy => h0 y (List.mem_cons_of_mem _ hy))
    rw [List.foldl_cons, List.length_cons]
    have e : j + (m.length + 1) = (j + 1) + m.length := by omega
    rw [e]
    by_cases h : x.a = i
    · rw [if_pos h]
      refine ih _ (fun q hq => ?_) (fun l hl => ?_) (j + 1) (Nat.le_trans (putKs_len _ _) (Nat.succ_le_succ h3)) (addG_fit h4)
      · have hq : q ∈ putKs st.1 [.inr x.c, .inr x.z] := hq
        unfold putKs at hq
        split at hq
        · exact h1 q hq
        · rcases List.mem_append.mp hq with hq | hq
          · exact h1 q hq
          · exact ⟨x, hx, List.mem_singleton.mp hq⟩
      · have hl : l ∈ addG st.1 st.2 [.inr x.c, .inr x.z] (.int x.b) := hl
        exact addG_all (fun d => ∃ x ∈ m0, d = .int x.b) ⟨x, hx, rfl⟩ h2 l hl
    · rw [if_neg h]
      exact ih st h1 h2 (j + 1) (Nat.le_succ_of_le h3) fun l hl => Nat.le_succ_of_le (h4 l hl)
theorem fin_item {n : Int} {s : List Int} {m : List Mv} (h : Deal n s m) (i : Int) : Fin 2 2044 (itemD m i) := by
  obtain ⟨a1, a2, a3⟩ := item_ok i m m ([], []) (fun _ z => z) (fun _ z => (nomatch z)) (fun _ z => (nomatch z)) 0 (Nat.le_refl _) (fun _ z => (nomatch z))
  have m14 := h.m14
  refine fin_dT (k := 0) (n := 126) (nk := 18) (m := 14) (fun q hq => ?_) (fun d hd => ?_) (by show (itemG i m).1.length ≤ 14; exact Nat.le_trans a3 (by omega))
  · obtain ⟨x, hx, rfl⟩ := a1 q hq
    exact fin_sg (h.ok.mr x hx)
  · obtain ⟨l, hl, rfl⟩ := List.mem_map.mp hd
    obtain ⟨b1, b2⟩ := a2 l hl
    refine fin_lst (k := 0) (n := 8) (m := 14) (fun d hd => ?_) (by omega)
    obtain ⟨x, hx, rfl⟩ := b2 d hd
    have mk := h.ok.mr x hx
    exact sm_int mk.b0 mk.bn h.n6
theorem sI_len (l : List Int) : (sI l).length ≤ l.length := by
  unfold sI
  rw [List.length_mergeSort]
  exact dd_len l
theorem fin_shownD {n : Int} {s : List Int} {m : List Mv} (h : Deal n s m) : Fin 4 85897 (shownD n s m) := by
  have n6 := h.n6
  have m14 := h.m14
  have n1 := h.ok.n1
  refine fin_lst (k := 3) (n := 12270) (m := 7) (fun d hd => ?_) (by show 6 + 1 ≤ 7; decide)
  rcases List.mem_append.mp hd with hd | hd
  · unfold found0 at hd
    simp only [List.mem_cons, List.not_mem_nil, or_false] at hd
    rcases hd with rfl | rfl | rfl | rfl | rfl | rfl
    · exact (fin_small (by omega)).up (by decide) (by decide)
    · refine (fin_lst (k := 0) (n := 8) (m := 6) (fun d hd => ?_) (by rw [List.length_map]; exact h.sl)).up (by decide) (by decide)
      obtain ⟨i, hi, rfl⟩ := List.mem_map.mp hd
      exact sm_int (h.ok.sr i hi).1 (h.ok.sr i hi).2 n6
    · refine (fin_lst (k := 1) (n := 36) (m := 14) (fun d hd => ?_) (by rw [List.length_map]; exact m14)).up (by decide) (by decide)
      obtain ⟨x, hx, rfl⟩ := List.mem_map.mp hd
      exact fin_mv (h.ok.mr x hx) n6
    · refine (fin_lst (k := 1) (n := 18) (m := 14) (fun d hd => ?_) ?_).up (by decide) (by decide)
      · obtain ⟨p, hp, rfl⟩ := List.mem_map.mp hd
        obtain ⟨x, hx, rfl⟩ := List.mem_map.mp (sgE.mem_srt.mp hp)
        exact fin_sg (h.ok.mr x hx)
      · rw [List.length_map]
        have := srt_len sgE (m.map sgM)
        rw [List.length_map] at this
        omega
    · refine (fin_lst (k := 0) (n := 8) (m := 6) (fun d hd => ?_) ?_).up (by decide) (by decide)
      · obtain ⟨i, hi, rfl⟩ := List.mem_map.mp hd
        have r := rch_in h.ok ((mem_rchN h.ok).mp (mem_sI.mp hi))
        exact sm_int r.1 r.2 n6
      · rw [List.length_map]
        have a := sI_len (rchN n s m)
        have b : (rchN n s m).length ≤ (rgI n).length := List.length_filter_le _ _
        rw [rgI_len] at b
        omega
    · exact (Tl.fin_bl _).up (by decide) (by decide)
  · rw [List.mem_singleton.mp hd]
    refine (fin_lst (k := 2) (n := 2044) (m := 6) (fun d hd => ?_) (by rw [List.length_map, rgI_len]; omega)).up (by decide) (by decide)
    obtain ⟨i, _, rfl⟩ := List.mem_map.mp hd
    exact fin_item h i
def fShown : Fn := fun ds k => ∃ n s m, ds = [.box n s m] ∧ Deal n s m ∧ k (.str (shownD n s m).py.shown)
def fIs : Fn := fun ds k => ∃ n s m, ds = [.box n s m, dealD n s m] ∧ Deal n s m ∧ k (.bl true)
section
variable {P : Program} {w : World} {K : PySem.W.Frag} {mg : Str → Option Value} {base : Heap}
theorem nof_of {m : Str} (h : (decide (m ≠ "_states") && (decide (m ≠ "_starts") && decide (m ≠ "_steps"))) = true) : nof m := by
  rw [Bool.and_eq_true, Bool.and_eq_true] at h
  exact ⟨of_decide_eq_true h.1, of_decide_eq_true h.2.1, of_decide_eq_true h.2.2⟩
theorem cd_shown (F : At K mg "_law_shown" s_law_shown) (T : BI mg) (B : Bx P w K mg base) : Cd P w K mg base 6 "_law_shown" ["_law_made_here"] (spD K fShown) := by
  obtain ⟨cl, CB, MB, p_states, p_is_sure, m_starts, m_steps, m_signs, m_reachable, m_steps_from, m_steps_to, m_with_starts, m_numbered, m_turned, ⟨gi, di⟩, ⟨gq, dq⟩, dn, ⟨gl, dl⟩⟩ := B
  refine cd_mk F sc_law_shown (fun vs H Q E h => len_D h fun ds k ⟨n, s, m, e, _⟩ => by rw [e]; rfl) (fun _ _ _ _ _ _ us hl => match us, hl with | [_], _ => rfl) (fun f cdv A outer s H vs Q E hr hG h => ⟨_, (pss_cons (ps_set (i := 1) sc_law_shown.nd rfl (Or.inl rfl) (pe_lst (pa_cons (pe_po p_states cl (hr.mono (by decide)) (pv 0)) (pa_cons (pe_mo0 m_starts cl (hr.mono (by decide)) (pv 0)) (pa_cons (pe_mo0 m_steps cl (hr.mono (by decide)) (pv 0)) (pa_cons (pe_mo0 m_signs cl (hr.mono (by decide)) (pv 0)) (pa_cons (pe_mo0 m_reachable cl (hr.mono (by decide)) (pv 0)) (pa_cons (pe_po p_is_sure cl (hr.mono (by decide)) (pv 0)) pa_nil))))))))
  (pss_one (ps_ret (pe_callB (call_reprD hG hr.units) (by rfl) T.repr bt_repr (pa_cons (pe_op op_cat (pv 1) (pe_lst (pa_cons (pe_lc (own := [("_law_at", 2)]) (g := (gName 2)) (tt := tYes) (by rfl) sc_law_shown.nd (pi_range1 (by rfl) T.range (pa_cons (pe_po p_states cl (hr.mono (by decide)) (pv 0)) pa_nil)) (blkOk_by (own := [("_law_at", 2)]) (N := ["_law_made_here", "_law_found", "_law_at"]) (sc := defScope s_law_shown) (by decide +kernel)) (fun _ _ _ _ _ => (pg_name (i := 2) sc_law_shown.nd rfl (Or.inl rfl))) (fun _ _ _ _ _ => pts_nil) (fun _ _ _ _ _ => (pe_ixI di.1 di.2.1 di.2.2.1 di.2.2.2 (hr.mono (by decide)) pass0 (pv 0) (pv 2)))) pa_nil))) pa_nil))))), body_D (fun W ds k hf => ?_) h⟩)
  obtain ⟨n, s, m, rfl, de, hk⟩ := hf
  have m14 := de.m14
  have n6 := de.n6
  have n1 := de.ok.n1
  refine sx_seq (sx_set (ex_L (exl_lst (exa_cons (ex_prop (ex_var rfl ⟨⟨_, _, _, rfl⟩, n, s, m, rfl, exa_cons (ex_L (exl_meth (nof_of rfl) (ex_var rfl ⟨⟨_, _, _, rfl⟩, exa_nil ⟨n, s, m, rfl, exa_cons (ex_L (exl_meth (nof_of rfl) (ex_var rfl ⟨⟨_, _, _, rfl⟩, exa_nil ⟨n, s, m, rfl, exa_cons (ex_L (exl_meth (nof_of rfl) (ex_var rfl ⟨⟨_, _, _, rfl⟩, exa_nil ⟨n, s, m, rfl, by omega, exa_cons (ex_L (exl_meth (nof_of rfl) (ex_var rfl ⟨⟨_, _, _, rfl⟩, exa_nil ⟨n, s, m, rfl, de.ok, by omega, by omega, exa_cons (ex_prop (ex_var rfl ⟨⟨_, _, _, rfl⟩, n, s, m, rfl, by omega, exa_nil ⟨by show 6 ≤ sizeLine; decide, ?_⟩⟩))⟩⟩)))⟩⟩)))⟩⟩)))⟩⟩)))⟩))))))
  refine sx_ret (ex_cb (exa_cons (ex_L (exl_op (ex_var rfl (ex_L (exl_lst (exa_cons (ex_L (exl_lc (js := [2]) (by decide) (exi_rng1 (exa_cons (ex_prop (ex_var rfl ⟨⟨_, _, _, rfl⟩, n, s, m, rfl, exa_nil ⟨n, rfl, by omega, by omega, by rw [rng_len]; exact small_line (by omega), fun j acc => acc = ((rgI n).take j).map (itemD m), rfl, fun j d acc hd pv => ?_, fun acc pv => ?_⟩⟩))))))))))))))
  · obtain ⟨lt, rfl⟩ := rng_at hd
    have at_ : (rgI n)[j]? = some (j : Int) := by
      unfold rgI
      rw [List.getElem?_map, List.getElem?_range lt]
      rfl
    refine gx_name (ext_yes ?_)
    rw [if_pos rfl]
    refine ex_op (ex_var rfl (ex_var rfl (od_ixI ⟨n, s, m, (j : Int), rfl, by omega, by omega, by omega, ?_⟩)))
    rw [pv]
    exact (take_map at_).symm
  · rw [rng_len, show (rgI n).take n.toNat = rgI n from by rw [← rgI_len n, List.take_length]] at pv
    rw [pv]
    refine exa_nil ⟨by show 1 ≤ sizeLine; decide, ol_cat (by show 6 + 1 ≤ sizeLine; decide) (exa_nil (kd_repr (n := 85897) ((fin_shownD de).up (by decide) (Nat.le_refl _)) (fin_shown (fin_shownD de) (by decide)) hk))⟩
theorem cd_is (F : At K mg "_law_is" s_law_is) (T : BI mg) (B : Bx P w K mg base) (c__law_made : Cd P w K mg base 8 "_law_made" ["_law_deal_here"] (spB K fMadeL)) (c__law_shown : Cd P w K mg base 6 "_law_shown" ["_law_made_here"] (spD K fShown)) : Cd P w K mg base 9 "_law_is" ["_law_made_here", "_law_deal_here"] (spD K fIs) := by
  obtain ⟨cl, CB, MB, p_states, p_is_sure, m_starts, m_steps, m_signs, m_reachable, m_steps_from, m_steps_to, m_with_starts, m_numbered, m_turned, ⟨gi, di⟩, ⟨gq, dq⟩, dn, ⟨gl, dl⟩⟩ := B
  refine cd_mk F sc_law_is (fun vs H Q E h => len_D h fun ds k ⟨n, s, m, e, _⟩ => by rw [e]; rfl) (fun _ _ _ _ _ _ us hl => match us, hl with | [_, _], _ => rfl) (fun f cdv A outer s H vs Q E hr hG h => ⟨_, (pss_cons (ps_set (i := 2) sc_law_is.nd rfl (Or.inl rfl) (pe_cd c__law_made (hr.mono (by decide)) hG (by rfl) (pa_cons (pv 1) pa_nil)))
  (pss_one (ps_ret (pe_and (pe_cmpR (op_eqI dq.1 dq.2.1 dq.2.2 (hr.mono (by decide)) pass0) (pv 0) (pv 2) (nomark _)) (pe_and (pe_cmpR op_eq (pe_cd c__law_shown (hr.mono (by decide)) hG (by rfl) (pa_cons (pv 0) pa_nil)) (pe_cd c__law_shown (hr.mono (by decide)) hG (by rfl) (pa_cons (pv 2) pa_nil)) (nomark _)) (pe_one (pe_cmpR (Tl.op_eqDK (K := K) rfl hr.units) (pe_mo0 m_steps cl (hr.mono (by decide)) (pv 0)) (pe_dget (hu_of hr) (pv 1) pe_str (fun _ _ => rfl)) (nomark _)))))))), body_D (fun W ds k hf => ?_) h⟩)
  obtain ⟨n, s, m, rfl, de, hk⟩ := hf
  refine sx_seq (sx_set (ex_B (exb_call (exa_cons (ex_var rfl (exa_nil ⟨n, s, m, rfl, de, ?_⟩))))))
  refine sx_ret (ex_and (ex_op (ex_var rfl (ex_var rfl (od_eqI ⟨n, s, m, n, s, m, rfl, de.ok, de.ok, fun b hb => ⟨b, rfl, b, rfl, ?_⟩⟩)))))
  rw [if_pos (hb.mpr ⟨rfl, rfl, rfl⟩)]
  refine ex_and (ex_op (ex_call (exa_cons (ex_var rfl (exa_nil ⟨n, s, m, rfl, de, ex_call (exa_cons (ex_var rfl (exa_nil ⟨n, s, m, rfl, de, od_eqs ⟨_, rfl, ?_⟩⟩)))⟩)))))
  rw [decide_eq_true rfl, if_pos rfl]
  refine ex_op (ex_L (exl_meth (nof_of rfl) (ex_var rfl ⟨⟨_, _, _, rfl⟩, exa_nil ⟨n, s, m, rfl, ex_dget (ex_var rfl ⟨_, _, rfl, ex_str ⟨.inr "moves", .lst (m.map mvD), rfl, rfl, od_eqD (pu_mvs de.ok.mr) (pu_mvs de.ok.mr) fun b2 hb2 => ?_⟩⟩)⟩⟩)))
  rw [hb2.mpr rfl]
  exact hk
end
end K16
/-! ## K16H -/
set_option Elab.async false
set_option linter.all false
set_option maxRecDepth 100000
set_option maxHeartbeats 4000000
namespace K16
open PySem PySem.Spec PyProof.Rows L2 He Vx Tl

/-! ### boxes numbered otherwise -/
def rn (f : Int → Int) (x : Mv) : Mv := ⟨f x.a, x.c, x.z, f x.b⟩
theorem ren_rn (o : List Int) : ren o = rn (idx o) := rfl
theorem sI_comp (f g : Int → Int) (s : List Int) : sI ((sI (s.map f)).map g) = sI (s.map fun i => g (f i)) := sI_congr fun x => by
  simp only [List.mem_map]
  constructor
  · rintro ⟨y, hy, rfl⟩
    obtain ⟨z, hz, rfl⟩ := List.mem_map.mp (mem_sI.mp hy)
    exact ⟨z, hz, rfl⟩
  · rintro ⟨z, hz, rfl⟩
    exact ⟨f z, mem_sI.mpr (List.mem_map_of_mem hz), rfl⟩
theorem srt_comp (f g : Mv → Mv) (m : List Mv) : mvE.srt ((mvE.srt (m.map f)).map g) = mvE.srt (m.map fun i => g (f i)) := mvE.srt_congr fun x => by
  simp only [List.mem_map]
  constructor
  · rintro ⟨y, hy, rfl⟩
    obtain ⟨z, hz, rfl⟩ := List.mem_map.mp (mvE.mem_srt.mp hy)
    exact ⟨z, hz, rfl⟩
  · rintro ⟨z, hz, rfl⟩
    exact ⟨f z, mvE.mem_srt.mpr (List.mem_map_of_mem hz), rfl⟩
theorem map_same {α β : Type} {f g : α → β} {l : List α} (h : ∀ x ∈ l, f x = g x) : l.map f = l.map g := List.map_congr_left h
theorem map_same_id {α : Type} {f : α → α} {l : List α} (h : ∀ x ∈ l, f x = x) : l.map f = l := (List.map_congr_left h).trans (List.map_id _)
/-- the steps, the states mapped -/
theorem rn_same {n : Int} {s : List Int} {m : List Mv} (ok : OkB n s m) {f g : Int → Int} (h : ∀ i, 0 ≤ i → i < n → f i = g i) : m.map (rn f) = m.map (rn g) := map_same fun x hx => by
  have k := ok.mr x hx
  unfold rn
  rw [h _ k.a0 k.an, h _ k.b0 k.bn]
theorem rn_id {n : Int} {s : List Int} {m : List Mv} (ok : OkB n s m) {f : Int → Int} (h : ∀ i, 0 ≤ i → i < n → f i = i) : m.map (rn f) = m := map_same_id fun x hx => by
  have k := ok.mr x hx
  unfold rn
  rw [h _ k.a0 k.an, h _ k.b0 k.bn]
/-- a mapping of the states that is one to one -/
structure Bij (n : Int) (f : Int → Int) : Prop where
  rg : ∀ i, 0 ≤ i → i < n → 0 ≤ f i ∧ f i < n
  inj : ∀ i j, 0 ≤ i → i < n → 0 ≤ j → j < n → f i = f j → i = j
theorem bij_idx {n : Int} {o : List Int} (h : Ord n o) (n0 : 0 ≤ n) : Bij n (idx o) where
  rg := fun i h0 h1 => by
    have q := idx_lt (h.all h0 h1)
    have := h.len
    omega
  inj := fun i j h0 h1 h2 h3 e => idx_inj (h.all h0 h1) (h.all h2 h3) e
theorem nodup_mapI {α β : Type} {f : α → β} {l : List α} (nd : l.Nodup) (inj : ∀ x ∈ l, ∀ y ∈ l, f x = f y → x = y) : (l.map f).Nodup :=
  List.pairwise_map.mpr (nd.imp_of_mem fun ha hb n e => n (inj _ ha _ hb e))
theorem ok_bij {n : Int} {s : List Int} {m : List Mv} (ok : OkB n s m) {f : Int → Int} (b : Bij n f) : OkB n (s.map f) (m.map (rn f)) where
  n1 := ok.n1
  s0 := fun e => ok.s0 (List.map_eq_nil_iff.mp e)
  sd := nodup_mapI ok.sd fun x hx y hy e => b.inj x y (ok.sr x hx).1 (ok.sr x hx).2 (ok.sr y hy).1 (ok.sr y hy).2 e
  sr := fun i hi => by
    obtain ⟨x, hx, rfl⟩ := List.mem_map.mp hi
    exact b.rg x (ok.sr x hx).1 (ok.sr x hx).2
  md := nodup_mapI ok.md fun x hx y hy e => by
    have kx := ok.mr x hx
    have ky := ok.mr y hy
    unfold rn at e
    simp only [Mv.mk.injEq] at e
    obtain ⟨e1, e2, e3, e4⟩ := e
    have a := b.inj _ _ kx.a0 kx.an ky.a0 ky.an e1
    have c := b.inj _ _ kx.b0 kx.bn ky.b0 ky.bn e4
    cases x
    cases y
    simp only at a c e2 e3
    rw [a, c, e2, e3]
  mr := fun y hy => by
    obtain ⟨x, hx, rfl⟩ := List.mem_map.mp hy
    have k := ok.mr x hx
    have r1 := b.rg _ k.a0 k.an
    have r2 := b.rg _ k.b0 k.bn
    exact ⟨r1.1, r1.2, k.c, k.z, r2.1, r2.2⟩
theorem deal_bij {n : Int} {s : List Int} {m : List Mv} (d : Deal n s m) {f : Int → Int} (b : Bij n f) : Deal n (sI (s.map f)) (mvE.srt (m.map (rn f))) := deal_of (ok_bij d.ok b) d.n6 (by rw [List.length_map]; exact d.m14)
theorem mvT_T (x : Mv) : mvT (mvT x) = x := rfl
theorem ok_turn {n : Int} {s : List Int} {m : List Mv} (ok : OkB n s m) : OkB n (rgI n) (m.map mvT) where
  n1 := ok.n1
  s0 := fun e => by
    have : (0 : Int) ∈ rgI n := mem_rgI.mpr ⟨Int.le_refl _, by have := ok.n1; omega⟩
    rw [e] at this
    cases this
  sd := rgI_nodup n
  sr := fun i hi => mem_rgI.mp hi
  md := nodup_mapI ok.md fun x _ y _ e => by
    have := congrArg mvT e
    rwa [mvT_T, mvT_T] at this
  mr := fun y hy => by
    obtain ⟨x, hx, rfl⟩ := List.mem_map.mp hy
    have k := ok.mr x hx
    exact ⟨k.b0, k.bn, k.c, k.z, k.a0, k.an⟩
theorem rgI_sorted (n : Int) : (rgI n).Pairwise fun a b => leI a b = true := by
  unfold rgI
  exact List.pairwise_map.mpr (List.pairwise_lt_range.imp fun h => decide_eq_true (by omega))
theorem sI_rgI (n : Int) : sI (rgI n) = rgI n := sI_eq (rgI_nodup n) (rgI_sorted n) fun x => Iff.rfl
theorem deal_turn {n : Int} {s : List Int} {m : List Mv} (d : Deal n s m) : Deal n (rgI n) (mvE.srt (m.map mvT)) := by
  have q := deal_of (ok_turn d.ok) d.n6 (by rw [List.length_map]; exact d.m14)
  rwa [sI_rgI] at q
def fLNum : Fn := fun ds k => ∃ n s m o, ds = [dealD n s m, .lst (o.map D.int)] ∧ Deal n s m ∧ Ord n o ∧ k (dealD n (sI (s.map (idx o))) (mvE.srt (m.map (ren o))))
def fLTurn : Fn := fun ds k => ∃ n s m, ds = [dealD n s m] ∧ Deal n s m ∧ k (dealD n (rgI n) (mvE.srt (m.map mvT)))
theorem idx_first {o : List Int} {i : Int} (nd : o.Nodup) (h : i ∈ o) : (o.map D.int)[o.idxOf i]? = some (.int i) ∧ ∀ m : Nat, m < o.idxOf i → (o.map D.int)[m]? ≠ some (.int i) := by
  refine ⟨by rw [List.getElem?_map, idx_at h]; rfl, fun m lt e => ?_⟩
  rw [List.getElem?_map] at e
  obtain ⟨j, hj, ej⟩ := Option.map_eq_some_iff.mp e
  cases ej
  have := (List.getElem?_inj (List.getElem?_eq_some_iff.mp hj).1 nd).mp (hj.trans (idx_at h).symm)
  omega
section
variable {P : Program} {w : World} {K : PySem.W.Frag} {mg : Str → Option Value} {base : Heap}
theorem cd_lnum (F : At K mg "_law_numbered" s_law_numbered) (T : BI mg) : Cd P w K mg base 2 "_law_numbered" ["_law_deal_here", "_law_order_now"] (spD K fLNum) := by
  refine cd_mk F sc_law_numbered (fun vs H Q E h => len_D h fun ds k ⟨n, s, m, o, e, _⟩ => by rw [e]; rfl) (fun _ _ _ _ _ _ us hl => match us, hl with | [_, _], _ => rfl) (fun f cdv A outer s H vs Q E hr hG h => ⟨_, (pss_cons (ps_set (i := 2) sc_law_numbered.nd rfl (Or.inl rfl) (pe_lst pa_nil))
  (pss_cons (ps_for PassesOwn.never rfl (pi_list (pe_dget (hu_of hr) (pv 0) pe_str (fun _ _ => rfl))) (pg_tup (by rfl) (pgs_cons (pg_name (i := 3) sc_law_numbered.nd rfl (Or.inl rfl)) (pgs_cons (pg_name (i := 4) sc_law_numbered.nd rfl (Or.inl rfl)) (pgs_cons (pg_name (i := 5) sc_law_numbered.nd rfl (Or.inl rfl)) (pgs_cons (pg_name (i := 6) sc_law_numbered.nd rfl (Or.inl rfl)) pgs_nil))))) (pss_one (ps_expr (pe_bm PySem.F.plainAttrs_list PySem.F.slot_list_append PySem.F.type_list_append mt_append (pv 2) (pa_cons (pe_tup (pa_cons (pe_bmK (K := K) rfl PySem.F.plainAttrs_list PySem.F.slot_list_index PySem.F.type_list_index (Tl.mt_indexDK (K := K) rfl (room65 (hr.mono (by decide)))) (pv 1) (pa_cons (pv 3) pa_nil)) (pa_cons (pv 4) (pa_cons (pv 5) (pa_cons (pe_bmK (K := K) rfl PySem.F.plainAttrs_list PySem.F.slot_list_index PySem.F.type_list_index (Tl.mt_indexDK (K := K) rfl (room65 (hr.mono (by decide)))) (pv 1) (pa_cons (pv 6) pa_nil)) pa_nil))))) pa_nil)))))
  (pss_cons (ps_setLc (i := 7) (own := [("_law_first", 8)]) (g := (gName 8)) (tt := tYes) (by rfl) sc_law_numbered.nd rfl rfl (sw_true rfl rfl rfl (by decide +kernel)) (pi_list (pe_dget (hu_of hr) (pv 0) pe_str (fun _ _ => rfl))) (blkOk_by (own := [("_law_first", 8)]) (N := ["_law_deal_here", "_law_order_now", "_law_moves", "_law_near", "_law_call", "_law_answer", "_law_goal", "_law_firsts", "_law_first"]) (sc := defScope s_law_numbered) (by decide +kernel)) (fun _ _ _ _ _ => (pg_name (i := 8) sc_law_numbered.nd rfl (Or.inl rfl))) (fun _ _ _ _ _ => pts_nil) (fun _ _ _ _ _ => (pe_bmK (K := K) rfl PySem.F.plainAttrs_list PySem.F.slot_list_index PySem.F.type_list_index (Tl.mt_indexDK (K := K) rfl (room65 (hr.mono (by decide)))) (pv 1) (pa_cons (pv 8) pa_nil))))
  (pss_one (ps_ret (pe_disp (pps_cons pe_str (pe_dget (hu_of hr) (pv 0) pe_str (fun _ _ => rfl)) (pps_cons pe_str (pe_callB (cr_sortS hr.units) (by rfl) T.sorted bt_sorted (pa_cons (pv 7) pa_nil)) (pps_cons pe_str (pe_callB (cr_sortS hr.units) (by rfl) T.sorted bt_sorted (pa_cons (pv 2) pa_nil)) pps_nil))) (by rfl) (by rfl) (fun z => by cases z) (by decide))))))), body_D (fun W ds k hf => ?_) h⟩)
  obtain ⟨n, s, m, o, rfl, de, od, hk⟩ := hf
  have m14 := de.m14
  have n0 : 0 ≤ n := by have := de.ok.n1; omega
  have bj := bij_idx od n0
  have okb := ok_bij de.ok bj
  have mem : ∀ {i : Int}, 0 ≤ i → i < n → i ∈ o := fun h0 h1 => od.all h0 h1
  refine sx_seq (sx_setO (exl_lst (exa_nil ⟨Nat.zero_le _, ?_⟩)))
  refine sx_seq (sx_for (js := [3, 4, 5, 6]) (exi_list (ex_dget (ex_var rfl ⟨_, _, rfl, ex_str ⟨.inr "moves", .lst (m.map mvD), rfl, rfl, _, rfl, ?_⟩⟩))))
  refine ⟨fun i Γ' => ∃ u3 u4 u5 u6, Γ' = [.val (dealD n s m), .val (.lst (o.map D.int)), .own ((m.take i).map fun x => mvD (ren o x)), u3, u4, u5, u6, .un, .un], ⟨.un, .un, .un, .un, rfl⟩, fun i d Γ' hd iv => ?_, fun Γ' iv => ?_⟩
  · obtain ⟨u3, u4, u5, u6, rfl⟩ := iv
    obtain ⟨x, hx, rfl⟩ := at_map hd
    have k1 := de.ok.mr x (List.mem_of_getElem? hx)
    have li : i < m.length := (List.getElem?_eq_some_iff.mp hx).1
    obtain ⟨a1, a2⟩ := idx_first od.nd (mem k1.a0 k1.an)
    obtain ⟨b1, b2⟩ := idx_first od.nd (mem k1.b0 k1.bn)
    refine gx_tup rfl (by simp) (gs_cons (gx_name (gs_cons (gx_name (gs_cons (gx_name (gs_cons (gx_name (gs_nil ?_)))))))))
    refine sx_app (l := (m.take i).map fun x => mvD (ren o x)) rfl (ex_tup (exa_cons (ex_index (ex_var rfl ⟨_, rfl, ex_var rfl ⟨pu_ints o, pu_int _, _, a1, a2, exa_cons (ex_var rfl (exa_cons (ex_var rfl (exa_cons (ex_index (ex_var rfl ⟨_, rfl, ex_var rfl ⟨pu_ints o, pu_int _, _, b1, b2, exa_nil ⟨by show 4 ≤ sizeLine; decide, ?_, .val (.int x.a), .val (.str x.c), .val (.str x.z), .val (.int x.b), ?_⟩⟩⟩))))))⟩⟩))))
    · rw [List.length_map, List.length_take]
      exact small_line (by omega)
    · rw [take_map (g := fun x => mvD (ren o x)) hx]
      rfl
  · obtain ⟨u3, u4, u5, u6, rfl⟩ := iv
    rw [List.length_map, List.take_length]
    refine sx_seq (sx_set (ex_L (exl_lc (js := [8]) (by decide) (exi_list (ex_dget (ex_var rfl ⟨_, _, rfl, ex_str ⟨.inr "firsts", .lst (s.map D.int), rfl, rfl, _, rfl, by rw [List.length_map]; exact small_line (by have := de.sl; omega), fun j acc => acc = ((s.take j).map (idx o)).map D.int, rfl, fun j d acc hd pv => ?_, fun acc pv => ?_⟩⟩))))))
    · obtain ⟨i, hi, rfl⟩ := at_map hd
      have r := de.ok.sr i (List.mem_of_getElem? hi)
      obtain ⟨a1, a2⟩ := idx_first od.nd (mem r.1 r.2)
      refine gx_name (ext_yes ?_)
      rw [if_pos rfl]
      refine ex_index (ex_var rfl ⟨_, rfl, ex_var rfl ⟨pu_ints o, pu_int _, _, a1, a2, ?_⟩⟩)
      show acc ++ _ = ((s.take (j + 1)).map (idx o)).map D.int
      rw [take_map (g := idx o) hi, List.map_append, show acc = _ from pv]
      rfl
    · rw [List.length_map, List.take_length] at pv
      subst pv
      refine sx_free (i := 2) (l := m.map fun x => mvD (ren o x)) rfl ?_
      refine sx_ret (ex_K (exk_disp (exp_cons (ex_str (ex_dget (ex_var rfl ⟨_, _, rfl, ex_str ⟨.inr "many", .int n, rfl, rfl, exp_cons (ex_str (ex_L (exl_sortI (ex_var rfl ⟨s.map (idx o), .inl rfl, okb.sd, exp_cons (ex_str (ex_L (exl_sortT mvE (ex_var rfl ⟨m.map (ren o), .inl ?_, okb.md, exp_nil ⟨[.inr "many", .inr "firsts", .inr "moves"], _, rfl, rfl, by decide, by decide, hk⟩⟩))))⟩))))⟩⟩))))))
      rw [List.map_map]
      rfl
theorem cd_lturn (F : At K mg "_law_turned" s_law_turned) (T : BI mg) : Cd P w K mg base 2 "_law_turned" ["_law_deal_here"] (spD K fLTurn) := by
  refine cd_mk F sc_law_turned (fun vs H Q E h => len_D h fun ds k ⟨n, s, m, e, _⟩ => by rw [e]; rfl) (fun _ _ _ _ _ _ us hl => match us, hl with | [_], _ => rfl) (fun f cdv A outer s H vs Q E hr hG h => ⟨_, (pss_cons (ps_setLc (i := 1) (own := [("_law_near", 2), ("_law_call", 3), ("_law_answer", 4), ("_law_goal", 5)]) (g := (gTup K 4 (gCons (gName 2) (gCons (gName 3) (gCons (gName 4) (gCons (gName 5) gNil)))))) (tt := tYes) (by rfl) sc_law_turned.nd rfl rfl (sw_true rfl rfl rfl (by decide +kernel)) (pi_list (pe_dget (hu_of hr) (pv 0) pe_str (fun _ _ => rfl))) (blkOk_by (own := [("_law_near", 2), ("_law_call", 3), ("_law_answer", 4), ("_law_goal", 5)]) (N := ["_law_deal_here", "_law_moves", "_law_near", "_law_call", "_law_answer", "_law_goal"]) (sc := defScope s_law_turned) (by decide +kernel)) (fun _ _ _ _ _ => (pg_tup (by rfl) (pgs_cons (pg_name (i := 2) sc_law_turned.nd rfl (Or.inl rfl)) (pgs_cons (pg_name (i := 3) sc_law_turned.nd rfl (Or.inl rfl)) (pgs_cons (pg_name (i := 4) sc_law_turned.nd rfl (Or.inl rfl)) (pgs_cons (pg_name (i := 5) sc_law_turned.nd rfl (Or.inl rfl)) pgs_nil)))))) (fun _ _ _ _ _ => pts_nil) (fun _ _ _ _ _ => (pe_tup (pa_cons (pv 5) (pa_cons (pv 3) (pa_cons (pv 4) (pa_cons (pv 2) pa_nil)))))))
  (pss_one (ps_ret (pe_disp (pps_cons pe_str (pe_dget (hu_of hr) (pv 0) pe_str (fun _ _ => rfl)) (pps_cons pe_str (pe_listRg rfl (by rfl) T.list (prg_1 (by rfl) T.range (pe_dget (hu_of hr) (pv 0) pe_str (fun _ _ => rfl)))) (pps_cons pe_str (pe_callB (cr_sortS hr.units) (by rfl) T.sorted bt_sorted (pa_cons (pv 1) pa_nil)) pps_nil))) (by rfl) (by rfl) (fun z => by cases z) (by decide))))), body_D (fun W ds k hf => ?_) h⟩)
  obtain ⟨n, s, m, rfl, de, hk⟩ := hf
  have m14 := de.m14
  have n1 := de.ok.n1
  have n6 := de.n6
  have okt := ok_turn de.ok
  refine sx_seq (sx_set (ex_L (exl_lc (js := [2, 3, 4, 5]) (by decide) (exi_list (ex_dget (ex_var rfl ⟨_, _, rfl, ex_str ⟨.inr "moves", .lst (m.map mvD), rfl, rfl, _, rfl, by rw [List.length_map]; exact small_line (by omega), fun j acc => acc = (m.take j).map fun x => mvD (mvT x), rfl, fun j d acc hd pv => ?_, fun acc pv => ?_⟩⟩))))))
  · obtain ⟨x, hx, rfl⟩ := at_map hd
    refine gx_tup rfl (by simp) (gs_cons (gx_name (gs_cons (gx_name (gs_cons (gx_name (gs_cons (gx_name (gs_nil (ext_yes ?_))))))))))
    rw [if_pos rfl]
    refine ex_tup (exa_cons (ex_var rfl (exa_cons (ex_var rfl (exa_cons (ex_var rfl (exa_cons (ex_var rfl (exa_nil ⟨by show 4 ≤ sizeLine; decide, ?_⟩)))))))))
    rw [pv]
    exact (take_map (g := fun x => mvD (mvT x)) hx).symm
  · rw [List.length_map, List.take_length] at pv
    subst pv
    refine sx_ret (ex_K (exk_disp (exp_cons (ex_str (ex_dget (ex_var rfl ⟨_, _, rfl, ex_str ⟨.inr "many", .int n, rfl, rfl, exp_cons (ex_str (ex_L (exl_rng (ex_dget (ex_var rfl ⟨_, _, rfl, ex_str ⟨.inr "many", .int n, rfl, rfl, n, rfl, by omega, by omega, exp_cons (ex_str (ex_L (exl_sortT mvE (ex_var rfl ⟨m.map mvT, .inl ?_, okt.md, exp_nil ⟨[.inr "many", .inr "firsts", .inr "moves"], _, rfl, rfl, by decide, by decide, hk⟩⟩))))⟩⟩)))))⟩⟩))))))
    rw [List.map_map]
    rfl
end
end K16
/-! ## K16I -/
set_option Elab.async false
set_option linter.all false
set_option maxRecDepth 100000
set_option maxHeartbeats 4000000
namespace K16
open PySem PySem.Spec PyProof.Rows L2 He Vx Tl

theorem idx_of_at {o : List Int} (nd : o.Nodup) {k : Nat} {v : Int} (h : o[k]? = some v) : idx o v = k := by
  have m := List.mem_of_getElem? h
  have := (List.getElem?_inj (List.getElem?_eq_some_iff.mp h).1 nd).mp (h.trans (idx_at m).symm)
  unfold idx
  omega
theorem rgI_at {n i : Int} (h0 : 0 ≤ i) (h1 : i < n) : (rgI n)[i.toNat]? = some i := by
  unfold rgI
  rw [List.getElem?_map, List.getElem?_range (by omega)]
  show some ((i.toNat : Nat) : Int) = some i
  rw [Int.toNat_of_nonneg h0]
/-- the contrary order -/
def bck (n : Int) (o : List Int) : List Int := (rgI n).map (idx o)
theorem bck_ord {n : Int} {o : List Int} (h : Ord n o) (n0 : 0 ≤ n) : Ord n (bck n o) where
  len := by unfold bck; rw [List.length_map, rgI_len]
  nd := nodup_mapI (rgI_nodup n) fun x hx y hy e => (bij_idx h n0).inj x y (mem_rgI.mp hx).1 (mem_rgI.mp hx).2 (mem_rgI.mp hy).1 (mem_rgI.mp hy).2 e
  rg := fun i hi => by
    obtain ⟨x, hx, rfl⟩ := List.mem_map.mp hi
    exact (bij_idx h n0).rg x (mem_rgI.mp hx).1 (mem_rgI.mp hx).2
theorem bck_idx {n : Int} {o : List Int} (h : Ord n o) (n0 : 0 ≤ n) {i : Int} (h0 : 0 ≤ i) (h1 : i < n) : idx (bck n o) (idx o i) = i := by
  have e : (bck n o)[i.toNat]? = some (idx o i) := by
    unfold bck
    rw [List.getElem?_map, rgI_at h0 h1]
    rfl
  rw [idx_of_at (bck_ord h n0).nd e, Int.toNat_of_nonneg h0]
theorem idx_bck {n : Int} {o : List Int} (h : Ord n o) (n0 : 0 ≤ n) {i : Int} (h0 : 0 ≤ i) (h1 : i < n) : idx o (idx (bck n o) i) = i := by
  have ob := bck_ord h n0
  have r := (bij_idx ob n0).rg i h0 h1
  have q := bck_idx h n0 r.1 r.2
  exact (bij_idx ob n0).inj _ _ ((bij_idx h n0).rg _ r.1 r.2).1 ((bij_idx h n0).rg _ r.1 r.2).2 h0 h1 q
/-- one order behind another -/
def cmp (o q : List Int) : List Int := q.map fun k => (o[k.toNat]?).getD 0
theorem cmp_at {n : Int} {o q : List Int} (h : Ord n o) {k : Int} (h0 : 0 ≤ k) (h1 : k < n) : ∃ v, o[k.toNat]? = some v ∧ (o[k.toNat]?).getD 0 = v ∧ idx o v = k := by
  have l : k.toNat < o.length := by have := h.len; omega
  refine ⟨o[k.toNat], List.getElem?_eq_getElem l, by rw [List.getElem?_eq_getElem l]; rfl, ?_⟩
  rw [idx_of_at h.nd (List.getElem?_eq_getElem l), Int.toNat_of_nonneg h0]
theorem cmp_ord {n : Int} {o q : List Int} (h : Ord n o) (hq : Ord n q) : Ord n (cmp o q) where
  len := by unfold cmp; rw [List.length_map, hq.len]
  nd := nodup_mapI hq.nd fun x hx y hy e => by
    obtain ⟨v, _, e2, e3⟩ := cmp_at (q := q) h (hq.rg x hx).1 (hq.rg x hx).2
    obtain ⟨u, _, f2, f3⟩ := cmp_at (q := q) h (hq.rg y hy).1 (hq.rg y hy).2
    rw [e2, f2] at e
    rw [← e3, ← f3, e]
  rg := fun i hi => by
    obtain ⟨x, hx, rfl⟩ := List.mem_map.mp hi
    obtain ⟨v, e1, e2, _⟩ := cmp_at (q := q) h (hq.rg x hx).1 (hq.rg x hx).2
    rw [e2]
    exact h.rg v (List.mem_of_getElem? e1)
theorem cmp_idx {n : Int} {o q : List Int} (h : Ord n o) (hq : Ord n q) (n0 : 0 ≤ n) {i : Int} (h0 : 0 ≤ i) (h1 : i < n) : idx (cmp o q) i = idx q (idx o i) := by
  have r := (bij_idx h n0).rg i h0 h1
  have m := hq.all r.1 r.2
  have e : (cmp o q)[q.idxOf (idx o i)]? = some i := by
    unfold cmp
    rw [List.getElem?_map, idx_at m]
    show some ((o[(idx o i).toNat]?).getD 0) = some i
    obtain ⟨v, e1, e2, e3⟩ := cmp_at (q := q) h r.1 r.2
    have vr := h.rg v (List.mem_of_getElem? e1)
    rw [e2, (bij_idx h n0).inj v i vr.1 vr.2 h0 h1 e3]
  exact idx_of_at (cmp_ord h hq).nd e
theorem rg_ord {n : Int} : Ord n (rgI n) := ⟨rgI_len n, rgI_nodup n, fun i hi => mem_rgI.mp hi⟩
theorem idx_rg {n i : Int} (h0 : 0 ≤ i) (h1 : i < n) : idx (rgI n) i = i := by
  rw [idx_of_at (rgI_nodup n) (rgI_at h0 h1), Int.toNat_of_nonneg h0]
/-- the box, numbered by f -/
def nS (s : List Int) (f : Int → Int) : List Int := sI (s.map f)
def nM (m : List Mv) (f : Int → Int) : List Mv := mvE.srt (m.map (rn f))
section
variable {n : Int} {s : List Int} {m : List Mv} (d : Deal n s m)
include d
theorem nS_id {f : Int → Int} (h : ∀ i, 0 ≤ i → i < n → f i = i) : nS s f = s := by
  unfold nS
  rw [map_same_id fun x hx => h x (d.ok.sr x hx).1 (d.ok.sr x hx).2, d.ns]
theorem nM_id {f : Int → Int} (h : ∀ i, 0 ≤ i → i < n → f i = i) : nM m f = m := by
  unfold nM
  rw [rn_id d.ok h, d.nm]
theorem nS_same {f g : Int → Int} (h : ∀ i, 0 ≤ i → i < n → f i = g i) : nS s f = nS s g := by
  unfold nS
  rw [map_same fun x hx => h x (d.ok.sr x hx).1 (d.ok.sr x hx).2]
theorem nM_same {f g : Int → Int} (h : ∀ i, 0 ≤ i → i < n → f i = g i) : nM m f = nM m g := by
  unfold nM
  rw [rn_same d.ok h]
end
theorem nS_comp (s : List Int) (f g : Int → Int) : nS (nS s f) g = nS s fun i => g (f i) := sI_comp f g s
theorem nM_comp (m : List Mv) (f g : Int → Int) : nM (nM m f) g = nM m fun i => g (f i) := srt_comp (rn f) (rn g) m
theorem dd_nd {α : Type} [DecidableEq α] (T : TupE α) {l : List α} (h : l.Nodup) : (T.srt l).length = l.length := by
  unfold TupE.srt
  rw [List.length_mergeSort, dd_id h]
theorem nM_len {n : Int} {s : List Int} {m : List Mv} (d : Deal n s m) {f : Int → Int} (b : Bij n f) : (nM m f).length = m.length := by
  unfold nM
  rw [dd_nd mvE (ok_bij d.ok b).md, List.length_map]
/-- what is reachable, numbered otherwise -/
theorem rch_bij {n : Int} {s : List Int} {m : List Mv} (d : Deal n s m) {f : Int → Int} (b : Bij n f) (x : Int) : Rch (nxt (nM m f)) (nS s f) x ↔ ∃ y, Rch (nxt m) s y ∧ f y = x := by
  constructor
  · intro h
    induction h with
    | base h =>
      obtain ⟨y, hy, e⟩ := List.mem_map.mp (mem_sI.mp h)
      exact ⟨y, .base hy, e⟩
    | step _ hy ih =>
      obtain ⟨y, ry, rfl⟩ := ih
      obtain ⟨e, he, rfl⟩ := List.mem_map.mp hy
      obtain ⟨he1, he2⟩ := List.mem_filter.mp he
      obtain ⟨e', he', rfl⟩ := List.mem_map.mp (mvE.mem_srt.mp he1)
      have k := d.ok.mr e' he'
      have ry' := rch_in d.ok ry
      have ea : e'.a = y := b.inj _ _ k.a0 k.an ry'.1 ry'.2 (of_decide_eq_true he2)
      exact ⟨e'.b, .step ry (List.mem_map.mpr ⟨e', List.mem_filter.mpr ⟨he', decide_eq_true ea⟩, rfl⟩), rfl⟩
  · rintro ⟨y, h, rfl⟩
    induction h with
    | base h => exact .base (mem_sI.mpr (List.mem_map_of_mem h))
    | step _ hy ih =>
      obtain ⟨e, he, rfl⟩ := List.mem_map.mp hy
      obtain ⟨he1, he2⟩ := List.mem_filter.mp he
      have ea := of_decide_eq_true he2
      refine .step ih (List.mem_map.mpr ⟨rn f e, List.mem_filter.mpr ⟨mvE.mem_srt.mpr (List.mem_map_of_mem he1), decide_eq_true ?_⟩, rfl⟩)
      show f e.a = f _
      rw [ea]
theorem come_eq {n : Int} {s : List Int} {m : List Mv} (d : Deal n s m) {f : Int → Int} (b : Bij n f) : sI (rchN n (nS s f) (nM m f)) = sI ((sI (rchN n s m)).map f) := sI_congr fun x => by
  have d2 : Deal n (nS s f) (nM m f) := deal_bij d b
  rw [mem_rchN d2.ok, rch_bij d b, List.mem_map]
  exact ⟨fun ⟨y, h, e⟩ => ⟨y, mem_sI.mpr ((mem_rchN d.ok).mpr h), e⟩, fun ⟨y, h, e⟩ => ⟨y, (mem_rchN d.ok).mp (mem_sI.mp h), e⟩⟩
def fOR : Fn := fun ds k => ∃ n s m o q, ds = [dealD n s m, .box n s m, .lst (o.map D.int), .lst (q.map D.int)] ∧ Deal n s m ∧ Ord n o ∧ Ord n q ∧ k (.bl true)
section
variable {P : Program} {w : World} {K : PySem.W.Frag} {mg : Str → Option Value} {base : Heap}
theorem fin_ord {n : Int} {o : List Int} (h : Ord n o) (n6 : n ≤ 6) : Fin 1 54 (.lst (o.map D.int)) := fin_lst (k := 0) (n := 8) (m := 6) (fun d hd => by
  obtain ⟨i, hi, rfl⟩ := List.mem_map.mp hd
  exact sm_int (h.rg i hi).1 (h.rg i hi).2 n6) (by rw [List.length_map, h.len]; omega)
theorem fin_two {n : Int} {o q : List Int} (h : Ord n o) (hq : Ord n q) (n6 : n ≤ 6) : Fin 2 110 (.lst [.lst (o.map D.int), .lst (q.map D.int)]) := fin_lst (k := 1) (n := 54) (m := 2) (fun d hd => by
  simp only [List.mem_cons, List.not_mem_nil, or_false] at hd
  rcases hd with rfl | rfl
  · exact fin_ord h n6
  · exact fin_ord hq n6) (Nat.le_refl _)
theorem cd_orders (F : At K mg "_law_orders_right" s_law_orders_right) (T : BI mg) (B : Bx P w K mg base) (c__law_numbered : Cd P w K mg base 2 "_law_numbered" ["_law_deal_here", "_law_order_now"] (spD K fLNum)) (c__law_is : Cd P w K mg base 9 "_law_is" ["_law_made_here", "_law_deal_here"] (spD K fIs)) :
    Cd P w K mg base 11 "_law_orders_right" ["_law_deal_here", "_law_made_here", "_law_first", "_law_second"] (spD K fOR) := by
  obtain ⟨cl, CB, MB, p_states, p_is_sure, m_starts, m_steps, m_signs, m_reachable, m_steps_from, m_steps_to, m_with_starts, m_numbered, m_turned, ⟨gi, di⟩, ⟨gq, dq⟩, dn, ⟨gl, dl⟩⟩ := B
  refine cd_mk F sc_law_orders_right (fun vs H Q E h => len_D h fun ds k ⟨n, s, m, o, q, e, _⟩ => by rw [e]; rfl) (fun _ _ _ _ _ _ us hl => match us, hl with | [_, _, _, _], _ => rfl) (fun f cdv A outer s H vs Q E hr hG h => ⟨_, (pss_cons (ps_par (i := 4) (j := 5) (by rfl) sc_law_orders_right.nd rfl rfl (by decide) rfl rfl (pa_cons (pe_callB (call_reprD hG hr.units) (by rfl) T.repr bt_repr (pa_cons (pe_lst (pa_cons (pv 2) (pa_cons (pv 3) pa_nil))) pa_nil)) (pa_cons (pe_cd c__law_numbered (hr.mono (by decide)) hG (by rfl) (pa_cons (pv 0) (pa_cons (pv 2) pa_nil))) pa_nil)) (by rfl))
  (pss_cons (ps_set (i := 6) sc_law_orders_right.nd rfl (Or.inl rfl) (pe_callTy (Tl.call_listKK (K := K) rfl) (by rfl) T.list bt_list (pa_cons (pv 2) pa_nil)))
  (pss_cons (ps_set (i := 7) sc_law_orders_right.nd rfl (Or.inl rfl) (pe_mo m_numbered cl (hr.mono (by decide)) (pv 1) (pa_cons (pv 6) pa_nil)))
  (pss_cons (ps_expr (pe_bm PySem.F.plainAttrs_list PySem.F.slot_list_append PySem.F.type_list_append mt_append (pv 6) (pa_cons (pe_bm PySem.F.plainAttrs_list PySem.F.slot_list_pop PySem.F.type_list_pop mt_popAt (pv 6) (pa_cons pe_int pa_nil)) pa_nil)))
  (pss_cons (ps_if (PW.pt (pw_or (pt_not (pt_val (pe_cd c__law_is (hr.mono (by decide)) hG (by rfl) (pa_cons (pv 7) (pa_cons (pv 5) pa_nil))))) (pw_or1 (pt_not (pt_val (pe_cd c__law_is (hr.mono (by decide)) hG (by rfl) (pa_cons (pe_moK m_numbered cl (hr.mono (by decide)) (pv 1) (pe_callTy call_tuple_of (by rfl) T.tuple bt_tuple (pa_cons (pv 2) pa_nil))) (pa_cons (pv 5) pa_nil)))))))) (pss_one (ps_ret pe_bl)) pss_nil)
  (pss_cons (ps_setLc (i := 8) (own := [("_law_state", 10)]) (g := (gName 10)) (tt := tYes) (by rfl) sc_law_orders_right.nd rfl rfl (sw_true rfl rfl rfl (by decide +kernel)) (pi_range1 (by rfl) T.range (pa_cons (pe_dget (hu_of hr) (pv 0) pe_str (fun _ _ => rfl)) pa_nil)) (blkOk_by (own := [("_law_state", 10)]) (N := ["_law_deal_here", "_law_made_here", "_law_first", "_law_second", "_law_kept", "_law_due", "_law_handed", "_law_near", "_law_back", "_law_come", "_law_state", "_law_at"]) (sc := defScope s_law_orders_right) (by decide +kernel)) (fun _ _ _ _ _ => (pg_name (i := 10) sc_law_orders_right.nd rfl (Or.inl rfl))) (fun _ _ _ _ _ => pts_nil) (fun _ _ _ _ _ => (pe_bmK (K := K) rfl PySem.F.plainAttrs_list PySem.F.slot_list_index PySem.F.type_list_index (Tl.mt_indexDK (K := K) rfl (room65 (hr.mono (by decide)))) (pv 2) (pa_cons (pv 10) pa_nil))))
  (pss_cons (ps_if (PW.pt (pw_or (pt_cmpR (op_neI dn.1 dq.1 dn.2 dq.2.1 dq.2.2 (hr.mono (by decide)) pass0) (pe_mo m_numbered cl (hr.mono (by decide)) (pv 7) (pa_cons (pv 8) pa_nil)) (pv 1) (nomark _)) (pw_or1 (pt_cmpR (op_neI dn.1 dq.1 dn.2 dq.2.1 dq.2.2 (hr.mono (by decide)) pass0) (pe_mo m_numbered cl (hr.mono (by decide)) (pe_mo m_numbered cl (hr.mono (by decide)) (pv 1) (pa_cons (pv 8) pa_nil)) (pa_cons (pv 2) pa_nil)) (pv 1) (nomark _))))) (pss_one (ps_ret pe_bl)) pss_nil)
  (pss_cons (ps_if (pt_cmpR (op_neI dn.1 dq.1 dn.2 dq.2.1 dq.2.2 (hr.mono (by decide)) pass0) (pe_mo m_numbered cl (hr.mono (by decide)) (pv 7) (pa_cons (pv 3) pa_nil)) (pe_mo m_numbered cl (hr.mono (by decide)) (pv 1) (pa_cons (pe_lc (own := [("_law_at", 11)]) (g := (gName 11)) (tt := tYes) (by rfl) sc_law_orders_right.nd (pi_list (pv 3)) (blkOk_by (own := [("_law_at", 11)]) (N := ["_law_deal_here", "_law_made_here", "_law_first", "_law_second", "_law_kept", "_law_due", "_law_handed", "_law_near", "_law_back", "_law_come", "_law_state", "_law_at"]) (sc := defScope s_law_orders_right) (by decide +kernel)) (fun _ _ _ _ _ => (pg_name (i := 11) sc_law_orders_right.nd rfl (Or.inl rfl))) (fun _ _ _ _ _ => pts_nil) (fun _ _ _ _ _ => (pe_ix (Tl.ix_listK (K := K) rfl) (pv 2) (pv 11) (fun _ _ => rfl)))) pa_nil)) (nomark _)) (pss_one (ps_ret pe_bl)) pss_nil)
  (pss_cons (ps_if (PW.pt (pw_or (pt_cmpR (op_neI dn.1 dq.1 dn.2 dq.2.1 dq.2.2 (hr.mono (by decide)) pass0) (pe_mo m_numbered cl (hr.mono (by decide)) (pv 1) (pa_cons (pe_listRg rfl (by rfl) T.list (prg_1 (by rfl) T.range (pe_dget (hu_of hr) (pv 0) pe_str (fun _ _ => rfl)))) pa_nil)) (pv 1) (nomark _)) (pw_or1 (pt_cmpR op_ne (pe_callB (cr_lenI dl.1 dl.2.1 dl.2.2 (hr.mono (by decide)) pass0) (by rfl) T.len PySem.boot_len (pa_cons (pv 7) pa_nil)) (pe_callB (cr_lenI dl.1 dl.2.1 dl.2.2 (hr.mono (by decide)) pass0) (by rfl) T.len PySem.boot_len (pa_cons (pv 1) pa_nil)) (nomark _))))) (pss_one (ps_ret pe_bl)) pss_nil)
  (pss_cons (ps_set (i := 9) sc_law_orders_right.nd rfl (Or.inl rfl) (pe_callB (cr_sortS hr.units) (by rfl) T.sorted bt_sorted (pa_cons (pe_lc (own := [("_law_state", 10)]) (g := (gName 10)) (tt := tYes) (by rfl) sc_law_orders_right.nd (pi_list (pe_mo0 m_reachable cl (hr.mono (by decide)) (pv 1))) (blkOk_by (own := [("_law_state", 10)]) (N := ["_law_deal_here", "_law_made_here", "_law_first", "_law_second", "_law_kept", "_law_due", "_law_handed", "_law_near", "_law_back", "_law_come", "_law_state", "_law_at"]) (sc := defScope s_law_orders_right) (by decide +kernel)) (fun _ _ _ _ _ => (pg_name (i := 10) sc_law_orders_right.nd rfl (Or.inl rfl))) (fun _ _ _ _ _ => pts_nil) (fun _ _ _ _ _ => (pe_bmK (K := K) rfl PySem.F.plainAttrs_list PySem.F.slot_list_index PySem.F.type_list_index (Tl.mt_indexDK (K := K) rfl (room65 (hr.mono (by decide)))) (pv 2) (pa_cons (pv 10) pa_nil)))) pa_nil)))
  (pss_one (ps_ret (pe_and (pe_cmpR (Tl.op_eqDK (K := K) rfl hr.units) (pe_mo0 m_reachable cl (hr.mono (by decide)) (pv 7)) (pv 9) (nomark _)) (pe_one (pe_cmpR op_eq (pe_callB (call_reprD hG hr.units) (by rfl) T.repr bt_repr (pa_cons (pe_lst (pa_cons (pv 2) (pa_cons (pv 3) pa_nil))) pa_nil)) (pv 4) (nomark _)))))))))))))))), body_D (fun W ds k hf => ?_) h⟩)
  obtain ⟨n, s, m, o, q, rfl, de, od, oq, hk⟩ := hf
  have m14 := de.m14
  have n6 := de.n6
  have n1 := de.ok.n1
  have n0 : 0 ≤ n := by omega
  have s6 := de.sl
  have ol := od.len
  have bj := bij_idx od n0
  have d1 : Deal n (nS s (idx o)) (nM m (idx o)) := deal_bij de bj
  have two : 2 ≤ sizeLine := by decide
  refine sx_seq (sx_par (exa_cons (ex_cb (exa_cons (ex_L (exl_lst (exa_cons (ex_var rfl (exa_cons (ex_var rfl (exa_nil ⟨two, exa_nil (kd_repr (n := 110) ((fin_two od oq n6).up (by decide) (Nat.le_refl _)) (fin_shown (fin_two od oq n6) (by decide)) (exa_cons (ex_call (exa_cons (ex_var rfl (exa_cons (ex_var rfl (exa_nil ⟨n, s, m, o, rfl, de, od, exa_nil ⟨_, _, rfl, ?_⟩⟩))))))))⟩)))))))))))
  refine sx_seq (sx_setO (exl_cb (exa_cons (ex_var rfl (exa_nil (kl_list (.inl rfl) ?_))))))
  refine sx_seq (sx_set (ex_B (exb_lend (i := 6) (l := o.map D.int) rfl (exb_meth (nof_of rfl) (ex_var rfl ⟨⟨_, _, _, rfl⟩, exa_cons (ex_var rfl (exa_nil ⟨n, s, m, _, o, rfl, .inl rfl, od, de.ok, by omega, by omega, by omega, ?_⟩))⟩)))))
  obtain ⟨d, l, ed⟩ : ∃ d l, o.map D.int = d :: l := by
    cases h : o.map D.int with
    | nil =>
      have := congrArg List.length h
      rw [List.length_map, ol] at this
      simp at this
      omega
    | cons d l => exact ⟨d, l, rfl⟩
  have ll : l.length < sizeLine := by
    have := congrArg List.length ed
    rw [List.length_map, ol, List.length_cons] at this
    exact small_line (by omega)
  refine sx_seq (sx_rot (i := 6) (d := d) (l := l) (by show some (Sl.own (o.map D.int)) = _; rw [ed]) ll ?_)
  -- the box of the deal, twice
  refine sx_seq (sx_if (ext_or (ext_not (ext_b (ex_call (exa_cons (ex_var rfl (exa_cons (ex_var rfl (exa_nil ⟨n, nS s (idx o), nM m (idx o), rfl, d1, _, rfl, ?_⟩))))))))))
  show ExT _ _ _ _
  refine ext_not (ext_b (ex_call (exa_cons (ex_B (exb_meth (nof_of rfl) (ex_var rfl ⟨⟨_, _, _, rfl⟩, exa_cons (ex_cb (exa_cons (ex_var rfl (exa_nil (kd_tup (exa_nil ⟨n, s, m, _, o, rfl, .inr rfl, od, de.ok, by omega, by omega, by omega, exa_cons (ex_var rfl (exa_nil ⟨n, nS s (idx o), nM m (idx o), rfl, d1, _, rfl, ?_⟩))⟩))))))⟩))))))
  refine sx_next ?_
  -- back
  have ob := bck_ord od n0
  have bb := bij_idx ob n0
  refine sx_seq (sx_set (ex_L (exl_lc (js := [10]) (by decide) (exi_rng1 (exa_cons (ex_dget (ex_var rfl ⟨_, _, rfl, ex_str ⟨.inr "many", .int n, rfl, rfl, exa_nil ⟨n, rfl, by omega, by omega, by rw [rng_len]; exact small_line (by omega), fun j acc => acc = ((rgI n).take j).map fun i => D.int (idx o i), rfl, fun j d acc hd pv => ?_, fun acc pv => ?_⟩⟩⟩)))))))
  · obtain ⟨lt, rfl⟩ := rng_at hd
    have at_ : (rgI n)[j]? = some (j : Int) := by
      unfold rgI
      rw [List.getElem?_map, List.getElem?_range lt]
      rfl
    obtain ⟨a1, a2⟩ := idx_first od.nd (od.all (i := (j : Int)) (by omega) (by omega))
    refine gx_name (ext_yes ?_)
    rw [if_pos rfl]
    refine ex_index (ex_var rfl ⟨_, rfl, ex_var rfl ⟨pu_ints o, pu_int _, _, a1, a2, ?_⟩⟩)
    show acc ++ _ = ((rgI n).take (j + 1)).map fun i => D.int (idx o i)
    rw [take_map (g := fun i => D.int (idx o i)) at_, show acc = _ from pv]
    rfl
  rw [rng_len, show (rgI n).take n.toNat = rgI n from by rw [← rgI_len n, List.take_length]] at pv
  have pv : acc = (bck n o).map D.int := by
    rw [show acc = _ from pv]
    unfold bck
    rw [List.map_map]
    rfl
  subst pv
  have d2 : Deal n (nS (nS s (idx o)) (idx (bck n o))) (nM (nM m (idx o)) (idx (bck n o))) := deal_bij d1 bb
  have e2s : nS (nS s (idx o)) (idx (bck n o)) = s := by rw [nS_comp, nS_id de fun i h0 h1 => bck_idx od n0 h0 h1]
  have e2m : nM (nM m (idx o)) (idx (bck n o)) = m := by rw [nM_comp, nM_id de fun i h0 h1 => bck_idx od n0 h0 h1]
  have d3 : Deal n (nS s (idx (bck n o))) (nM m (idx (bck n o))) := deal_bij de bb
  have d4 : Deal n (nS (nS s (idx (bck n o))) (idx o)) (nM (nM m (idx (bck n o))) (idx o)) := deal_bij d3 bj
  have e4s : nS (nS s (idx (bck n o))) (idx o) = s := by rw [nS_comp, nS_id de fun i h0 h1 => idx_bck od n0 h0 h1]
  have e4m : nM (nM m (idx (bck n o))) (idx o) = m := by rw [nM_comp, nM_id de fun i h0 h1 => idx_bck od n0 h0 h1]
  have w1 := d1.m14
  have w2 := d1.sl
  have w3 := d3.m14
  have w4 := d3.sl
  refine sx_seq (sx_if (ext_or (ext_test (ex_op (ex_B (exb_meth (nof_of rfl) (ex_var rfl ⟨⟨_, _, _, rfl⟩, exa_cons (ex_var rfl (exa_nil ⟨n, nS s (idx o), nM m (idx o), _, bck n o, rfl, .inl rfl, ob, d1.ok, by omega, by omega, by omega, ex_var rfl (od_neI ⟨n, _, _, n, s, m, rfl, d2.ok, de.ok, fun b hb => ⟨b, rfl, _, rfl, ?_⟩⟩)⟩))⟩)))))))
  rw [hb.mpr ⟨rfl, e2s, e2m⟩]
  show ExT _ _ _ _
  refine ext_test (ex_op (ex_B (exb_meth (nof_of rfl) (ex_B (exb_meth (nof_of rfl) (ex_var rfl ⟨⟨_, _, _, rfl⟩, exa_cons (ex_var rfl (exa_nil ⟨n, s, m, _, bck n o, rfl, .inl rfl, ob, de.ok, by omega, by omega, by omega, ⟨_, _, _, rfl⟩, exa_cons (ex_var rfl (exa_nil ⟨n, nS s (idx (bck n o)), nM m (idx (bck n o)), _, o, rfl, .inl rfl, od, d3.ok, by omega, by omega, by omega, ex_var rfl (od_neI ⟨n, _, _, n, s, m, rfl, d4.ok, de.ok, fun b hb => ⟨b, rfl, _, rfl, ?_⟩⟩)⟩))⟩))⟩))))))
  rw [hb.mpr ⟨rfl, e4s, e4m⟩]
  refine sx_next ?_
  -- one order behind another
  have oc := cmp_ord od oq
  have bc := bij_idx oc n0
  have bq := bij_idx oq n0
  have d5 : Deal n (nS (nS s (idx o)) (idx q)) (nM (nM m (idx o)) (idx q)) := deal_bij d1 bq
  have d6 : Deal n (nS s (idx (cmp o q))) (nM m (idx (cmp o q))) := deal_bij de bc
  have e6s : nS (nS s (idx o)) (idx q) = nS s (idx (cmp o q)) := by rw [nS_comp, nS_same de fun i h0 h1 => (cmp_idx od oq n0 h0 h1).symm]
  have e6m : nM (nM m (idx o)) (idx q) = nM m (idx (cmp o q)) := by rw [nM_comp, nM_same de fun i h0 h1 => (cmp_idx od oq n0 h0 h1).symm]
  have ql := oq.len
  refine sx_seq (sx_if (ext_test (ex_op (ex_B (exb_meth (nof_of rfl) (ex_var rfl ⟨⟨_, _, _, rfl⟩, exa_cons (ex_var rfl (exa_nil ⟨n, nS s (idx o), nM m (idx o), _, q, rfl, .inl rfl, oq, d1.ok, by omega, by omega, by omega, ex_B (exb_meth (nof_of rfl) (ex_var rfl ⟨⟨_, _, _, rfl⟩, exa_cons (ex_L (exl_lc (js := [11]) (by decide) (exi_list (ex_var rfl ⟨_, rfl, by rw [List.length_map]; exact small_line (by omega), fun j acc => acc = (cmp o (q.take j)).map D.int, rfl, fun j d acc hd pv => ?_, fun acc pv => ?_⟩))))⟩))⟩))⟩))))))
  · obtain ⟨t, ht, rfl⟩ := at_map hd
    have r := oq.rg t (List.mem_of_getElem? ht)
    obtain ⟨v, e1, e2, _⟩ := cmp_at (q := q) od r.1 r.2
    refine gx_name (ext_yes ?_)
    rw [if_pos rfl]
    refine ex_op (ex_var rfl (ex_var rfl (od_ixL (l := o.map D.int) (i := t) (d := .int v) ?_ ?_)))
    · have := atI_nat (xs := o.map D.int) (j := t.toNat) (v := .int v) (by rw [List.getElem?_map, e1]; rfl)
      rwa [Int.toNat_of_nonneg r.1] at this
    · show acc ++ _ = (cmp o (q.take (j + 1))).map D.int
      unfold cmp at pv ⊢
      rw [take_map (g := fun k => (o[k.toNat]?).getD 0) ht, List.map_append, show acc = _ from pv, e2]
      rfl
  rw [List.length_map, List.take_length] at pv
  rw [show acc = (cmp o q).map D.int from pv]
  refine exa_nil ⟨n, s, m, _, cmp o q, rfl, .inl rfl, oc, de.ok, by omega, by omega, by omega, od_neI ⟨n, _, _, n, _, _, rfl, d5.ok, d6.ok, fun b hb => ⟨b, rfl, _, rfl, ?_⟩⟩⟩
  rw [hb.mpr ⟨rfl, e6s, e6m⟩]
  refine sx_next ?_
  -- the order that is none
  have or_ := rg_ord (n := n)
  have br := bij_idx or_ n0
  have d7 : Deal n (nS s (idx (rgI n))) (nM m (idx (rgI n))) := deal_bij de br
  have e7s : nS s (idx (rgI n)) = s := nS_id de fun i h0 h1 => idx_rg h0 h1
  have e7m : nM m (idx (rgI n)) = m := nM_id de fun i h0 h1 => idx_rg h0 h1
  refine sx_seq (sx_if (ext_or (ext_test (ex_op (ex_B (exb_meth (nof_of rfl) (ex_var rfl ⟨⟨_, _, _, rfl⟩, exa_cons (ex_L (exl_rng (ex_dget (ex_var rfl ⟨_, _, rfl, ex_str ⟨.inr "many", .int n, rfl, rfl, n, rfl, by omega, by omega, exa_nil ⟨n, s, m, _, rgI n, rfl, .inl rfl, or_, de.ok, by omega, by omega, by omega, ex_var rfl (od_neI ⟨n, _, _, n, s, m, rfl, d7.ok, de.ok, fun b hb => ⟨b, rfl, _, rfl, ?_⟩⟩)⟩⟩⟩))))⟩)))))))
  rw [hb.mpr ⟨rfl, e7s, e7m⟩]
  show ExT _ _ _ _
  refine ext_test (ex_op (ex_cb (exa_cons (ex_var rfl (exa_nil (kd_lenI ⟨n, nS s (idx o), nM m (idx o), rfl, _, rfl, by omega, by omega, ex_cb (exa_cons (ex_var rfl (exa_nil (kd_lenI ⟨n, s, m, rfl, _, rfl, by omega, by omega, od_nei ⟨_, rfl, ?_⟩⟩))))⟩))))))
  rw [nM_len de bj, decide_eq_true rfl]
  refine sx_next ?_
  -- what is reachable
  have rl : (rchN n s m).length ≤ 6 := by
    have b : (rchN n s m).length ≤ (rgI n).length := List.length_filter_le _ _
    rw [rgI_len] at b
    omega
  have sl := sI_len (rchN n s m)
  have rin : ∀ {i : Int}, i ∈ sI (rchN n s m) → 0 ≤ i ∧ i < n := fun hi => rch_in de.ok ((mem_rchN de.ok).mp (mem_sI.mp hi))
  refine sx_seq (sx_set (ex_L (exl_sortI (ex_L (exl_lc (js := [10]) (by decide) (exi_list (ex_L (exl_meth (nof_of rfl) (ex_var rfl ⟨⟨_, _, _, rfl⟩, exa_nil ⟨n, s, m, rfl, de.ok, by omega, by omega, _, rfl, by rw [List.length_map]; exact small_line (by omega), fun j acc => acc = (((sI (rchN n s m)).take j).map (idx o)).map D.int, rfl, fun j d acc hd pv => ?_, fun acc pv => ?_⟩⟩)))))))))
  · obtain ⟨i, hi, rfl⟩ := at_map hd
    have r := rin (List.mem_of_getElem? hi)
    obtain ⟨a1, a2⟩ := idx_first od.nd (od.all r.1 r.2)
    refine gx_name (ext_yes ?_)
    rw [if_pos rfl]
    refine ex_index (ex_var rfl ⟨_, rfl, ex_var rfl ⟨pu_ints o, pu_int _, _, a1, a2, ?_⟩⟩)
    show acc ++ _ = (((sI (rchN n s m)).take (j + 1)).map (idx o)).map D.int
    rw [take_map (g := idx o) hi, List.map_append, show acc = _ from pv]
    rfl
  rw [List.length_map, List.take_length] at pv
  refine ⟨(sI (rchN n s m)).map (idx o), .inl (congrArg D.lst pv), nodup_mapI (sI_nodup _) fun x hx y hy e => bj.inj x y (rin hx).1 (rin hx).2 (rin hy).1 (rin hy).2 e, ?_⟩
  refine sx_ret (ex_and (ex_op (ex_L (exl_meth (nof_of rfl) (ex_var rfl ⟨⟨_, _, _, rfl⟩, exa_nil ⟨n, nS s (idx o), nM m (idx o), rfl, d1.ok, by omega, by omega, ex_var rfl (od_eqD (pu_ints _) (pu_ints _) fun b hb => ⟨b, rfl, ?_⟩)⟩⟩)))))
  rw [hb.mpr (by rw [come_eq de bj]), if_pos rfl]
  refine ex_op (ex_cb (exa_cons (ex_L (exl_lst (exa_cons (ex_var rfl (exa_cons (ex_var rfl (exa_nil ⟨two, exa_nil (kd_repr (n := 110) ((fin_two od oq n6).up (by decide) (Nat.le_refl _)) (fin_shown (fin_two od oq n6) (by decide)) (ex_var rfl (od_eqs ?_)))⟩)))))))))
  rw [decide_eq_true rfl]
  exact hk
end
end K16
/-! ## K16J -/
set_option Elab.async false
set_option linter.all false
set_option maxRecDepth 100000
set_option maxHeartbeats 4000000
namespace K16
open PySem PySem.Spec PyProof.Rows L2 He Vx Tl

/-- the steps turned -/
noncomputable def tM (m : List Mv) : List Mv := mvE.srt (m.map mvT)
theorem tM_T {n : Int} {s : List Int} {m : List Mv} (d : Deal n s m) : mvE.srt ((tM m).map mvT) = m := by
  unfold tM
  rw [srt_comp mvT mvT m, map_same_id (f := fun i => mvT (mvT i)) fun x _ => mvT_T x, d.nm]
theorem tM_from {n : Int} {s : List Int} {m : List Mv} (d : Deal n s m) (i : Int) : mvE.srt ((m.filter fun x => decide (x.b = i)).map mvT) = (tM m).filter fun x => decide (x.a = i) := by
  refine mvE.srt_eq ((mvE.srt_nodup _).filter _) ((mvE.srt_sorted _).filter _) fun x => ?_
  unfold tM
  rw [List.mem_filter, mvE.mem_srt, List.mem_map, List.mem_map]
  constructor
  · rintro ⟨⟨y, hy, rfl⟩, e⟩
    exact ⟨y, List.mem_filter.mpr ⟨hy, e⟩, rfl⟩
  · rintro ⟨y, hy, rfl⟩
    obtain ⟨h1, h2⟩ := List.mem_filter.mp hy
    exact ⟨⟨y, h1, rfl⟩, h2⟩
theorem tM_to {n : Int} {s : List Int} {m : List Mv} (d : Deal n s m) (i : Int) : ((tM m).filter fun x => decide (x.b = i)).length = (m.filter fun x => decide (x.a = i)).length := by
  have nd : (m.map mvT).Nodup := (ok_turn d.ok).md
  have p : (tM m).Perm (m.map mvT) := (List.perm_ext_iff_of_nodup (mvE.srt_nodup _) nd).mpr fun x => mvE.mem_srt
  rw [(p.filter _).length_eq, List.filter_map, List.length_map]
  rfl
theorem tM_ren {m : List Mv} (f : Int → Int) : mvE.srt ((nM m f).map mvT) = nM (tM m) f := by
  unfold nM tM
  rw [srt_comp, srt_comp]
  rfl
theorem tM_signs {m : List Mv} : sgE.srt ((tM m).map sgM) = sgE.srt (m.map sgM) := sgE.srt_congr fun x => by
  unfold tM
  rw [List.mem_map, List.mem_map]
  constructor
  · rintro ⟨y, hy, rfl⟩
    obtain ⟨z, hz, rfl⟩ := List.mem_map.mp (mvE.mem_srt.mp hy)
    exact ⟨z, hz, rfl⟩
  · rintro ⟨z, hz, rfl⟩
    exact ⟨mvT z, mvE.mem_srt.mpr (List.mem_map_of_mem hz), rfl⟩
theorem tM_reach {n : Int} {s : List Int} {m : List Mv} (d : Deal n s m) : sI (rchN n (rgI n) (tM m)) = rgI n := by
  have dt : Deal n (rgI n) (tM m) := deal_turn d
  refine sI_eq (rgI_nodup n) (rgI_sorted n) fun x => ?_
  rw [mem_rchN dt.ok]
  exact ⟨fun h => .base h, fun h => mem_rgI.mpr (rch_in dt.ok h)⟩
theorem nS_rg {n : Int} {f : Int → Int} (b : Bij n f) (h : ∀ x, x ∈ rgI n → ∃ y, y ∈ rgI n ∧ f y = x) : nS (rgI n) f = rgI n := by
  refine sI_eq (rgI_nodup n) (rgI_sorted n) fun x => ?_
  rw [List.mem_map]
  constructor
  · intro hx
    exact h x hx
  · rintro ⟨y, hy, rfl⟩
    exact mem_rgI.mpr (b.rg y (mem_rgI.mp hy).1 (mem_rgI.mp hy).2)
theorem pu_sgs {n : Int} {m : List Mv} (h : ∀ x ∈ m, MvK n x) : Pu (.lst ((sgE.srt (m.map sgM)).map sgD)) := pu_lst fun d hd => by
  obtain ⟨p, hp, rfl⟩ := List.mem_map.mp hd
  obtain ⟨x, hx, rfl⟩ := List.mem_map.mp (sgE.mem_srt.mp hp)
  have k := h x hx
  have a : PyData.strOk x.c = true := nm_ok k.c
  have b : PyData.strOk x.z = true := nm_ok k.z
  exact ⟨by simp [sgD, sgM, D.pure, D.pures, a, b], by simp [sgD, D.py, D.pys, PyData.depth, PyData.depthAll]⟩
def fTR : Fn := fun ds k => ∃ n s m o, ds = [dealD n s m, .box n s m, .lst (o.map D.int)] ∧ Deal n s m ∧ Ord n o ∧ k (.bl true)
section
variable {P : Program} {w : World} {K : PySem.W.Frag} {mg : Str → Option Value} {base : Heap}
theorem cd_turns (F : At K mg "_law_turns_right" s_law_turns_right) (T : BI mg) (B : Bx P w K mg base) (c__law_turned : Cd P w K mg base 2 "_law_turned" ["_law_deal_here"] (spD K fLTurn)) (c__law_is : Cd P w K mg base 9 "_law_is" ["_law_made_here", "_law_deal_here"] (spD K fIs)) :
    Cd P w K mg base 11 "_law_turns_right" ["_law_deal_here", "_law_made_here", "_law_first"] (spD K fTR) := by
  obtain ⟨cl, CB, MB, p_states, p_is_sure, m_starts, m_steps, m_signs, m_reachable, m_steps_from, m_steps_to, m_with_starts, m_numbered, m_turned, ⟨gi, di⟩, ⟨gq, dq⟩, dn, ⟨gl, dl⟩⟩ := B
  refine cd_mk F sc_law_turns_right (fun vs H Q E h => len_D h fun ds k ⟨n, s, m, o, e, _⟩ => by rw [e]; rfl) (fun _ _ _ _ _ _ us hl => match us, hl with | [_, _, _], _ => rfl) (fun f cdv A outer s H vs Q E hr hG h => ⟨_, (pss_cons (ps_set (i := 3) sc_law_turns_right.nd rfl (Or.inl rfl) (pe_cd c__law_turned (hr.mono (by decide)) hG (by rfl) (pa_cons (pv 0) pa_nil)))
  (pss_cons (ps_set (i := 4) sc_law_turns_right.nd rfl (Or.inl rfl) (pe_mo0 m_turned cl (hr.mono (by decide)) (pv 1)))
  (pss_cons (ps_if (PW.pt (pw_or (pt_not (pt_val (pe_cd c__law_is (hr.mono (by decide)) hG (by rfl) (pa_cons (pv 4) (pa_cons (pv 3) pa_nil))))) (pw_or1 (pt_cmpR (Tl.op_neDK (K := K) rfl hr.units) (pe_mo0 m_reachable cl (hr.mono (by decide)) (pv 4)) (pe_listRg rfl (by rfl) T.list (prg_1 (by rfl) T.range (pe_dget (hu_of hr) (pv 0) pe_str (fun _ _ => rfl)))) (nomark _))))) (pss_one (ps_ret pe_bl)) pss_nil)
  (pss_cons (ps_if (PW.pt (pw_or (pt_cmpR (Tl.op_neDK (K := K) rfl hr.units) (pe_mo0 m_steps cl (hr.mono (by decide)) (pe_mo0 m_turned cl (hr.mono (by decide)) (pv 4))) (pe_dget (hu_of hr) (pv 0) pe_str (fun _ _ => rfl)) (nomark _)) (pw_or1 (pt_cmpR (op_neI dn.1 dq.1 dn.2 dq.2.1 dq.2.2 (hr.mono (by decide)) pass0) (pe_mo m_with_starts cl (hr.mono (by decide)) (pe_mo0 m_turned cl (hr.mono (by decide)) (pv 4)) (pa_cons (pe_mo0 m_starts cl (hr.mono (by decide)) (pv 1)) pa_nil)) (pv 1) (nomark _))))) (pss_one (ps_ret pe_bl)) pss_nil)
  (pss_cons (ps_for PassesOwn.never rfl (pi_range1 (by rfl) T.range (pa_cons (pe_dget (hu_of hr) (pv 0) pe_str (fun _ _ => rfl)) pa_nil)) (pg_name (i := 5) sc_law_turns_right.nd rfl (Or.inl rfl)) (pss_cons (ps_set (i := 6) sc_law_turns_right.nd rfl (Or.inl rfl) (pe_callB (cr_sortS hr.units) (by rfl) T.sorted bt_sorted (pa_cons (pe_lc (own := [("_law_here", 7), ("_law_call", 8), ("_law_answer", 9), ("_law_goal", 10)]) (g := (gTup K 4 (gCons (gName 7) (gCons (gName 8) (gCons (gName 9) (gCons (gName 10) gNil)))))) (tt := tYes) (by rfl) sc_law_turns_right.nd (pi_list (pe_mo m_steps_to cl (hr.mono (by decide)) (pv 1) (pa_cons (pv 5) pa_nil))) (blkOk_by (own := [("_law_here", 7), ("_law_call", 8), ("_law_answer", 9), ("_law_goal", 10)]) (N := ["_law_deal_here", "_law_made_here", "_law_first", "_law_due", "_law_near", "_law_at", "_law_coming", "_law_here", "_law_call", "_law_answer", "_law_goal"]) (sc := defScope s_law_turns_right) (by decide +kernel)) (fun _ _ _ _ _ => (pg_tup (by rfl) (pgs_cons (pg_name (i := 7) sc_law_turns_right.nd rfl (Or.inl rfl)) (pgs_cons (pg_name (i := 8) sc_law_turns_right.nd rfl (Or.inl rfl)) (pgs_cons (pg_name (i := 9) sc_law_turns_right.nd rfl (Or.inl rfl)) (pgs_cons (pg_name (i := 10) sc_law_turns_right.nd rfl (Or.inl rfl)) pgs_nil)))))) (fun _ _ _ _ _ => pts_nil) (fun _ _ _ _ _ => (pe_tup (pa_cons (pv 10) (pa_cons (pv 8) (pa_cons (pv 9) (pa_cons (pv 7) pa_nil))))))) pa_nil)))
  (pss_cons (ps_if (pt_cmpR (Tl.op_neDK (K := K) rfl hr.units) (pe_mo m_steps_from cl (hr.mono (by decide)) (pv 4) (pa_cons (pv 5) pa_nil)) (pv 6) (nomark _)) (pss_one (ps_ret pe_bl)) pss_nil)
  (pss_one (ps_if (pt_cmpR op_ne (pe_callB (Tl.call_lenKK (K := K) rfl) (by rfl) T.len PySem.boot_len (pa_cons (pe_mo m_steps_to cl (hr.mono (by decide)) (pv 4) (pa_cons (pv 5) pa_nil)) pa_nil)) (pe_callB (Tl.call_lenKK (K := K) rfl) (by rfl) T.len PySem.boot_len (pa_cons (pe_mo m_steps_from cl (hr.mono (by decide)) (pv 1) (pa_cons (pv 5) pa_nil)) pa_nil)) (nomark _)) (pss_one (ps_ret pe_bl)) pss_nil)))))
  (pss_one (ps_ret (pe_and (pe_cmpR (op_eqI dq.1 dq.2.1 dq.2.2 (hr.mono (by decide)) pass0) (pe_mo0 m_turned cl (hr.mono (by decide)) (pe_mo m_numbered cl (hr.mono (by decide)) (pv 1) (pa_cons (pv 2) pa_nil))) (pe_mo m_numbered cl (hr.mono (by decide)) (pv 4) (pa_cons (pv 2) pa_nil)) (nomark _)) (pe_one (pe_cmpR (Tl.op_eqDK (K := K) rfl hr.units) (pe_mo0 m_signs cl (hr.mono (by decide)) (pv 4)) (pe_mo0 m_signs cl (hr.mono (by decide)) (pv 1)) (nomark _))))))))))), body_D (fun W ds k hf => ?_) h⟩)
  obtain ⟨n, s, m, o, rfl, de, od, hk⟩ := hf
  have m14 := de.m14
  have n6 := de.n6
  have n1 := de.ok.n1
  have n0 : 0 ≤ n := by omega
  have s6 := de.sl
  have ol := od.len
  have bj := bij_idx od n0
  have dt : Deal n (rgI n) (tM m) := deal_turn de
  have t14 := dt.m14
  have t6 := dt.sl
  have e1 := sI_rgI n
  have e2 := tM_T de
  refine sx_seq (sx_set (ex_call (exa_cons (ex_var rfl (exa_nil ⟨n, s, m, rfl, de, ?_⟩)))))
  refine sx_seq (sx_set (ex_B (exb_meth (nof_of rfl) (ex_var rfl ⟨⟨_, _, _, rfl⟩, exa_nil ⟨n, s, m, rfl, de.ok, by omega, by omega, ?_⟩⟩))))
  rw [e1]
  -- the box of the deal; all is reachable
  refine sx_seq (sx_if (ext_or (ext_not (ext_b (ex_call (exa_cons (ex_var rfl (exa_cons (ex_var rfl (exa_nil ⟨n, rgI n, tM m, rfl, dt, _, rfl, ?_⟩))))))))))
  show ExT _ _ _ _
  refine ext_test (ex_op (ex_L (exl_meth (nof_of rfl) (ex_var rfl ⟨⟨_, _, _, rfl⟩, exa_nil ⟨n, rgI n, tM m, rfl, dt.ok, by omega, by omega, ex_L (exl_rng (ex_dget (ex_var rfl ⟨_, _, rfl, ex_str ⟨.inr "many", .int n, rfl, rfl, n, rfl, by omega, by omega, od_neD (pu_ints _) (pu_ints _) fun b hb => ⟨_, rfl, ?_⟩⟩⟩)))⟩⟩))))
  rw [hb.mpr (by rw [tM_reach de])]
  refine sx_next ?_
  -- turned twice
  refine sx_seq (sx_if (ext_or (ext_test (ex_op (ex_L (exl_meth (nof_of rfl) (ex_B (exb_meth (nof_of rfl) (ex_var rfl ⟨⟨_, _, _, rfl⟩, exa_nil ⟨n, rgI n, tM m, rfl, dt.ok, by omega, by omega, ?_⟩⟩)))))))))
  rw [e1, e2]
  refine ⟨⟨_, _, _, rfl⟩, exa_nil ⟨n, rgI n, m, rfl, ex_dget (ex_var rfl ⟨_, _, rfl, ex_str ⟨.inr "moves", .lst (m.map mvD), rfl, rfl, od_neD (pu_mvs de.ok.mr) (pu_mvs de.ok.mr) fun b hb => ⟨_, rfl, ?_⟩⟩⟩)⟩⟩
  rw [hb.mpr rfl]
  show ExT _ _ _ _
  refine ext_test (ex_op (ex_B (exb_meth (nof_of rfl) (ex_B (exb_meth (nof_of rfl) (ex_var rfl ⟨⟨_, _, _, rfl⟩, exa_nil ⟨n, rgI n, tM m, rfl, dt.ok, by omega, by omega, ?_⟩⟩))))))
  rw [e1, e2]
  refine ⟨⟨_, _, _, rfl⟩, exa_cons (ex_L (exl_meth (nof_of rfl) (ex_var rfl ⟨⟨_, _, _, rfl⟩, exa_nil ⟨n, s, m, rfl, exa_nil ⟨n, rgI n, m, s, rfl, de.ok, by omega, by omega, ?_⟩⟩⟩)))⟩
  rw [de.ns, de.nm]
  refine ex_var rfl (od_neI ⟨n, s, m, n, s, m, rfl, de.ok, de.ok, fun b hb => ⟨b, rfl, _, rfl, ?_⟩⟩)
  rw [hb.mpr ⟨rfl, rfl, rfl⟩]
  refine sx_next ?_
  -- what leads to a state leads from it
  refine sx_seq (sx_for (js := [5]) (exi_rng1 (exa_cons (ex_dget (ex_var rfl ⟨_, _, rfl, ex_str ⟨.inr "many", .int n, rfl, rfl, exa_nil ⟨n, rfl, by omega, by omega, ?_⟩⟩⟩)))))
  refine ⟨fun i Γ' => ∃ u5 u6, Γ' = [.val (dealD n s m), .val (.box n s m), .val (.lst (o.map D.int)), .val (dealD n (rgI n) (tM m)), .val (.box n (rgI n) (tM m)), u5, u6, .un, .un, .un, .un], ⟨.un, .un, rfl⟩, fun j d Γ' hd iv => ?_, fun Γ' iv => ?_⟩
  · obtain ⟨u5, u6, rfl⟩ := iv
    obtain ⟨lt, rfl⟩ := rng_at hd
    refine gx_name ?_
    refine sx_seq (sx_set (ex_L (exl_sortT mvE (ex_L (exl_lc (js := [7, 8, 9, 10]) (by decide) (exi_list (ex_L (exl_meth (nof_of rfl) (ex_var rfl ⟨⟨_, _, _, rfl⟩, exa_cons (ex_var rfl (exa_nil ⟨n, s, m, (j : Int), rfl, by omega, by omega, by omega, _, rfl, by rw [List.length_map]; exact small_line (Nat.lt_of_le_of_lt (List.length_filter_le _ _) (by omega)), fun i acc => acc = ((m.filter fun x => decide (x.b = (j : Int))).take i).map fun x => mvD (mvT x), rfl, fun i d acc hd pv => ?_, fun acc pv => ?_⟩))⟩)))))))))
    · obtain ⟨x, hx, rfl⟩ := at_map hd
      refine gx_tup rfl (by simp) (gs_cons (gx_name (gs_cons (gx_name (gs_cons (gx_name (gs_cons (gx_name (gs_nil (ext_yes ?_))))))))))
      rw [if_pos rfl]
      refine ex_tup (exa_cons (ex_var rfl (exa_cons (ex_var rfl (exa_cons (ex_var rfl (exa_cons (ex_var rfl (exa_nil ⟨by show 4 ≤ sizeLine; decide, ?_⟩)))))))))
      rw [show acc = _ from pv]
      exact (take_map (g := fun x => mvD (mvT x)) hx).symm
    rw [List.length_map, List.take_length] at pv
    have pv : acc = ((m.filter fun x => decide (x.b = (j : Int))).map mvT).map mvD := by
      rw [show acc = _ from pv, List.map_map]
      rfl
    subst pv
    refine ⟨(m.filter fun x => decide (x.b = (j : Int))).map mvT, .inl rfl, nodup_mapI (de.ok.md.filter _) fun x _ y _ e => ?_, ?_⟩
    · have := congrArg mvT e
      rwa [mvT_T, mvT_T] at this
    rw [tM_from de]
    refine sx_seq (sx_if (ext_test (ex_op (ex_L (exl_meth (nof_of rfl) (ex_var rfl ⟨⟨_, _, _, rfl⟩, exa_cons (ex_var rfl (exa_nil ⟨n, rgI n, tM m, (j : Int), rfl, by omega, by omega, by omega, ex_var rfl (od_neD (pu_mvs fun x hx => dt.ok.mr x ((List.mem_filter.mp hx).1)) (pu_mvs fun x hx => dt.ok.mr x ((List.mem_filter.mp hx).1)) fun b hb => ⟨_, rfl, ?_⟩)⟩))⟩))))))
    rw [hb.mpr rfl]
    refine sx_next ?_
    refine sx_if (ext_test (ex_op (ex_cb (exa_cons (ex_L (exl_meth (nof_of rfl) (ex_var rfl ⟨⟨_, _, _, rfl⟩, exa_cons (ex_var rfl (exa_nil ⟨n, rgI n, tM m, (j : Int), rfl, by omega, by omega, by omega, exa_nil (kd_len (.inl rfl) (ex_cb (exa_cons (ex_L (exl_meth (nof_of rfl) (ex_var rfl ⟨⟨_, _, _, rfl⟩, exa_cons (ex_var rfl (exa_nil ⟨n, s, m, (j : Int), rfl, by omega, by omega, by omega, exa_nil (kd_len (.inl rfl) (od_nei ⟨_, rfl, ?_⟩))⟩))⟩))))))⟩))⟩)))))))
    rw [List.length_map, List.length_map, tM_to de, decide_eq_true rfl]
    exact sx_next ⟨_, _, rfl⟩
  · obtain ⟨u5, u6, rfl⟩ := iv
    have d1 : Deal n (nS s (idx o)) (nM m (idx o)) := deal_bij de bj
    have d2 : Deal n (rgI n) (mvE.srt ((nM m (idx o)).map mvT)) := deal_turn d1
    have d3 : Deal n (nS (rgI n) (idx o)) (nM (tM m) (idx o)) := deal_bij dt bj
    have w1 := d1.m14
    refine sx_ret (ex_and (ex_op (ex_B (exb_meth (nof_of rfl) (ex_B (exb_meth (nof_of rfl) (ex_var rfl ⟨⟨_, _, _, rfl⟩, exa_cons (ex_var rfl (exa_nil ⟨n, s, m, _, o, rfl, .inl rfl, od, de.ok, by omega, by omega, by omega, ⟨_, _, _, rfl⟩, exa_nil ⟨n, nS s (idx o), nM m (idx o), rfl, d1.ok, by omega, by omega, ?_⟩⟩))⟩)))))))
    rw [e1]
    refine ex_B (exb_meth (nof_of rfl) (ex_var rfl ⟨⟨_, _, _, rfl⟩, exa_cons (ex_var rfl (exa_nil ⟨n, rgI n, tM m, _, o, rfl, .inl rfl, od, dt.ok, by omega, by omega, by omega, od_eqI ⟨n, _, _, n, nS (rgI n) (idx o), nM (tM m) (idx o), rfl, d2.ok, d3.ok, fun b hb => ⟨b, rfl, b, rfl, ?_⟩⟩⟩))⟩))
    have rg : nS (rgI n) (idx o) = rgI n := nS_rg bj fun x hx => by
      have r := mem_rgI.mp hx
      have l : x.toNat < o.length := by omega
      have a := idx_of_at od.nd (List.getElem?_eq_getElem l)
      rw [Int.toNat_of_nonneg r.1] at a
      exact ⟨o[x.toNat], mem_rgI.mpr (od.rg _ (List.getElem_mem l)), a⟩
    rw [hb.mpr ⟨rfl, rg.symm, tM_ren _⟩, if_pos rfl]
    refine ex_op (ex_L (exl_meth (nof_of rfl) (ex_var rfl ⟨⟨_, _, _, rfl⟩, exa_nil ⟨n, rgI n, tM m, rfl, by omega, ex_L (exl_meth (nof_of rfl) (ex_var rfl ⟨⟨_, _, _, rfl⟩, exa_nil ⟨n, s, m, rfl, by omega, ?_⟩⟩))⟩⟩)))
    rw [tM_signs]
    refine od_eqD (pu_sgs de.ok.mr) (pu_sgs de.ok.mr) fun b2 hb2 => ?_
    rw [hb2.mpr rfl]
    exact hk
end
end K16
/-! ## K16K -/
set_option Elab.async false
set_option linter.all false
set_option maxRecDepth 100000
set_option maxHeartbeats 4000000
namespace K16
open PySem PySem.Spec PyProof.Rows L2 He Vx Tl

def unI : D → Int
  | .int i => i
  | _ => 0
theorem perm_ints {l : List D} {r : List Int} (h : l.Perm (r.map D.int)) : ∃ o : List Int, o.Perm r ∧ l = o.map D.int := by
  refine ⟨l.map unI, ?_, ?_⟩
  · have q := h.map unI
    rw [List.map_map] at q
    rwa [show (r.map (unI ∘ D.int)) = r from List.map_id r] at q
  · rw [List.map_map]
    refine (map_same_id fun x hx => ?_).symm
    obtain ⟨i, _, rfl⟩ := List.mem_map.mp (h.mem_iff.mp hx)
    rfl
theorem ord_perm {n : Int} {o : List Int} (h : o.Perm (rgI n)) : Ord n o := ⟨by rw [h.length_eq, rgI_len], h.nodup_iff.mpr (rgI_nodup n), fun i hi => mem_rgI.mp (h.mem_iff.mp hi)⟩
def fRight : Fn := fun ds k => ds = [] ∧ k (.bl true)
section
variable {P : Program} {w : World} {K : PySem.W.Frag} {mg : Str → Option Value} {base : Heap}
theorem cd_right (F : At K mg "_law_right" s_law_right) (T : BI mg) (B : Bx P w K mg base) (c__law_deal : Cd P w K mg base 3 "_law_deal" ["_law_pot_here", "_law_most", "_law_wide"] (Tl.spP K fDeal)) (c__law_made : Cd P w K mg base 8 "_law_made" ["_law_deal_here"] (spB K fMadeL)) (c__law_shown : Cd P w K mg base 6 "_law_shown" ["_law_made_here"] (spD K fShown))
    (c__law_mixed : Cd P w K mg base 2 "_law_mixed" ["_law_pot_here", "_law_menu_here"] (Tl.spP K fMixed)) (c__law_orders_right : Cd P w K mg base 11 "_law_orders_right" ["_law_deal_here", "_law_made_here", "_law_first", "_law_second"] (spD K fOR)) (c__law_turns_right : Cd P w K mg base 11 "_law_turns_right" ["_law_deal_here", "_law_made_here", "_law_first"] (spD K fTR)) :
    Cd P w K mg base 12 "_law_right" ["_law_pot_here"] (Tl.spP K fRight) := by
  obtain ⟨cl, CB, MB, p_states, p_is_sure, m_starts, m_steps, m_signs, m_reachable, m_steps_from, m_steps_to, m_with_starts, m_numbered, m_turned, ⟨gi, di⟩, ⟨gq, dq⟩, dn, ⟨gl, dl⟩⟩ := B
  refine cd_mk F sc_law_right (fun vs H Q E h => len_P h fun ds k ⟨e, _⟩ => by rw [e]; rfl) (fun _ _ _ _ _ _ us hl => match us, hl with | [_], _ => rfl) (fun f cdv A outer s H vs Q E hr hG h => ⟨_, (pss_cons (ps_set (i := 1) sc_law_right.nd rfl (Or.inl rfl) (pe_cd c__law_deal (hr.mono (by decide)) hG (by rfl) (pa_cons (pv 0) (pa_cons pe_int (pa_cons pe_int pa_nil)))))
  (pss_cons (ps_set (i := 2) sc_law_right.nd rfl (Or.inl rfl) (pe_cd c__law_made (hr.mono (by decide)) hG (by rfl) (pa_cons (pv 1) pa_nil)))
  (pss_cons (ps_set (i := 3) sc_law_right.nd rfl (Or.inl rfl) (pe_cd c__law_shown (hr.mono (by decide)) hG (by rfl) (pa_cons (pv 2) pa_nil)))
  (pss_cons (ps_for PassesOwn.never rfl (pi_range1 (by rfl) T.range (pa_cons pe_int pa_nil)) (pg_name (i := 4) sc_law_right.nd rfl (Or.inl rfl)) (pss_cons (ps_par (i := 5) (j := 6) (by rfl) sc_law_right.nd rfl rfl (by decide) rfl rfl (pa_cons (pe_cd c__law_mixed (hr.mono (by decide)) hG (by rfl) (pa_cons (pv 0) (pa_cons (pe_listRg rfl (by rfl) T.list (prg_1 (by rfl) T.range (pe_dget (hu_of hr) (pv 1) pe_str (fun _ _ => rfl)))) pa_nil))) (pa_cons (pe_cd c__law_mixed (hr.mono (by decide)) hG (by rfl) (pa_cons (pv 0) (pa_cons (pe_listRg rfl (by rfl) T.list (prg_1 (by rfl) T.range (pe_dget (hu_of hr) (pv 1) pe_str (fun _ _ => rfl)))) pa_nil))) pa_nil)) (by rfl))
  (pss_cons (ps_if (PW.pt (pw_or (pt_not (pt_val (pe_cd c__law_orders_right (hr.mono (by decide)) hG (by rfl) (pa_cons (pv 1) (pa_cons (pv 2) (pa_cons (pv 5) (pa_cons (pv 6) pa_nil))))))) (pw_or1 (pt_not (pt_val (pe_cd c__law_turns_right (hr.mono (by decide)) hG (by rfl) (pa_cons (pv 1) (pa_cons (pv 2) (pa_cons (pv 5) pa_nil))))))))) (pss_one (ps_ret pe_bl)) pss_nil)
  (pss_cons (ps_set (i := 7) sc_law_right.nd rfl (Or.inl rfl) (pe_mo0 m_turned cl (hr.mono (by decide)) (pv 2)))
  (pss_cons (ps_expr (pe_bm0 PySem.F.plainAttrs_list PySem.F.slot_list_clear PySem.F.type_list_clear mt_clear (pe_mo0 m_steps cl (hr.mono (by decide)) (pv 7))))
  (pss_one (ps_if (PW.pt (pw_or (pt_cmpR (op_neI dn.1 dq.1 dn.2 dq.2.1 dq.2.2 (hr.mono (by decide)) pass0) (pv 7) (pe_mo0 m_turned cl (hr.mono (by decide)) (pv 2)) (nomark _)) (pw_or1 (pt_cmpR op_ne (pe_cd c__law_shown (hr.mono (by decide)) hG (by rfl) (pa_cons (pv 2) pa_nil)) (pv 3) (nomark _))))) (pss_one (ps_ret pe_bl)) pss_nil)))))))
  (pss_one (ps_ret pe_bl)))))), body_P (fun p W ds k hf => ?_) (by decide) h⟩)
  obtain ⟨rfl, hk⟩ := hf
  refine sx_seq (sx_set (ex_callP rfl (exa_cons (ex_int (exa_cons (ex_int (exa_nil ⟨rfl, fun n s m de => ?_⟩)))))))
  refine sx_seq (sx_set (ex_B (exb_call (exa_cons (ex_var rfl (exa_nil ⟨n, s, m, rfl, de, ?_⟩))))))
  refine sx_seq (sx_set (ex_call (exa_cons (ex_var rfl (exa_nil ⟨n, s, m, rfl, de, ?_⟩)))))
  have m14 := de.m14
  have n6 := de.n6
  have n1 := de.ok.n1
  have s6 := de.sl
  have dt : Deal n (rgI n) (tM m) := deal_turn de
  have t14 := dt.m14
  have t6 := dt.sl
  have e1 := sI_rgI n
  refine sx_seq (sx_for (js := [4]) (exi_rng1 (exa_cons (ex_int (exa_nil ⟨4, rfl, by decide, by decide, ?_⟩)))))
  refine ⟨fun i Γ' => ∃ u4 u5 u6 u7, Γ' = [.pot, .val (dealD n s m), .val (.box n s m), .val (.str (shownD n s m).py.shown), u4, u5, u6, u7], ⟨.un, .un, .un, .un, rfl⟩, fun j d Γ' hd iv => ?_, fun Γ' iv => ?_⟩
  · obtain ⟨u4, u5, u6, u7, rfl⟩ := iv
    refine gx_name ?_
    refine sx_seq (sx_par (exa_cons (ex_callP rfl (exa_cons (ex_L (exl_rng (ex_dget (ex_var rfl ⟨_, _, rfl, ex_str ⟨.inr "many", .int n, rfl, rfl, n, rfl, by omega, by omega, exa_nil ⟨_, rfl, by rw [List.length_map, rgI_len]; omega, fun l1 pm1 => exa_cons (ex_callP rfl (exa_cons (ex_L (exl_rng (ex_dget (ex_var rfl ⟨_, _, rfl, ex_str ⟨.inr "many", .int n, rfl, rfl, n, rfl, by omega, by omega, exa_nil ⟨_, rfl, by rw [List.length_map, rgI_len]; omega, fun l2 pm2 => exa_nil ⟨_, _, rfl, ?_⟩⟩⟩⟩))))))⟩⟩⟩))))))))
    obtain ⟨o, po, rfl⟩ := perm_ints pm1
    obtain ⟨q, pq, rfl⟩ := perm_ints pm2
    have od := ord_perm po
    have oq := ord_perm pq
    refine sx_seq (sx_if (ext_or (ext_not (ext_b (ex_call (exa_cons (ex_var rfl (exa_cons (ex_var rfl (exa_cons (ex_var rfl (exa_cons (ex_var rfl (exa_nil ⟨n, s, m, o, q, rfl, de, od, oq, _, rfl, ?_⟩))))))))))))))
    show ExT _ _ _ _
    refine ext_not (ext_b (ex_call (exa_cons (ex_var rfl (exa_cons (ex_var rfl (exa_cons (ex_var rfl (exa_nil ⟨n, s, m, o, rfl, de, od, _, rfl, ?_⟩)))))))))
    refine sx_next ?_
    refine sx_seq (sx_set (ex_B (exb_meth (nof_of rfl) (ex_var rfl ⟨⟨_, _, _, rfl⟩, exa_nil ⟨n, s, m, rfl, de.ok, by omega, by omega, ?_⟩⟩))))
    rw [e1]
    refine sx_seq (sx_clearL (exl_meth (nof_of rfl) (ex_var rfl ⟨⟨_, _, _, rfl⟩, exa_nil ⟨n, rgI n, tM m, rfl, ?_⟩⟩)))
    refine sx_if (ext_or (ext_test (ex_op (ex_var rfl (ex_B (exb_meth (nof_of rfl) (ex_var rfl ⟨⟨_, _, _, rfl⟩, exa_nil ⟨n, s, m, rfl, de.ok, by omega, by omega, ?_⟩⟩)))))))
    rw [e1]
    refine od_neI ⟨n, rgI n, tM m, n, rgI n, tM m, rfl, dt.ok, dt.ok, fun b hb => ⟨b, rfl, _, rfl, ?_⟩⟩
    rw [hb.mpr ⟨rfl, rfl, rfl⟩]
    show ExT _ _ _ _
    refine ext_test (ex_op (ex_call (exa_cons (ex_var rfl (exa_nil ⟨n, s, m, rfl, de, ex_var rfl (od_nes ⟨_, rfl, ?_⟩)⟩)))))
    rw [decide_eq_true rfl]
    exact sx_next ⟨_, _, _, _, rfl⟩
  · obtain ⟨u4, u5, u6, u7, rfl⟩ := iv
    exact sx_ret (ex_bl hk)
end
end K16
/-! ## K16L -/
set_option Elab.async false
set_option linter.all false
set_option maxRecDepth 100000
set_option maxHeartbeats 4000000
namespace K16
open PySem PySem.Spec PyProof.Rows L2 He Vx Tl

section
variable {P : Program} {w : World} {K : PySem.W.Frag} {mg : Str → Option Value} {base : Heap}
theorem fn_mk {f : Addr} {fd : FuncData} {k : Nat} {x : Str} {st : Stmt} {sp : Sp} {ps N : List Str} (F : Fun K x x st f fd) (S : FnScope N ps (defScope st)) (len : ∀ vs (H : Hp) Q E, sp vs H Q E → vs.length = ps.length)
    (body : ∀ (f : Addr) (cdv : Value) (A : Around) (outer : List Env) (s : Shared) (H : Hp) (vs : List V) (Q : VK) (E : XK), Room k (A.deeper (envOfC x (defScope st) s.heap.objs.size f cdv)) → Gd (A.deeper (envOfC x (defScope st) s.heap.objs.size f cdv)) → sp vs H Q E →
      ∃ t, PSs (cxOf CX0 P w K mg base N x (defScope st) f cdv A outer s H E).nox (defBody st) t ∧ t { nx := fun _ H' => Q .non H', rt := Q } (start N vs) H) : FnG P w K mg base CX0 (k + 1) f fd ps sp :=
  okG F S len fun cdv A outer s H vs Q E hr hG h => by
    obtain ⟨t, h1, h2⟩ := body f cdv A outer s H vs Q E hr hG h
    exact ⟨t, h1.nox, h2⟩
theorem same_pot {p : Addr} {H1 H2 H4 : Hp} (n : H1 p = none) (s : Same H1 H2) (st : Stp p H2 H4) : Same H1 H4 := fun x o e => by
  have nx := ne_of_none e n
  have q := st.k x o ((off_ne nx).trans (s x o e))
  rw [off_ne nx] at q
  exact q
/-- the law: whatever the script, True -/
def spLaw (K : PySem.W.Frag) : Sp := fun vs H Q _ => ∃ (a : Addr) (ns : List Int), vs = [.ref a] ∧ SqL K H a (ns.map V.int) ∧ ns.length ≤ 1000 ∧ ∀ H', Q (.bl true) H'
theorem fn_law {fa : Addr} {fd : FuncData} (F : Fun K "law" "law" s_law fa fd) (T : BI mg) (c__law_right : Cd P w K mg base 12 "_law_right" ["_law_pot_here"] (Tl.spP K fRight)) (c__law_pot : Cd P w K mg base 1 "_law_pot" ["_law_script", "_law_k"] (spPot K)) : FnG P w K mg base CX0 13 fa fd ["_law_script"] (spLaw K) := by
  refine fn_mk F sc_law (fun vs H Q E h => ?_) (fun f cdv A outer s H vs Q E hr hG h => ?_)
  · obtain ⟨a, ns, rfl, _⟩ := h
    rfl
  · obtain ⟨a, ns, rfl, hS, hl, k⟩ := h
    refine ⟨_, (pss_one (ps_ret (pe_callB (cr_all rfl) (by rfl) T.all bt_all (pa_cons (pe_lc (own := [("_law_k", 1)]) (g := (gName 1)) (tt := tYes) (by rfl) sc_law.nd (pi_range1 (by rfl) T.range (pa_cons (pe_callB (call_max2 rfl) (by rfl) T.max bt_max (pa_cons pe_int (pa_cons (pe_callB (call_min2 rfl) (by rfl) T.min bt_min (pa_cons (pe_callB call_len_seq (by rfl) T.len PySem.boot_len (pa_cons (pv 0) pa_nil)) (pa_cons pe_int pa_nil))) pa_nil))) pa_nil)) (blkOk_by (own := [("_law_k", 1)]) (N := ["_law_script", "_law_k"]) (sc := defScope s_law) (by decide +kernel)) (fun _ _ _ _ _ => (pg_name (i := 1) sc_law.nd rfl (Or.inl rfl))) (fun _ _ _ _ _ => pts_nil) (fun _ _ _ _ _ => (pe_cd c__law_right (hr.mono (by decide)) hG (by rfl) (pa_cons (pe_cd c__law_pot (hr.mono (by decide)) hG (by rfl) (pa_cons (pv 0) (pa_cons (pv 1) pa_nil))) pa_nil)))) pa_nil)))), ?_⟩
    refine in_ret (in_cb (in_cons ?_))
    have h4 : ∀ n : Int, 0 ≤ n → ∃ m : Nat, 1 ≤ m ∧ m ≤ 4 ∧ (if (if 4 < n then (4 : Int) else n) > 1 then (if 4 < n then (4 : Int) else n) else 1) = (m : Int) := fun n hn => by
      refine ⟨(if (if 4 < n then (4 : Int) else n) > 1 then (if 4 < n then (4 : Int) else n) else 1).toNat, ?_, ?_, ?_⟩ <;> (split <;> split <;> omega)
    obtain ⟨m, m1, m4, em⟩ := h4 ((ns.map V.int).length : Nat) (by omega)
    refine ⟨_, rfl, a, _, rfl, .inl hS, _, _, rfl, _, _, rfl, _, rfl, ?_, ?_, fun D hD => ?_⟩
    · rw [em]
      omega
    · rw [em]
      omega
    · rw [em]
      refine lc_range (lo := 0) (n := m) (fun i H' => H D = none ∧ Same H H' ∧ H' D = some (.lst ((List.replicate i true).map V.bl))) ⟨hD, same_new hD, upd_same⟩
        (fun i H' hi z => ⟨by rfl, ?_⟩) fun H' z => ?_
      · obtain ⟨z1, z2, z3⟩ := z
        refine ⟨_, rfl, _, rfl, a, _, ns, rfl, z2.seq hS, by omega, by omega, hl, fun p H2 hp s2 P2 => ?_⟩
        refine ⟨p, [p], [], [], (fun d => d = .bl true), rfl, List.mem_singleton_self p, P2, fun b hb => ?_, .nil, ⟨rfl, rfl⟩, fun d v H4 e st4 rv => ?_⟩
        · rw [List.mem_singleton.mp hb]
          intro z
          obtain ⟨_, _, q, _⟩ := P2
          rw [q] at z
          cases z
        subst e
        cases rv
        have s4 : Same H' H4 := same_pot hp s2 st4
        refine ⟨_, s4 _ _ z3, by rw [List.length_map, List.length_replicate]; exact small1000 (by omega), z1, fun c o ec => ?_, ?_⟩
        · rw [upd_ne (ne_of_none ec z1)]
          exact s4 _ _ (z2 c o ec)
        · rw [upd_same, List.replicate_succ', List.map_append]
          rfl
      · obtain ⟨z1, z2, z3⟩ := z
        refine ⟨D, _, rfl, SqL.of z3, ?_⟩
        have e : (List.replicate m true).all id = true := by
          rw [List.all_eq_true]
          intro b hb
          rw [List.eq_of_mem_replicate hb]
          rfl
        rw [e]
        exact k H'
end
end K16
/-! ## HF16 -/
set_option Elab.async false
set_option linter.all false
set_option maxRecDepth 100000
set_option maxHeartbeats 4000000
namespace K16
open PySem PySem.Spec PyProof.Rows L2 He Vx Tl
section
variable {P : Program} {w : World} {K : PySem.W.Frag} {mg : Str → Option Value} {base h : Heap}
theorem funD_at {g : Addr} {d : DefD} (e : fnAt K g = d.val) (c : okAt K g d = true) : ∃ fd, FunD K d.name d.qual d.params d.body d.scope (d.dvs K) (d.kws K) g fd := by
  obtain ⟨kp, c2⟩ := ba c
  unfold fnAt at e
  cases q : K.lookup g with
  | none =>
    rw [q] at c2
    cases c2
  | some o =>
    obtain ⟨oc, od, dt, osl⟩ := o
    rw [q] at c2 e
    cases dt with
    | func fd =>
      obtain ⟨n1, n2, n3, n4, n5, n6, n7, n8, n9, n10, n11, n12, n13, n14, n15⟩ := fd
      have e2 : (some (n1, n2, n3, n4, n5, n6, n7, n15) : FnW) = some (d.name, d.qual, d.params, .stmts d.body, d.scope, mainGlobals, [], builtinsNs) := e
      simp only [Option.some.injEq, Prod.mk.injEq] at e2
      obtain ⟨h1, h2, h3, h4, h5, h6, h7, h8⟩ := e2
      subst h1 h2 h3 h4 h5 h6 h7 h8
      obtain ⟨k1, k2⟩ := ba (show (PySem.W.codeIn K n13 d.qual && (dflB K n8 (d.dvs K) && kwdB K n9 (d.kws K))) = true from c2)
      obtain ⟨k3, k4⟩ := ba k2
      exact ⟨_, ⟨oc, od, n8, n9, n10, n11, n12, n13, n14, osl, rfl, q, k1, dflB_ok k3, kwdB_ok k4⟩, kp⟩
    | _ => cases c2
structure XF (K : PySem.W.Frag) : Prop where
  ec : ∀ c ∈ ecs, c.ok K = true
  e0 : ∀ c ∈ ec0, c.ok0 K = true
  bx : boxB K = true
  ow : ownB K = true
  pr : ∀ p ∈ prD, propB K p.1 p.2 = true
theorem xf_of (o : xbK K = true) : XF K := by
  obtain ⟨h2, o⟩ := ba o
  obtain ⟨h3, o⟩ := ba o
  obtain ⟨h4, o⟩ := ba o
  obtain ⟨h5, h6⟩ := ba o
  exact ⟨List.all_eq_true.mp h2, List.all_eq_true.mp h3, h4, h5, List.all_eq_true.mp h6⟩
theorem e_InvalidStates (X : K.In h) (G : h.Ns mainGlobals mg) (x : XF K) (c : SaysD faK fnK K) : ErrC P w K mg base xVal "InvalidStates" "value" (ga K "InvalidStates") := by
  obtain ⟨fd, F⟩ := c.def_ 30 (d := dM "InvalidStates" "InvalidStates.__init__" (met 8 0)) rfl
  exact errC_of X G (c := ⟨"InvalidStates", xVal, "value", ""⟩) (x.ec _ (List.mem_of_getElem? (i := 0) rfl)) F ⟨_, _, _, _, rfl⟩ ⟨rfl, rfl, rfl, by decide +kernel, rfl, by decide +kernel, by decide +kernel⟩ rfl rfl rfl rfl (fun _ _ _ _ _ _ _ _ => rfl) (fun _ _ _ _ _ _ _ _ => rfl)
theorem e_InvalidStarts (X : K.In h) (G : h.Ns mainGlobals mg) (x : XF K) (c : SaysD faK fnK K) : ErrC P w K mg base xVal "InvalidStarts" "position" (ga K "InvalidStarts") := by
  obtain ⟨fd, F⟩ := c.def_ 31 (d := dM "InvalidStarts" "InvalidStarts.__init__" (met 9 0)) rfl
  exact errC_of X G (c := ⟨"InvalidStarts", xVal, "position", ""⟩) (x.ec _ (List.mem_of_getElem? (i := 1) rfl)) F ⟨_, _, _, _, rfl⟩ ⟨rfl, rfl, rfl, by decide +kernel, rfl, by decide +kernel, by decide +kernel⟩ rfl rfl rfl rfl (fun _ _ _ _ _ _ _ _ => rfl) (fun _ _ _ _ _ _ _ _ => rfl)
theorem e_InvalidSteps (X : K.In h) (G : h.Ns mainGlobals mg) (x : XF K) (c : SaysD faK fnK K) : ErrC P w K mg base xVal "InvalidSteps" "position" (ga K "InvalidSteps") := by
  obtain ⟨fd, F⟩ := c.def_ 32 (d := dM "InvalidSteps" "InvalidSteps.__init__" (met 10 0)) rfl
  exact errC_of X G (c := ⟨"InvalidSteps", xVal, "position", ""⟩) (x.ec _ (List.mem_of_getElem? (i := 2) rfl)) F ⟨_, _, _, _, rfl⟩ ⟨rfl, rfl, rfl, by decide +kernel, rfl, by decide +kernel, by decide +kernel⟩ rfl rfl rfl rfl (fun _ _ _ _ _ _ _ _ => rfl) (fun _ _ _ _ _ _ _ _ => rfl)
theorem e_InvalidStep (X : K.In h) (G : h.Ns mainGlobals mg) (x : XF K) (c : SaysD faK fnK K) : ErrC P w K mg base xVal "InvalidStep" "value" (ga K "InvalidStep") := by
  obtain ⟨fd, F⟩ := c.def_ 33 (d := dM "InvalidStep" "InvalidStep.__init__" (met 11 0)) rfl
  exact errC_of X G (c := ⟨"InvalidStep", xVal, "value", ""⟩) (x.ec _ (List.mem_of_getElem? (i := 3) rfl)) F ⟨_, _, _, _, rfl⟩ ⟨rfl, rfl, rfl, by decide +kernel, rfl, by decide +kernel, by decide +kernel⟩ rfl rfl rfl rfl (fun _ _ _ _ _ _ _ _ => rfl) (fun _ _ _ _ _ _ _ _ => rfl)
theorem e_InvalidState (X : K.In h) (G : h.Ns mainGlobals mg) (x : XF K) (c : SaysD faK fnK K) : ErrC P w K mg base xVal "InvalidState" "value" (ga K "InvalidState") := by
  obtain ⟨fd, F⟩ := c.def_ 34 (d := dM "InvalidState" "InvalidState.__init__" (met 12 0)) rfl
  exact errC_of X G (c := ⟨"InvalidState", xVal, "value", ""⟩) (x.ec _ (List.mem_of_getElem? (i := 4) rfl)) F ⟨_, _, _, _, rfl⟩ ⟨rfl, rfl, rfl, by decide +kernel, rfl, by decide +kernel, by decide +kernel⟩ rfl rfl rfl rfl (fun _ _ _ _ _ _ _ _ => rfl) (fun _ _ _ _ _ _ _ _ => rfl)
theorem e_InvalidOrder (X : K.In h) (G : h.Ns mainGlobals mg) (x : XF K) (c : SaysD faK fnK K) : ErrC P w K mg base xVal "InvalidOrder" "value" (ga K "InvalidOrder") := by
  obtain ⟨fd, F⟩ := c.def_ 35 (d := dM "InvalidOrder" "InvalidOrder.__init__" (met 13 0)) rfl
  exact errC_of X G (c := ⟨"InvalidOrder", xVal, "value", ""⟩) (x.ec _ (List.mem_of_getElem? (i := 5) rfl)) F ⟨_, _, _, _, rfl⟩ ⟨rfl, rfl, rfl, by decide +kernel, rfl, by decide +kernel, by decide +kernel⟩ rfl rfl rfl rfl (fun _ _ _ _ _ _ _ _ => rfl) (fun _ _ _ _ _ _ _ _ => rfl)
theorem e_TooMany (X : K.In h) (G : h.Ns mainGlobals mg) (x : XF K) (c : SaysD faK fnK K) : ErrC2 P w K mg base xAri "TooMany" "what" "limit" (ga K "TooMany") := by
  obtain ⟨fd, F⟩ := c.def_ 36 (d := dM "TooMany" "TooMany.__init__" (met 15 0)) rfl
  exact errC2_of X G (c := ⟨"TooMany", xAri, "what", "limit"⟩) (x.ec _ (List.mem_of_getElem? (i := 6) rfl)) F ⟨_, _, _, _, _, _, _, _, rfl⟩ ⟨rfl, rfl, rfl, by decide +kernel, rfl, by decide +kernel, by decide +kernel⟩ rfl rfl rfl rfl rfl rfl rfl (fun _ _ _ _ _ _ _ _ _ => rfl) (fun _ _ _ _ _ _ _ _ _ => rfl)
theorem e_BoxError (X : K.In h) (G : h.Ns mainGlobals mg) (x : XF K) : Err0 K mg xVal "BoxError" (ga K "BoxError") := err0_of X G (c := ⟨"BoxError", xVal, "", ""⟩) (x.e0 _ (List.mem_of_getElem? (i := 0) rfl))
theorem e_LimitError (X : K.In h) (G : h.Ns mainGlobals mg) (x : XF K) : Err0 K mg xAri "LimitError" (ga K "LimitError") := err0_of X G (c := ⟨"LimitError", xAri, "", ""⟩) (x.e0 _ (List.mem_of_getElem? (i := 1) rfl))
theorem es_of (X : K.In h) (G : h.Ns mainGlobals mg) (x : XF K) (c : SaysD faK fnK K) : ErrSet P w K mg base := ⟨e_BoxError X G x, e_InvalidStates X G x c, e_InvalidStarts X G x c, e_InvalidSteps X G x c, e_InvalidStep X G x c, e_InvalidState X G x c, e_InvalidOrder X G x c, e_LimitError X G x, e_TooMany X G x c⟩
theorem at_is_integer (X : K.In h) (G : h.Ns mainGlobals mg) (c : SaysD faK fnK K) : At K mg "is_integer" s_is_integer := ⟨by
  obtain ⟨fd, F⟩ := c.def_ 0 (d := dD "is_integer" s_is_integer) rfl
  exact ⟨_, fd, funD_fun F, glo_ok X G (c.fact 26 (f := .glo "is_integer") rfl)⟩⟩
theorem at_is_name (X : K.In h) (G : h.Ns mainGlobals mg) (c : SaysD faK fnK K) : At K mg "is_name" s_is_name := ⟨by
  obtain ⟨fd, F⟩ := c.def_ 1 (d := dD "is_name" s_is_name) rfl
  exact ⟨_, fd, funD_fun F, glo_ok X G (c.fact 27 (f := .glo "is_name") rfl)⟩⟩
theorem at_is_list (X : K.In h) (G : h.Ns mainGlobals mg) (c : SaysD faK fnK K) : At K mg "is_list" s_is_list := ⟨by
  obtain ⟨fd, F⟩ := c.def_ 2 (d := dD "is_list" s_is_list) rfl
  exact ⟨_, fd, funD_fun F, glo_ok X G (c.fact 28 (f := .glo "is_list") rfl)⟩⟩
theorem at_is_state (X : K.In h) (G : h.Ns mainGlobals mg) (c : SaysD faK fnK K) : At K mg "is_state" s_is_state := ⟨by
  obtain ⟨fd, F⟩ := c.def_ 3 (d := dD "is_state" s_is_state) rfl
  exact ⟨_, fd, funD_fun F, glo_ok X G (c.fact 29 (f := .glo "is_state") rfl)⟩⟩
theorem at_first_wrong (X : K.In h) (G : h.Ns mainGlobals mg) (c : SaysD faK fnK K) : At K mg "first_wrong" s_first_wrong := ⟨by
  obtain ⟨fd, F⟩ := c.def_ 4 (d := dD "first_wrong" s_first_wrong) rfl
  exact ⟨_, fd, funD_fun F, glo_ok X G (c.fact 30 (f := .glo "first_wrong") rfl)⟩⟩
theorem at_check_state (X : K.In h) (G : h.Ns mainGlobals mg) (c : SaysD faK fnK K) : At K mg "check_state" s_check_state := ⟨by
  obtain ⟨fd, F⟩ := c.def_ 5 (d := dD "check_state" s_check_state) rfl
  exact ⟨_, fd, funD_fun F, glo_ok X G (c.fact 31 (f := .glo "check_state") rfl)⟩⟩
theorem at_check_parts (X : K.In h) (G : h.Ns mainGlobals mg) (c : SaysD faK fnK K) : At K mg "check_parts" s_check_parts := ⟨by
  obtain ⟨fd, F⟩ := c.def_ 6 (d := dD "check_parts" s_check_parts) rfl
  exact ⟨_, fd, funD_fun F, glo_ok X G (c.fact 32 (f := .glo "check_parts") rfl)⟩⟩
theorem at_check_limits (X : K.In h) (G : h.Ns mainGlobals mg) (c : SaysD faK fnK K) : At K mg "check_limits" s_check_limits := ⟨by
  obtain ⟨fd, F⟩ := c.def_ 7 (d := dD "check_limits" s_check_limits) rfl
  exact ⟨_, fd, funD_fun F, glo_ok X G (c.fact 33 (f := .glo "check_limits") rfl)⟩⟩
theorem at_check_starts (X : K.In h) (G : h.Ns mainGlobals mg) (c : SaysD faK fnK K) : At K mg "check_starts" s_check_starts := ⟨by
  obtain ⟨fd, F⟩ := c.def_ 8 (d := dD "check_starts" s_check_starts) rfl
  exact ⟨_, fd, funD_fun F, glo_ok X G (c.fact 34 (f := .glo "check_starts") rfl)⟩⟩
theorem at_check_steps (X : K.In h) (G : h.Ns mainGlobals mg) (c : SaysD faK fnK K) : At K mg "check_steps" s_check_steps := ⟨by
  obtain ⟨fd, F⟩ := c.def_ 9 (d := dD "check_steps" s_check_steps) rfl
  exact ⟨_, fd, funD_fun F, glo_ok X G (c.fact 35 (f := .glo "check_steps") rfl)⟩⟩
theorem at_is_order (X : K.In h) (G : h.Ns mainGlobals mg) (c : SaysD faK fnK K) : At K mg "is_order" s_is_order := ⟨by
  obtain ⟨fd, F⟩ := c.def_ 10 (d := dD "is_order" s_is_order) rfl
  exact ⟨_, fd, funD_fun F, glo_ok X G (c.fact 36 (f := .glo "is_order") rfl)⟩⟩
theorem at_ends_of (X : K.In h) (G : h.Ns mainGlobals mg) (c : SaysD faK fnK K) : At K mg "ends_of" s_ends_of := ⟨by
  obtain ⟨fd, F⟩ := c.def_ 11 (d := dD "ends_of" s_ends_of) rfl
  exact ⟨_, fd, funD_fun F, glo_ok X G (c.fact 37 (f := .glo "ends_of") rfl)⟩⟩
theorem at_reached (X : K.In h) (G : h.Ns mainGlobals mg) (c : SaysD faK fnK K) : At K mg "reached" s_reached := ⟨by
  obtain ⟨fd, F⟩ := c.def_ 12 (d := dD "reached" s_reached) rfl
  exact ⟨_, fd, funD_fun F, glo_ok X G (c.fact 38 (f := .glo "reached") rfl)⟩⟩
theorem at_made_box (X : K.In h) (G : h.Ns mainGlobals mg) (c : SaysD faK fnK K) : At K mg "made_box" s_made_box := ⟨by
  obtain ⟨fd, F⟩ := c.def_ 13 (d := dD "made_box" s_made_box) rfl
  exact ⟨_, fd, funD_fun F, glo_ok X G (c.fact 39 (f := .glo "made_box") rfl)⟩⟩
theorem at_renumbered (X : K.In h) (G : h.Ns mainGlobals mg) (c : SaysD faK fnK K) : At K mg "renumbered" s_renumbered := ⟨by
  obtain ⟨fd, F⟩ := c.def_ 14 (d := dD "renumbered" s_renumbered) rfl
  exact ⟨_, fd, funD_fun F, glo_ok X G (c.fact 40 (f := .glo "renumbered") rfl)⟩⟩
theorem at__law_pot (X : K.In h) (G : h.Ns mainGlobals mg) (c : SaysD faK fnK K) : At K mg "_law_pot" s_law_pot := ⟨by
  obtain ⟨fd, F⟩ := c.def_ 15 (d := dD "_law_pot" s_law_pot) rfl
  exact ⟨_, fd, funD_fun F, glo_ok X G (c.fact 41 (f := .glo "_law_pot") rfl)⟩⟩
theorem at__law_draw (X : K.In h) (G : h.Ns mainGlobals mg) (c : SaysD faK fnK K) : At K mg "_law_draw" s_law_draw := ⟨by
  obtain ⟨fd, F⟩ := c.def_ 16 (d := dD "_law_draw" s_law_draw) rfl
  exact ⟨_, fd, funD_fun F, glo_ok X G (c.fact 42 (f := .glo "_law_draw") rfl)⟩⟩
theorem at__law_pick (X : K.In h) (G : h.Ns mainGlobals mg) (c : SaysD faK fnK K) : At K mg "_law_pick" s_law_pick := ⟨by
  obtain ⟨fd, F⟩ := c.def_ 17 (d := dD "_law_pick" s_law_pick) rfl
  exact ⟨_, fd, funD_fun F, glo_ok X G (c.fact 43 (f := .glo "_law_pick") rfl)⟩⟩
theorem at__law_mixed (X : K.In h) (G : h.Ns mainGlobals mg) (c : SaysD faK fnK K) : At K mg "_law_mixed" s_law_mixed := ⟨by
  obtain ⟨fd, F⟩ := c.def_ 18 (d := dD "_law_mixed" s_law_mixed) rfl
  exact ⟨_, fd, funD_fun F, glo_ok X G (c.fact 44 (f := .glo "_law_mixed") rfl)⟩⟩
theorem at__law_menu (X : K.In h) (G : h.Ns mainGlobals mg) (c : SaysD faK fnK K) : At K mg "_law_menu" s_law_menu := ⟨by
  obtain ⟨fd, F⟩ := c.def_ 19 (d := dD "_law_menu" s_law_menu) rfl
  exact ⟨_, fd, funD_fun F, glo_ok X G (c.fact 45 (f := .glo "_law_menu") rfl)⟩⟩
theorem at__law_deal (X : K.In h) (G : h.Ns mainGlobals mg) (c : SaysD faK fnK K) : At K mg "_law_deal" s_law_deal := ⟨by
  obtain ⟨fd, F⟩ := c.def_ 20 (d := dD "_law_deal" s_law_deal) rfl
  exact ⟨_, fd, funD_fun F, glo_ok X G (c.fact 46 (f := .glo "_law_deal") rfl)⟩⟩
theorem at__law_made (X : K.In h) (G : h.Ns mainGlobals mg) (c : SaysD faK fnK K) : At K mg "_law_made" s_law_made := ⟨by
  obtain ⟨fd, F⟩ := c.def_ 21 (d := dD "_law_made" s_law_made) rfl
  exact ⟨_, fd, funD_fun F, glo_ok X G (c.fact 47 (f := .glo "_law_made") rfl)⟩⟩
theorem at__law_shown (X : K.In h) (G : h.Ns mainGlobals mg) (c : SaysD faK fnK K) : At K mg "_law_shown" s_law_shown := ⟨by
  obtain ⟨fd, F⟩ := c.def_ 22 (d := dD "_law_shown" s_law_shown) rfl
  exact ⟨_, fd, funD_fun F, glo_ok X G (c.fact 48 (f := .glo "_law_shown") rfl)⟩⟩
theorem at__law_is (X : K.In h) (G : h.Ns mainGlobals mg) (c : SaysD faK fnK K) : At K mg "_law_is" s_law_is := ⟨by
  obtain ⟨fd, F⟩ := c.def_ 23 (d := dD "_law_is" s_law_is) rfl
  exact ⟨_, fd, funD_fun F, glo_ok X G (c.fact 49 (f := .glo "_law_is") rfl)⟩⟩
theorem at__law_numbered (X : K.In h) (G : h.Ns mainGlobals mg) (c : SaysD faK fnK K) : At K mg "_law_numbered" s_law_numbered := ⟨by
  obtain ⟨fd, F⟩ := c.def_ 24 (d := dD "_law_numbered" s_law_numbered) rfl
  exact ⟨_, fd, funD_fun F, glo_ok X G (c.fact 50 (f := .glo "_law_numbered") rfl)⟩⟩
theorem at__law_turned (X : K.In h) (G : h.Ns mainGlobals mg) (c : SaysD faK fnK K) : At K mg "_law_turned" s_law_turned := ⟨by
  obtain ⟨fd, F⟩ := c.def_ 25 (d := dD "_law_turned" s_law_turned) rfl
  exact ⟨_, fd, funD_fun F, glo_ok X G (c.fact 51 (f := .glo "_law_turned") rfl)⟩⟩
theorem at__law_orders_right (X : K.In h) (G : h.Ns mainGlobals mg) (c : SaysD faK fnK K) : At K mg "_law_orders_right" s_law_orders_right := ⟨by
  obtain ⟨fd, F⟩ := c.def_ 26 (d := dD "_law_orders_right" s_law_orders_right) rfl
  exact ⟨_, fd, funD_fun F, glo_ok X G (c.fact 52 (f := .glo "_law_orders_right") rfl)⟩⟩
theorem at__law_turns_right (X : K.In h) (G : h.Ns mainGlobals mg) (c : SaysD faK fnK K) : At K mg "_law_turns_right" s_law_turns_right := ⟨by
  obtain ⟨fd, F⟩ := c.def_ 27 (d := dD "_law_turns_right" s_law_turns_right) rfl
  exact ⟨_, fd, funD_fun F, glo_ok X G (c.fact 53 (f := .glo "_law_turns_right") rfl)⟩⟩
theorem at__law_right (X : K.In h) (G : h.Ns mainGlobals mg) (c : SaysD faK fnK K) : At K mg "_law_right" s_law_right := ⟨by
  obtain ⟨fd, F⟩ := c.def_ 28 (d := dD "_law_right" s_law_right) rfl
  exact ⟨_, fd, funD_fun F, glo_ok X G (c.fact 54 (f := .glo "_law_right") rfl)⟩⟩
theorem at_law (X : K.In h) (G : h.Ns mainGlobals mg) (c : SaysD faK fnK K) : At K mg "law" s_law := ⟨by
  obtain ⟨fd, F⟩ := c.def_ 29 (d := dD "law" s_law) rfl
  exact ⟨_, fd, funD_fun F, glo_ok X G (c.fact 55 (f := .glo "law") rfl)⟩⟩
theorem bi_K (X : K.In h) (G : h.Ns mainGlobals mg) (c : SaysD faK fnK K) : BI mg := bi_of X G fun i f e => c.fact i (f := f) (by
  rw [show faK = biFa ++ faD from rfl, List.getElem?_append_left (List.getElem?_eq_some_iff.mp e).1]
  exact e)
theorem valB_ok {f : Str} {i : Int} (h : valB K f i = true) : ∃ u, ClX.CVal K (ga K "Box") (.type "type") f (.int i) u := by
  unfold valB at h
  split at h
  · rename_i j t e
    exact ⟨_, e, t, by rw [of_decide_eq_true h]⟩
  · cases h
theorem tup0B_ok {a : Addr} (h : tup0B K a = true) (H : Hp) : SqT K H a [] := by
  unfold tup0B at h
  split at h
  · rename_i c od its n sl e
    obtain ⟨h1, h2⟩ := ba h
    have h3 := List.isEmpty_iff.mp h2
    refine .inr ⟨_, its, n, e, ?_, rfl, ?_, ?_⟩
    · rw [of_decide_eq_true h1]
    · rw [← Array.length_toList, h3]
      exact Nat.zero_le _
    · rw [h3]
      exact .nil
  · cases h
theorem cread_box {C : Addr} (h : PySem.W.readsIn K C (.type "type") = true) : ClX.CRead K C (.type "type") := by
  refine ⟨h, ?_⟩
  unfold PySem.W.readsIn at h
  obtain ⟨h, _⟩ := ba h
  obtain ⟨h, _⟩ := ba h
  obtain ⟨h, h3⟩ := ba h
  obtain ⟨_, h2⟩ := ba h
  unfold PySem.W.specialIn
  rw [beq_iff_eq.mp h2, Option.bind_some]
  exact beq_iff_eq.mp h3
theorem boxC_of (X : K.In h) (G : h.Ns mainGlobals mg) (x : XF K) (c : SaysD faK fnK K) (st : fnAt K (sgK K) = dStep.val) (T : BI mg) (cs : Co P w K mg base CX0 2 "is_state" ["states", "value"] (spS K stateD)) (cn : Co P w K mg base CX0 1 "is_name" ["value"] (Vx.spP K nameD)) : BoxC P w K mg base (ga K "Box") := by
  obtain ⟨b1, b⟩ := ba x.bx
  obtain ⟨b2, b⟩ := ba b
  obtain ⟨b3, b⟩ := ba b
  obtain ⟨b4, b⟩ := ba b
  obtain ⟨b5, b6⟩ := ba b
  obtain ⟨fd, F⟩ := funD_at (d := dStep) st b3
  obtain ⟨w1, w2⟩ := He5.wrapB_ok b2
  have F2 : Fun K "is_step" "Box.is_step" s_Box_is_step (sgK K) fd := funD_fun F
  exact ⟨glo_ok X G (c.fact 56 (f := .glo "Box") rfl), ⟨.type "type", _, sgK K, fd, cread_box b1, ⟨w1, w2, (ba b3).1⟩, ok_is_step F2 T cs cn, F2.binds (ps := ["states", "value"]) (fun _ _ _ _ _ _ us hl => match us, hl with | [_, _], _ => rfl), valB_ok b4, valB_ok b5⟩,
    cls_ok (c.fact 57 (f := .cls "Box") rfl), noat_ok (c.fact 58 (f := .noat "Box" "_states") rfl), noat_ok (c.fact 59 (f := .noat "Box" "_starts") rfl), noat_ok (c.fact 60 (f := .noat "Box" "_steps") rfl)⟩
theorem mkB_of (X : K.In h) (G : h.Ns mainGlobals mg) (x : XF K) (c : SaysD faK fnK K) (T : BI mg) (CB : BoxC P w K mg base (ga K "Box"))
    (p2 : Co P w K mg base (L2.CX P w) 5 "check_parts" ["states", "starts", "steps"] (spParts K)) (p3 : Co P w K mg base CX0 1 "check_limits" ["states", "steps"] (spLimits K)) : MkB P w K mg base := by
  obtain ⟨_, b⟩ := ba x.bx
  obtain ⟨_, b⟩ := ba b
  obtain ⟨_, b⟩ := ba b
  obtain ⟨_, b⟩ := ba b
  obtain ⟨_, b6⟩ := ba b
  obtain ⟨fd, F⟩ := c.def_ 37 (d := dBox) rfl
  have I := fn_pure (ok_init F T CB p2 p3) (sp' := spI K fInit) fun vs H Q E h => h
  obtain ⟨oc, od, dV, kV, doc, pm, an, cdv, ct, osl, ef, lk, hcd, hD, _⟩ := F.ex
  rcases hD with ⟨e, _⟩ | ⟨_, T0, o, its, m, rfl, lT, oT, rT⟩
  · cases e
  · match its, rT with
    | [d0], rT =>
      have key : ∀ (args : Args) (bs : List (Str × Value)), (∃ k, bindArgs (PySem.W.fnOf "__init__" "Box.__init__" (defArgs s_Box___init__) (defBody s_Box___init__) (defScope s_Box___init__) (.ref T0) kV doc pm an cdv ct) args = seqItems? (.ref T0) >>= k ∧ k (some [d0].toArray) = pure bs) →
          ∀ s : Shared, K.In s.heap → BindsTo s (PySem.W.fnOf "__init__" "Box.__init__" (defArgs s_Box___init__) (defBody s_Box___init__) (defScope s_Box___init__) (.ref T0) kV doc pm an cdv ct) args bs := fun args bs h s X => by
        obtain ⟨k, e1, e2⟩ := h
        refine BindsTo.of_looks fun M => ?_
        rw [e1]
        exact looks_items X lT oT (.of_pure e2)
      refine ⟨glo_ok X G (c.fact 56 (f := .glo "Box") rfl), _, fd, e0K K, d0, mkr_ok (c.fact 61 (f := .mkr "Box") rfl), I, fun s us X hl => ?_, rT, fun s us X hl => ?_, tup0B_ok b6 _⟩
      · rw [ef]
        have hl : us.length = 4 := by
          rw [List.append_nil] at hl
          exact hl
        match us, hl with
        | [a, b, c, d], _ => exact key _ _ ⟨_, rfl, rfl⟩ s X
      · rw [ef]
        have hl : us.length = 3 := by
          rw [List.length_append] at hl
          exact Nat.succ.inj hl
        match us, hl with
        | [a, b, c], _ => exact key _ _ ⟨_, rfl, rfl⟩ s X
theorem raw_of {f : Addr} {fd : FuncData} {k : Nat} {ps : List Str} {sp : Sp} (F : FnOk P w K mg base CX0 k f fd ps sp) (b : Binds K fd ps []) : FnR P w K mg base CX0 k f sp := (F.raw b .nil).imp fun vs H Q E h => by
  rw [List.append_nil]
  exact h
/-- a method by its def: by place, by the second parameter's name -/
theorem mo_of {m qn : Str} {st : Stmt} {f : Addr} {fd : FuncData} {k : Nat} {ps : List Str} {sp : Sp} (F : Fun K m qn st f fd) (M : Meth K (ga K "Box") m f) (I : FnOk P w K mg base CX0 k f fd ps sp) (b : Binds K fd ps [])
    (kw : ∀ (a b : Str), ps = [a, b] → ∀ (kV doc pm : Value) (an : Option Addr) (cdv ct u v : Value), bindArgs (PySem.W.fnOf m qn (defArgs st) (defBody st) (defScope st) .none kV doc pm an cdv ct) ⟨[u], [(b, v)]⟩ = pure (ps.zip [u, v])) : Mo P w K mg base k m ps sp := by
  refine ⟨f, fd, M, I, b, fun a b e s u v => ?_⟩
  obtain ⟨oc, od, kV, doc, pm, an, cdv, ct, osl, ef, lk, hcd⟩ := F.ex
  rw [ef]
  exact BindsTo.of_looks fun M => .of_pure (kw a b e kV doc pm an cdv ct u v)
theorem po_of {m : Str} {d : DefD} {k : Nat} {sp : Sp} (x : propB K m d = true) (e : fnAt K (pgK K m) = d.val) (I : ∀ fd, FunD K d.name d.qual d.params d.body d.scope (d.dvs K) (d.kws K) (pgK K m) fd → FnOk P w K mg base CX0 k (pgK K m) fd ["self"] sp ∧ Binds K fd ["self"] []) : Po P w K mg base k m sp := by
  obtain ⟨h1, x⟩ := ba x
  obtain ⟨h2, x⟩ := ba x
  obtain ⟨h3, x⟩ := ba x
  obtain ⟨h4, h5⟩ := ba x
  obtain ⟨fd, F⟩ := funD_at e h5
  obtain ⟨i1, i2⟩ := I fd F
  refine ⟨ma K (ga K "Box") m, pgK K m, fd, ⟨eqO_ok h1, eqO_ok h2, of_decide_eq_true h3, ?_⟩, i1, i2⟩
  unfold pgK He5.wf
  split at h4
  · rename_i f rest e
    exact ⟨rest, by rw [e]⟩
  · cases h4
theorem bx_of (X : K.In base) (G : base.Ns mainGlobals mg) (x : XF K) (c : SaysD faK fnK K) (pr : ∀ p ∈ prD, fnAt K (pgK K p.1) = p.2.val) (T : BI mg) (CB : BoxC P w K mg base (ga K "Box")) (MB : MkB P w K mg base)
    (st : Co P w K mg base CX0 2 "is_state" ["states", "value"] (spD K fState)) (li : Co P w K mg base CX0 1 "is_list" ["value"] (spD K fList)) (fw : Co P w K mg base CX0 1 "first_wrong" ["values", "right"] (spD K fFW)) (cstarts : Co P w K mg base CX0 3 "check_starts" ["states", "starts"] (spD K fCStarts)) : Bx P w K mg base := by
  have cl : Cls K (ga K "Box") := cls_ok (c.fact 57 (f := .cls "Box") rfl)
  have cstate := co_check_state (at_check_state X G c) st
  have order := co_order (at_is_order X G c) T li st fw
  have ends := co_ends_of (P := P) (w := w) (base := base) (at_ends_of X G c) T
  have reached := co_reached (P := P) (w := w) (base := base) (at_reached X G c) T
  have made := co_made_box (at_made_box X G c) T CB MB
  have m_starts : Mo P w K mg base 1 "starts" ["self"] (spL K fStarts) := by
    obtain ⟨fd, FD⟩ := c.def_ 38 (d := dB "starts" "Box.starts" s_Box_starts) rfl
    have F : Fun K "starts" "Box.starts" s_Box_starts (ma K (ga K "Box") "starts") fd := funD_fun FD
    have M : Meth K (ga K "Box") "starts" (ma K (ga K "Box") "starts") := meth_ok (c.fact 62 (f := .meth "Box" "starts") rfl)
    exact mo_of F M (ok_starts F T CB) (F.binds (ps := ["self"]) (fun _ _ _ _ _ _ us hl => match us, hl with | [_], _ => rfl)) (fun a b e => by cases e)
  have m_steps : Mo P w K mg base 1 "steps" ["self"] (spL K fSteps) := by
    obtain ⟨fd, FD⟩ := c.def_ 39 (d := dB "steps" "Box.steps" s_Box_steps) rfl
    have F : Fun K "steps" "Box.steps" s_Box_steps (ma K (ga K "Box") "steps") fd := funD_fun FD
    have M : Meth K (ga K "Box") "steps" (ma K (ga K "Box") "steps") := meth_ok (c.fact 63 (f := .meth "Box" "steps") rfl)
    exact mo_of F M (ok_steps F T CB) (F.binds (ps := ["self"]) (fun _ _ _ _ _ _ us hl => match us, hl with | [_], _ => rfl)) (fun a b e => by cases e)
  have m_signs : Mo P w K mg base 1 "signs" ["self"] (spL K fSigns) := by
    obtain ⟨fd, FD⟩ := c.def_ 40 (d := dB "signs" "Box.signs" s_Box_signs) rfl
    have F : Fun K "signs" "Box.signs" s_Box_signs (ma K (ga K "Box") "signs") fd := funD_fun FD
    have M : Meth K (ga K "Box") "signs" (ma K (ga K "Box") "signs") := meth_ok (c.fact 64 (f := .meth "Box" "signs") rfl)
    exact mo_of F M (ok_signs F T CB) (F.binds (ps := ["self"]) (fun _ _ _ _ _ _ us hl => match us, hl with | [_], _ => rfl)) (fun a b e => by cases e)
  have m_reachable : Mo P w K mg base 2 "reachable" ["self"] (spL K fReach) := by
    obtain ⟨fd, FD⟩ := c.def_ 41 (d := dB "reachable" "Box.reachable" s_Box_reachable) rfl
    have F : Fun K "reachable" "Box.reachable" s_Box_reachable (ma K (ga K "Box") "reachable") fd := funD_fun FD
    have M : Meth K (ga K "Box") "reachable" (ma K (ga K "Box") "reachable") := meth_ok (c.fact 65 (f := .meth "Box" "reachable") rfl)
    exact mo_of F M (ok_reachable F T CB ends reached) (F.binds (ps := ["self"]) (fun _ _ _ _ _ _ us hl => match us, hl with | [_], _ => rfl)) (fun a b e => by cases e)
  have m_steps_from : Mo P w K mg base 4 "steps_from" ["self", "state"] (spL K fFrom) := by
    obtain ⟨fd, FD⟩ := c.def_ 42 (d := dB "steps_from" "Box.steps_from" s_Box_steps_from) rfl
    have F : Fun K "steps_from" "Box.steps_from" s_Box_steps_from (ma K (ga K "Box") "steps_from") fd := funD_fun FD
    have M : Meth K (ga K "Box") "steps_from" (ma K (ga K "Box") "steps_from") := meth_ok (c.fact 66 (f := .meth "Box" "steps_from") rfl)
    exact mo_of F M (ok_from F T CB cstate) (F.binds (ps := ["self", "state"]) (fun _ _ _ _ _ _ us hl => match us, hl with | [_, _], _ => rfl)) (fun a b e kV doc pm an cdv ct u v => by cases e; rfl)
  have m_steps_to : Mo P w K mg base 4 "steps_to" ["self", "state"] (spL K fTo) := by
    obtain ⟨fd, FD⟩ := c.def_ 43 (d := dB "steps_to" "Box.steps_to" s_Box_steps_to) rfl
    have F : Fun K "steps_to" "Box.steps_to" s_Box_steps_to (ma K (ga K "Box") "steps_to") fd := funD_fun FD
    have M : Meth K (ga K "Box") "steps_to" (ma K (ga K "Box") "steps_to") := meth_ok (c.fact 67 (f := .meth "Box" "steps_to") rfl)
    exact mo_of F M (ok_to F T CB cstate) (F.binds (ps := ["self", "state"]) (fun _ _ _ _ _ _ us hl => match us, hl with | [_, _], _ => rfl)) (fun a b e kV doc pm an cdv ct u v => by cases e; rfl)
  have m_with_starts : Mo P w K mg base 9 "with_starts" ["self", "starts"] (spB K fWith) := by
    obtain ⟨fd, FD⟩ := c.def_ 44 (d := dB "with_starts" "Box.with_starts" s_Box_with_starts) rfl
    have F : Fun K "with_starts" "Box.with_starts" s_Box_with_starts (ma K (ga K "Box") "with_starts") fd := funD_fun FD
    have M : Meth K (ga K "Box") "with_starts" (ma K (ga K "Box") "with_starts") := meth_ok (c.fact 68 (f := .meth "Box" "with_starts") rfl)
    exact mo_of F M (ok_with F T CB cstarts made) (F.binds (ps := ["self", "starts"]) (fun _ _ _ _ _ _ us hl => match us, hl with | [_, _], _ => rfl)) (fun a b e kV doc pm an cdv ct u v => by cases e; rfl)
  have renum := co_renumbered (at_renumbered X G c) T cl m_starts m_steps made
  have m_numbered : Mo P w K mg base 10 "numbered" ["self", "order"] (spB K fNumb) := by
    obtain ⟨fd, FD⟩ := c.def_ 45 (d := dB "numbered" "Box.numbered" s_Box_numbered) rfl
    have F : Fun K "numbered" "Box.numbered" s_Box_numbered (ma K (ga K "Box") "numbered") fd := funD_fun FD
    have M : Meth K (ga K "Box") "numbered" (ma K (ga K "Box") "numbered") := meth_ok (c.fact 69 (f := .meth "Box" "numbered") rfl)
    exact mo_of F M (ok_numbered F T CB order renum) (F.binds (ps := ["self", "order"]) (fun _ _ _ _ _ _ us hl => match us, hl with | [_, _], _ => rfl)) (fun a b e kV doc pm an cdv ct u v => by cases e; rfl)
  have m_turned : Mo P w K mg base 9 "turned" ["self"] (spB K fTurned) := by
    obtain ⟨fd, FD⟩ := c.def_ 46 (d := dB "turned" "Box.turned" s_Box_turned) rfl
    have F : Fun K "turned" "Box.turned" s_Box_turned (ma K (ga K "Box") "turned") fd := funD_fun FD
    have M : Meth K (ga K "Box") "turned" (ma K (ga K "Box") "turned") := meth_ok (c.fact 70 (f := .meth "Box" "turned") rfl)
    exact mo_of F M (ok_turned F T CB made) (F.binds (ps := ["self"]) (fun _ _ _ _ _ _ us hl => match us, hl with | [_], _ => rfl)) (fun a b e => by cases e)
  have p_states : Po P w K mg base 1 "states" (spD K fStates) := po_of (d := dB "states" "Box.states" s_Box_states) (x.pr ("states", _) (List.mem_of_getElem? (i := 0) rfl)) (pr ("states", _) (List.mem_of_getElem? (i := 0) rfl)) fun fd FD => by
    have F : Fun K "states" "Box.states" s_Box_states (pgK K "states") fd := funD_fun FD
    exact ⟨ok_states F CB, F.binds (ps := ["self"]) (fun _ _ _ _ _ _ us hl => match us, hl with | [_], _ => rfl)⟩
  have p_is_sure : Po P w K mg base 1 "is_sure" (spD K fSure) := po_of (d := dB "is_sure" "Box.is_sure" s_Box_is_sure) (x.pr ("is_sure", _) (List.mem_of_getElem? (i := 1) rfl)) (pr ("is_sure", _) (List.mem_of_getElem? (i := 1) rfl)) fun fd FD => by
    have F : Fun K "is_sure" "Box.is_sure" s_Box_is_sure (pgK K "is_sure") fd := funD_fun FD
    exact ⟨ok_sure F T CB, F.binds (ps := ["self"]) (fun _ _ _ _ _ _ us hl => match us, hl with | [_], _ => rfl)⟩
  obtain ⟨o1, o⟩ := ba x.ow
  obtain ⟨o2, o⟩ := ba o
  obtain ⟨o3, o⟩ := ba o
  obtain ⟨o4, o⟩ := ba o
  obtain ⟨o5, o⟩ := ba o
  obtain ⟨o6, o7⟩ := ba o
  have bi : BoxI K := ⟨⟨eqO_ok o1, eqO_ok o2, of_decide_eq_true o3, of_decide_eq_true o4⟩, of_decide_eq_true o5⟩
  have di : ∃ g, PySem.W.findIn K (.ref (ga K "Box")) "__getitem__" = some (some (.ref g)) ∧ PySem.W.fnIn K g = true ∧ PySem.W.isFn K (.ref g) = true ∧ FnR P w K mg base CX0 4 g (spD K fItem) := by
    obtain ⟨fd, FD⟩ := c.def_ 47 (d := dB "__getitem__" "Box.__getitem__" s_Box___getitem__) rfl
    have F : Fun K "__getitem__" "Box.__getitem__" s_Box___getitem__ (ma K (ga K "Box") "__getitem__") fd := funD_fun FD
    have M : Meth K (ga K "Box") "__getitem__" (ma K (ga K "Box") "__getitem__") := meth_ok (c.fact 71 (f := .meth "Box" "__getitem__") rfl)
    exact ⟨_, M.at_, o7, M.fn, raw_of (ok_item F T CB cstate) (F.binds (ps := ["self", "at"]) (fun _ _ _ _ _ _ us hl => match us, hl with | [_, _], _ => rfl))⟩
  have dq : ∃ g, PySem.W.findIn K (.ref (ga K "Box")) "__eq__" = some (some (.ref g)) ∧ PySem.W.isFn K (.ref g) = true ∧ FnR P w K mg base CX0 1 g (spD K fEq) := by
    obtain ⟨fd, FD⟩ := c.def_ 49 (d := dB "__eq__" "Box.__eq__" s_Box___eq__) rfl
    have F : Fun K "__eq__" "Box.__eq__" s_Box___eq__ (ma K (ga K "Box") "__eq__") fd := funD_fun FD
    have M : Meth K (ga K "Box") "__eq__" (ma K (ga K "Box") "__eq__") := meth_ok (c.fact 73 (f := .meth "Box" "__eq__") rfl)
    exact ⟨_, M.at_, M.fn, raw_of (ok_eq F T CB bi) (F.binds (ps := ["self", "other"]) (fun _ _ _ _ _ _ us hl => match us, hl with | [_, _], _ => rfl))⟩
  have dl : ∃ g, PySem.W.findIn K (.ref (ga K "Box")) "__len__" = some (some (.ref g)) ∧ PySem.W.isFn K (.ref g) = true ∧ FnR P w K mg base CX0 1 g (spD K fLen) := by
    obtain ⟨fd, FD⟩ := c.def_ 48 (d := dB "__len__" "Box.__len__" s_Box___len__) rfl
    have F : Fun K "__len__" "Box.__len__" s_Box___len__ (ma K (ga K "Box") "__len__") fd := funD_fun FD
    have M : Meth K (ga K "Box") "__len__" (ma K (ga K "Box") "__len__") := meth_ok (c.fact 72 (f := .meth "Box" "__len__") rfl)
    exact ⟨_, M.at_, M.fn, raw_of (ok_len F T CB) (F.binds (ps := ["self"]) (fun _ _ _ _ _ _ us hl => match us, hl with | [_], _ => rfl))⟩
  exact ⟨cl, CB, MB, p_states, p_is_sure, m_starts, m_steps, m_signs, m_reachable, m_steps_from, m_steps_to, m_with_starts, m_numbered, m_turned, di, dq, ⟨of_decide_eq_true o4, eqO_ok o6⟩, dl⟩
theorem law_fn (X : K.In base) (G : base.Ns mainGlobals mg) (x : XF K) (c : SaysD faK fnK K) (st : fnAt K (sgK K) = dStep.val) (pr : ∀ p ∈ prD, fnAt K (pgK K p.1) = p.2.val) {fd : FuncData} (F : Fun K "law" "law" s_law (ga K "law") fd) : FnG P w K mg base CX0 13 (ga K "law") fd ["_law_script"] (spLaw K) := by
  have T := bi_K X G c
  have ES : ErrSet P w K mg base := es_of X G x c
  have p1 := co_is_integer (P := P) (w := w) (base := base) (at_is_integer X G c) T
  have p2 := co_is_list (P := P) (w := w) (base := base) (at_is_list X G c) T
  have p3 := co_is_name (P := P) (w := w) (base := base) (at_is_name X G c) T
  have p4 := co_is_state (at_is_state X G c) p1
  have p5 := co_first_wrong (P := P) (w := w) (base := base) (at_first_wrong X G c) T
  have CB := boxC_of X G x c st T p4 p3
  have p6 := co_check_starts (at_check_starts X G c) T ES p2 p4 p5
  have p7 := co_check_steps (at_check_steps X G c) T ES CB p2 p5
  have p8 := co_check_parts (at_check_parts X G c) T ES p1 p6 p7
  have p9 := co_check_limits (at_check_limits X G c) T CB
  have MB := mkB_of X G x c T CB p8 p9
  have B := bx_of X G x c pr T CB MB (co_state p4) (co_list p2) (co_fw p5) (co_starts p6)
  have draw := cd_draw (P := P) (w := w) (base := base) (at__law_draw X G c) T
  have pick := cd_pick (at__law_pick X G c) T draw
  have pot := cd_pot (P := P) (w := w) (base := base) (at__law_pot X G c) T
  have mixed := cd_mixed2 (cd_mixed (at__law_mixed X G c) T draw)
  have draw2 := cd_draw2 draw
  have menu := cd_menu2 (at__law_menu X G c) T draw2
  have deal := cd_deal (at__law_deal X G c) T draw2 (cd_pick2 pick) menu
  have made := cd_made (at__law_made X G c) T B
  have shown := cd_shown (at__law_shown X G c) T B
  have is := cd_is (at__law_is X G c) T B made shown
  have num := cd_lnum (P := P) (w := w) (base := base) (at__law_numbered X G c) T
  have trn := cd_lturn (P := P) (w := w) (base := base) (at__law_turned X G c) T
  have ords := cd_orders (at__law_orders_right X G c) T B num is
  have turns := cd_turns (at__law_turns_right X G c) T B trn is
  have right := cd_right (at__law_right X G c) T B deal made shown mixed ords turns
  exact fn_law F T right pot
theorem facts (s : SaysK h K) : ∃ fd : FuncData, (∀ (s : Shared) (v : Value), BindsTo s fd ⟨[v], []⟩ [("_law_script", v)]) ∧
    ∀ base : Heap, K.In base → base.Ns mainGlobals mg → FnG P w K mg base CX0 13 (ga K "law") fd ["_law_script"] (spLaw K) := by
  obtain ⟨fd, F⟩ := s.d.def_ 29 (d := dD "law" s_law) rfl
  have b := FunD.bindsA (ps := ["_law_script"]) F fun _ _ _ _ _ _ us hl => match us, hl with | [_], _ => rfl
  exact ⟨fd, fun s v => b s [v] rfl, fun base hB gB => law_fn hB gB (xf_of s.xb) s.d s.st s.pr (funD_fun F)⟩
end
end K16
/-! ## KFIN16 -/
set_option Elab.async false
set_option linter.all false
set_option maxRecDepth 100000
set_option maxHeartbeats 0
open PySem PySem.W PySem.Calls PyProof.Rows
theorem PySem.Challenge.cw_aheadbehind_k16_whole_boxes_numbered_and_holds : PySem.Challenge.rw_aheadbehind_k16_whole_boxes_numbered_and.Holds := by
  w_on; o_law
  refine HandSHeadRun.head_any (r := K16.R) (q := K16.qv) (H := K16.hk) (ob := K16.ob) (M := 20000) (loose := K16.names) (d := HandSHeadRun.topDef K16.R.prog 45) (kwd := []) K16.ob_eq
    (by kernel_rfl) (fun s => by kernel_rfl) K16.run (by kernel_rfl) (by kernel_rfl) (by kernel_rfl) (by rfl) (by first | assumption | decide +kernel) (by decide +kernel) ⟨rfl, rfl, rfl, rfl, rfl, by decide +kernel⟩ ?hw ?hc
  case hw => w_witness2
  case hc =>
    refine Vx.walkG (l := PySem.Challenge.rw_aheadbehind_k16_whole_boxes_numbered_and) (n := 63) (k := 13) (x := "_law_script") rfl (by decide) (by kernel_rfl) ⟨rfl, by decide, by decide⟩ ?F
    intro w mg fa h Y G hmg0
    obtain ⟨K, KX, s⟩ := Y
    have hmg : mg ("law" : PySem.Str) = some (.ref fa) := by
      have e : (HandSHeadRun.topDef K16.R.prog 45).name = ("law" : PySem.Str) := by kernel_rfl
      rw [← e]
      exact hmg0
    cases hmg.symm.trans (He.glo_ok KX G (s.d.fact 55 (f := .glo "law") rfl))
    obtain ⟨fd, hb, hF⟩ := K16.facts (P := (PySem.Challenge.rw_aheadbehind_k16_whole_boxes_numbered_and).prog) (w := w) (mg := mg) s
    exact ⟨K, fd, K16.spLaw K, KX, hb, fun H a zs hl hS => ⟨a, zs, rfl, hS, Nat.le_trans hl (by decide), fun _ => rfl⟩, hF⟩
