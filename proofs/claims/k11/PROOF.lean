import PyProof.Rows.All
import Wide.All
import OpenK.AllK
import Wide.FinOn
import PySem.Challenge.RW_aheadbehind_k11_boxes_refused
import HandS.ForMost
import HandS.RaiseMore
import HandS.Exc
import HandS.ExcInit
import HandS.ExcIs
import HandS.ExcField
import HandS.IsInst
import KE.KExcInit
import HandS.ExcValue
import HandS.Defaults
import HandS.Evl
import HandS.HeadHook1
import HandS.HeadHook2
import HandS.Head0
import HandS.Head1
import HandS.Head2
import HandS.HeadEnd
import HandS.WideBits
import HandS.Wide
import HandS.StrMore
import HandS.Style
import HandS.Walk
import HandS.TupLe
import KE.KDictDisplayH
import HandS.Dict
import PyProof.StrOps2
import PyProof.Rows.ReprOcc
import KE.KxText
import HandS.Text
import PyProof.ReprLen
import HandS.Ends
import HandS.ClsMeth
import HandS.WordsExc
import HandS.MakeKwOnly
import HandS.TryMany
import KE.SortData
import KE.GoesMore
import HandS.Iter
import HandS.HeadHook4
import HandS.HeadNt
import KE.KNestM
import PyProof.TupleOfSeq
import PyProof.Transfer
import HandS.Lambda
import HandS.EndTab
import HandS.SetFor
import HandS.Strs
import HandS.Deep
import HandS.Conv
import KE.KStateDown
/-! ## G0 -/
set_option Elab.async false
set_option linter.all false
set_option maxRecDepth 100000
set_option maxHeartbeats 4000000
namespace Vx
open PySem PySem.Spec PyProof.Rows L2

/-- no repr is open around -/
abbrev Gd (A : Around) : Prop := A.guards = some []

/-- a def's promise, kept wherever no repr is open around -/
structure FnG (P : Program) (w : World) (K : PySem.W.Frag) (mg : Str → Option Value)
    (base : Heap) (CX : CXT) (k : Nat) (f : Addr) (fd : FuncData) (ps : List Str) (sp : Sp) : Prop where
  ln : ∀ vs H Q E, sp vs H Q E → vs.length = ps.length
  go : ∀ (A : Around) (outer : List Env) (s : Shared) (H : Hp) (args : Args)
    (us : List Value) (vs : List V) (Q : VK) (E : XK), Room k A → Gd A →
    Env0 P w K mg base A outer s H → BindsTo s fd args (ps.zip us) → Vals vs us → sp vs H Q E →
    codeAny (model P w) A (.call (.ref f) args) (CR CX outer P w H s Q E) s

section
variable {P : Program} {w : World} {K : PySem.W.Frag} {mg : Str → Option Value}
  {base : Heap} {CX : CXT} {k : Nat} {f : Addr} {fd : FuncData} {ps : List Str} {sp : Sp}
theorem FnG.of (F : FnOk P w K mg base CX k f fd ps sp) : FnG P w K mg base CX k f fd ps sp :=
  ⟨F.len, fun A o s H a us vs Q E r _ => F.run A o s H a us vs Q E r⟩
theorem FnG.up {j : Nat} (F : FnG P w K mg base CX j f fd ps sp) (h : j ≤ k) : FnG P w K mg base CX k f fd ps sp :=
  ⟨F.ln, fun A o s H a us vs Q E r => F.go A o s H a us vs Q E (r.mono h)⟩

/-- a def by its body, where no repr is open -/
theorem okG {x qual : Str} {st : Stmt} {N : List Str} (F : Fun K x qual st f fd) (S : FnScope N ps (defScope st))
    (len : ∀ vs H Q E, sp vs H Q E → vs.length = ps.length)
    (hbody : ∀ (cdv : Value) (A : Around) (outer : List Env) (s : Shared) (H : Hp) (vs : List V) (Q : VK) (E : XK),
      Room k (A.deeper (envOfC qual (defScope st) s.heap.objs.size f cdv)) →
      Gd (A.deeper (envOfC qual (defScope st) s.heap.objs.size f cdv)) → sp vs H Q E →
      ∃ t, PSs (cxOf CX P w K mg base N qual (defScope st) f cdv A outer s H E) (defBody st) t ∧
        t { nx := fun _ H' => Q .non H', rt := Q } (start N vs) H) :
    FnG P w K mg base CX (k + 1) f fd ps sp := by
  obtain ⟨oc, od, kV, doc, pm, an, cdv, ct, osl, rfl, lk, hcd⟩ := F.ex
  refine ⟨len, fun A outer s H args us vs Q E hr hG e0 hb r hsp => ?_⟩
  have hL := len vs H Q E hsp
  have kx : K.In s.heap := e0.mod.kin.keeps (fun b o z => (e0.bs b o z).1)
  have nl : s.heap.NoLimit := e0.mod.nolimit.keeps (fun b o z => (e0.bs b o z).1)
  have hk2 : ∀ y ∈ ps.zip us, (defScope st).names.lookup y.1 = some .local ∨
      ((defScope st).names.lookup y.1 = some .cell ∧
        ((cellsFrom (s.heap.objs.size + 1) (defScope st).names []).lookup y.1).isSome = true) := by
    rintro ⟨n, v⟩ hy
    rcases S.par n (List.of_mem_zip hy).1 with z | z
    · exact Or.inl z
    · exact Or.inr ⟨z, PySem.W.cellsFrom_some _ _ _ (Or.inl z)⟩
  refine codeAny_call_function hr.depth (kx _ _ lk) rfl S.co S.gen rfl
    (PySem.W.codeRec_of kx hcd) (hb _ _ _ _ ?_)
  refine wpAny_newFunctionEnv_cells S.kind hk2 (fun env he s1 x1 => ?_)
  subst he
  refine ⟨nl.keeps x1.toInCall.keep, codeAny_func ?_⟩
  obtain ⟨t, ht, hq⟩ := hbody cdv A outer s H vs Q E (hr.deeper _) hG hsp
  have J0 : Inv (cxOf CX P w K mg base N qual (defScope st) f cdv A outer s H E) [] (start N vs) H s1 :=
    inv_start S hr.hd e0 hL r x1
  refine wpAny_mono (ht.run [] s1 (start N vs) H _ J0 hq) (fun fl s2 z => ?_) (fun e s2 z => z)
  cases fl with
  | ret u =>
    obtain ⟨v, σ1, H1, J, rv, q⟩ := z
    exact ⟨v, H1, J.os, J.bare, J.base, J.hok, rv, q⟩
  | next =>
    obtain ⟨σ1, H1, J, q⟩ := z
    exact ⟨V.non, H1, J.os, J.bare, J.base, J.hok, rfl, q⟩
  | brk =>
    obtain ⟨_, _, _, q⟩ := z
    exact q.elim
  | cont =>
    obtain ⟨_, _, _, q⟩ := z
    exact q.elim
end

section
variable {X : Cx} {CX : CXT} {k : Nat} {f : Addr} {fd : FuncData} {ps : List Str} {sp : Sp} {dvs : List V}
  {ds : List Value} {E : XK} {x : Str} {p pos : Pos} {e : Expr} {es : List Expr} {t : TA}
theorem goG {pins : List (Addr × Obj)} {σ : L2.St} {H : Hp} {s : Shared} {Q : VK} {us : List Value} {vs : List V}
    (F : FnG X.prog X.w X.K X.mg X.base CX k f fd ps sp) (hr : Room k X.A) (hG : Gd X.A)
    (hb : Binds X.K fd ps ds) (hd : Vals dvs ds) (hx : Passes CX X E) (I : Inv X pins σ H s)
    (r : Vals vs us) (h : sp (vs ++ dvs) H Q E) :
    wpAny (model X.prog X.w) X.A (call (.ref f) us) (EP X pins σ Q) X.xe s := by
  have r3 := r.append hd
  have hL : (us ++ ds).length = ps.length := r3.length.symm.trans (F.ln _ _ _ _ h)
  refine wpAny_call (codeAny_mono (F.go X.A X.stack s H ⟨us, []⟩ (us ++ ds) (vs ++ dvs) Q E hr hG I.env0
    (hb s us I.kIn hL) r3 h) (fun r s' z => ?_))
  cases r with
  | error er => exact hx pins σ H s er s' I z
  | ok fl =>
    cases fl with
    | ret u => exact I.after z
    | next => exact z.elim
    | brk => exact z.elim
    | cont => exact z.elim
/-- f(e, ..) -/
theorem pe_callG (F : FnG X.prog X.w X.K X.mg X.base CX k f fd ps sp) (hr : Room k X.A) (hG : Gd X.A)
    (hg : Gl X x) (hm : X.mg x = some (.ref f)) (hk : PySem.W.keepIn X.K (.ref f) = true)
    (hb : Binds X.K fd ps ds) (hd : Vals dvs ds) (hx : Passes CX X E) (ha : PA X (e :: es) t)
    (hdb : (x == ("__debug__" : Str)) = false := by decide)
    (he : starEach (e :: es) X.env = (false, eval e X.env) :: starEach es X.env := by rfl)
    (hpl : (backTo pos (starEach es X.env)).any (·.1) = false := by rfl) :
    PE X (.Call (.Name x p) (e :: es) [] pos) (tCall sp dvs E t) := by
  refine ⟨fun pins s σ H Q I h => wpAny_Call_Name_kw (ld_glob I hg hm ?_ hdb)⟩
  exact PySem.W.callWith_K (h₀ := X.base) I.ok.mod.kin hk
    (thn (ha.run pos pins s σ H _ I h) fun us s1 ⟨vs, H1, I1, r, q⟩ =>
      ⟨I1.kIn, goG F hr hG hb hd hx I1 r q⟩) he hpl
end

/-- repr of data: None, bools, ints, texts, lists, tuples, dicts -/
inductive Dd (K : PySem.W.Frag) (H : Hp) : V → PyData → Prop
  | d0 {v d} : Dp K H v d → Dd K H v d
end Vx
/-! ## G1 -/
set_option Elab.async false
set_option linter.all false
set_option maxRecDepth 100000
set_option maxHeartbeats 4000000
namespace Vx
open PySem PySem.Spec PyProof.Rows L2

def keyD : Key → PyData
  | .inl i => .int i
  | .inr x => .str x
def keyT (k : List Key) : PyData := .tuple (k.map keyD)

mutual
/-- v reads as the data d -/
inductive Da (K : PySem.W.Frag) (H : Hp) : V → PyData → Prop
  | non : Da K H .non .none
  | bl (b : Bool) : Da K H (.bl b) (.bool b)
  | int (i : Int) : Da K H (.int i) (.int i)
  | str (x : Str) : Da K H (.str x) (.str x)
  | lst {a : Addr} {xs : List V} {ds : List PyData} : SqL K H a xs → Das K H xs ds → Da K H (.ref a) (.list ds)
  | tup {a : Addr} {xs : List V} {ds : List PyData} : SqT K H a xs → Das K H xs ds → Da K H (.ref a) (.tuple ds)
  | dK {a : Addr} {kvs : List (Key × V)} {ds : List PyData} : H a = some (.dK kvs) →
      Das K H (kvs.map Prod.snd) ds → Da K H (.ref a) (.dict ((kvs.map fun p => keyD p.1).zip ds))
  | dT {a : Addr} {kvs : List (List Key × V)} {ds : List PyData} : H a = some (.dT kvs) →
      Das K H (kvs.map Prod.snd) ds → Da K H (.ref a) (.dict ((kvs.map fun p => keyT p.1).zip ds))
inductive Das (K : PySem.W.Frag) (H : Hp) : List V → List PyData → Prop
  | nil : Das K H [] []
  | cons {v : V} {vs : List V} {d : PyData} {ds : List PyData} : Da K H v d → Das K H vs ds → Das K H (v :: vs) (d :: ds)
end

section
variable {K : PySem.W.Frag} {H H' : Hp}
theorem Das.len : ∀ {vs : List V} {ds : List PyData}, Das K H vs ds → vs.length = ds.length
  | _, _, .nil => rfl
  | _, _, .cons _ h => by rw [List.length_cons, List.length_cons, Das.len h]
theorem Das.app : ∀ {vs ws : List V} {ds es : List PyData}, Das K H vs ds → Das K H ws es → Das K H (vs ++ ws) (ds ++ es)
  | _, _, _, _, .nil, h => h
  | _, _, _, _, .cons a b, h => .cons a (Das.app b h)
theorem Das.get : ∀ {vs : List V} {ds : List PyData} {i : Nat} {v : V}, Das K H vs ds → vs[i]? = some v → ∃ d, ds[i]? = some d ∧ Da K H v d
  | _, _, _, _, .nil, e => by simp at e
  | _, _, 0, _, .cons (d := d) a b, e => by
    simp at e
    subst e
    exact ⟨d, rfl, a⟩
  | _, _, i + 1, _, .cons a b, e => by
    obtain ⟨d, h1, h2⟩ := Das.get (i := i) b (by simpa using e)
    exact ⟨d, by simpa using h1, h2⟩
theorem Das.rep {v : V} {d : PyData} (h : Da K H v d) : ∀ n : Nat, Das K H (List.replicate n v) (List.replicate n d)
  | 0 => .nil
  | n + 1 => .cons h (Das.rep h n)
theorem Das.take : ∀ {vs : List V} {ds : List PyData} (n : Nat), Das K H vs ds → Das K H (vs.take n) (ds.take n)
  | _, _, 0, _ => .nil
  | _, _, _ + 1, .nil => .nil
  | _, _, n + 1, .cons a b => .cons a (Das.take n b)
theorem Das.drop : ∀ {vs : List V} {ds : List PyData} (n : Nat), Das K H vs ds → Das K H (vs.drop n) (ds.drop n)
  | _, _, 0, h => h
  | _, _, _ + 1, .nil => .nil
  | _, _, n + 1, .cons a b => Das.drop n b
theorem seqT {a : Addr} {xs : List V} (e : Same H H') (h : SqT K H a xs) : SqT K H' a xs := by
  rcases h with (h | ⟨o, h⟩) | h
  · exact .inl (.inl (e _ _ h))
  · exact .inl (.inr ⟨o, e _ _ h⟩)
  · exact .inr h
mutual
theorem Da.mono (e : Same H H') : ∀ {v : V} {d : PyData}, Da K H v d → Da K H' v d
  | _, _, .non => .non
  | _, _, .bl b => .bl b
  | _, _, .int i => .int i
  | _, _, .str x => .str x
  | _, _, .lst h g => .lst (e.seq h) (Das.mono e g)
  | _, _, .tup h g => .tup (seqT e h) (Das.mono e g)
  | _, _, .dK h g => .dK (e _ _ h) (Das.mono e g)
  | _, _, .dT h g => .dT (e _ _ h) (Das.mono e g)
theorem Das.mono (e : Same H H') : ∀ {vs : List V} {ds : List PyData}, Das K H vs ds → Das K H' vs ds
  | _, _, .nil => .nil
  | _, _, .cons a b => .cons (Da.mono e a) (Das.mono e b)
end
end

/-! ### reading in the machine's heap -/
section
variable {X : Cx} {pins : List (Addr × Obj)} {σ : L2.St} {H : Hp} {s : Shared}
theorem key_reads {h : Heap} : ∀ {k : Key} {v : Value}, keyIs k v = true → ∃ as, Reads h v (keyD k) as := by
  intro k v e
  rcases keyIs_shape e with ⟨i, t, rfl, rfl⟩ | ⟨x, t, rfl, rfl⟩
  · exact ⟨_, .int i t⟩
  · exact ⟨_, .str x t⟩
theorem kV_reads {h : Heap} : ∀ {ks : List Key} {us : List Value}, Vals (ks.map kV) us → ∃ as, ReadsAll h us (ks.map keyD) as
  | [], _, .nil => ⟨_, .nil⟩
  | .inl i :: ks, _, .cons r t => by
    obtain ⟨tk, rfl⟩ := r
    obtain ⟨as, q⟩ := kV_reads t
    exact ⟨_, .cons (.int i tk) q⟩
  | .inr x :: ks, _, .cons r t => by
    obtain ⟨tk, rfl⟩ := r
    obtain ⟨as, q⟩ := kV_reads t
    exact ⟨_, .cons (.str x tk) q⟩
/-- the entries of a dict with int and text keys -/
theorem pairs_keys {h : Heap} : ∀ {es : List DictEntry} {vs : List (Key × Value)}, Pairs (mixKind X.prog X.w) es vs →
    ∃ as, ReadsAll h (es.map (·.key)) (vs.map fun p => keyD p.1) as
  | _, _, .nil => ⟨_, .nil⟩
  | _, _, .cons hk _ r => by
    obtain ⟨as, q⟩ := key_reads (h := h) hk
    obtain ⟨bs, q2⟩ := pairs_keys r
    exact ⟨_, .cons q q2⟩
theorem pairs_vals : ∀ {es : List DictEntry} {vs : List (Key × Value)}, Pairs (mixKind X.prog X.w) es vs → es.map (·.val) = vs.map Prod.snd
  | _, _, .nil => rfl
  | _, _, .cons _ hv r => by rw [List.map_cons, List.map_cons, hv, pairs_vals r]
theorem kv_vals {κ : Type} : ∀ {kvs : List (κ × V)} {vs : List (κ × Value)}, KV kvs vs → Vals (kvs.map Prod.snd) (vs.map Prod.snd)
  | _, _, .nil => .nil
  | _, _, .cons r t => .cons r.2 (kv_vals t)
theorem kv_keys {κ : Type} : ∀ {kvs : List (κ × V)} {vs : List (κ × Value)}, KV kvs vs → kvs.map Prod.fst = vs.map Prod.fst
  | _, _, .nil => rfl
  | _, _, .cons r t => by rw [List.map_cons, List.map_cons, r.1, kv_keys t]
theorem dk_at (I : Inv X pins σ H s) {a : Addr} {kvs : List (Key × V)} (h : H a = some (.dK kvs)) :
    (a == sysModules) = false ∧ ∃ (o : Obj) (es : Array DictEntry) (n : Nat), s.heap.get? a = some o ∧ o.cls = .type "dict" ∧ o.data = .dict es n ∧
      (∃ as, ReadsAll s.heap (es.toList.map (·.key)) (kvs.map fun p => keyD p.1) as) ∧ Vals (kvs.map Prod.snd) (es.toList.map (·.val)) := by
  obtain ⟨_, hs, vs, kv, o, es, ep, ho, hx, hd, _, hp, _⟩ := (show ObjOk X.prog X.w H s.heap a (.dK kvs) from I.hok a _ h)
  refine ⟨hs, o, es, ep, ho, hx.1, hd, ?_, ?_⟩
  · obtain ⟨as, q⟩ := pairs_keys (X := X) (h := s.heap) hp
    refine ⟨as, ?_⟩
    have e : (kvs.map fun p => keyD p.1) = vs.map fun p => keyD p.1 := by
      have e1 := congrArg (List.map keyD) (kv_keys kv)
      rw [List.map_map, List.map_map] at e1
      exact e1
    rw [e]
    exact q
  · rw [pairs_vals hp]
    exact kv_vals kv
theorem dt_keys (I : Inv X pins σ H s) : ∀ {kvs : List (List Key × V)} {xs : List (List Key × Addr × Value)},
    Paired (fun (p : List Key × V) (q : List Key × Addr × Value) => p.1 = q.1 ∧ H q.2.1 = some (.tup (p.1.map kV)) ∧ RelV p.2 q.2.2) kvs xs →
    ∃ as, ReadsAll s.heap (xs.map fun x => Value.ref x.2.1) (kvs.map fun p => keyT p.1) as
  | _, _, .nil => ⟨_, .nil⟩
  | _, _, .cons r t => by
    obtain ⟨as, q⟩ := dt_keys I t
    obtain ⟨its, rv, ⟨o, ho, hc, n, hd⟩, _⟩ := I.tuple (SqT.of r.2.1)
    obtain ⟨bs, q2⟩ := kV_reads (h := s.heap) rv
    exact ⟨_, .cons (.tuple ho hc hd q2) q⟩
theorem dt_vals : ∀ {kvs : List (List Key × V)} {xs : List (List Key × Addr × Value)},
    Paired (fun (p : List Key × V) (q : List Key × Addr × Value) => p.1 = q.1 ∧ H q.2.1 = some (.tup (p.1.map kV)) ∧ RelV p.2 q.2.2) kvs xs →
    Vals (kvs.map Prod.snd) (xs.map fun x => x.2.2)
  | _, _, .nil => .nil
  | _, _, .cons r t => .cons r.2.2 (dt_vals t)
theorem dt_at (I : Inv X pins σ H s) {a : Addr} {kvs : List (List Key × V)} (h : H a = some (.dT kvs)) :
    (a == sysModules) = false ∧ ∃ (o : Obj) (es : Array DictEntry) (n : Nat), s.heap.get? a = some o ∧ o.cls = .type "dict" ∧ o.data = .dict es n ∧
      (∃ as, ReadsAll s.heap (es.toList.map (·.key)) (kvs.map fun p => keyT p.1) as) ∧ Vals (kvs.map Prod.snd) (es.toList.map (·.val)) := by
  obtain ⟨_, hs, xs, pr, o, es, ep, ho, hx, hd, he, _⟩ := (show ObjOk X.prog X.w H s.heap a (.dT kvs) from I.hok a _ h)
  refine ⟨hs, o, es, ep, ho, hx.1, hd, ?_, ?_⟩
  · obtain ⟨as, q⟩ := dt_keys I pr
    refine ⟨as, ?_⟩
    rw [he, List.map_map]
    exact q
  · rw [he, List.map_map]
    exact dt_vals pr
mutual
theorem Da.reads (I : Inv X pins σ H s) : ∀ {v : V} {d : PyData} {u : Value}, Da X.K H v d → RelV v u → ∃ as, Reads s.heap u d as
  | _, _, _, .non, r => by
    cases r
    exact ⟨_, .none⟩
  | _, _, _, .bl b, r => by
    cases r
    exact ⟨_, .bool b⟩
  | _, _, _, .int i, r => by
    obtain ⟨t, rfl⟩ := r
    exact ⟨_, .int i t⟩
  | _, _, _, .str x, r => by
    obtain ⟨t, rfl⟩ := r
    exact ⟨_, .str x t⟩
  | _, _, _, .lst h g, r => by
    cases r
    obtain ⟨its, rv, ⟨o, n, ho, hc, _, hd⟩, _⟩ := I.list h
    obtain ⟨as, q⟩ := Das.reads I g rv
    exact ⟨_, .list ho hc hd q⟩
  | _, _, _, .tup h g, r => by
    cases r
    obtain ⟨its, rv, ⟨o, ho, hc, n, hd⟩, _⟩ := I.tuple h
    obtain ⟨as, q⟩ := Das.reads I g rv
    exact ⟨_, .tuple ho hc hd q⟩
  | _, _, _, .dK (kvs := kvs) (ds := ds) h g, r => by
    cases r
    obtain ⟨_, o, es, n, ho, hc, hd, ⟨as, qk⟩, rv⟩ := dk_at I h
    obtain ⟨bs, q⟩ := Das.reads I g rv
    have hl : (kvs.map fun p => keyD p.1).length = ds.length := by rw [List.length_map, ← g.len, List.length_map]
    exact ⟨_, .dict ho hc hd (by rw [List.map_fst_zip (Nat.le_of_eq hl)]; exact qk) (by rw [List.map_snd_zip (Nat.le_of_eq hl.symm)]; exact q)⟩
  | _, _, _, .dT (kvs := kvs) (ds := ds) h g, r => by
    cases r
    obtain ⟨_, o, es, n, ho, hc, hd, ⟨as, qk⟩, rv⟩ := dt_at I h
    obtain ⟨bs, q⟩ := Das.reads I g rv
    have hl : (kvs.map fun p => keyT p.1).length = ds.length := by rw [List.length_map, ← g.len, List.length_map]
    exact ⟨_, .dict ho hc hd (by rw [List.map_fst_zip (Nat.le_of_eq hl)]; exact qk) (by rw [List.map_snd_zip (Nat.le_of_eq hl.symm)]; exact q)⟩
theorem Das.reads (I : Inv X pins σ H s) : ∀ {vs : List V} {ds : List PyData} {us : List Value}, Das X.K H vs ds → Vals vs us → ∃ as, ReadsAll s.heap us ds as
  | _, _, _, .nil, r => by
    cases r
    exact ⟨_, .nil⟩
  | _, _, _, .cons a b, r => by
    cases r with
    | cons r1 r2 =>
      obtain ⟨as, q1⟩ := Da.reads I a r1
      obtain ⟨bs, q2⟩ := Das.reads I b r2
      exact ⟨_, .cons q1 q2⟩
end
end
end Vx
/-! ## G2 -/
set_option Elab.async false
set_option linter.all false
set_option maxRecDepth 100000
set_option maxHeartbeats 4000000
namespace Vx
open PySem PySem.Spec PyProof.Rows L2

section
variable {X : Cx} {pins : List (Addr × Obj)} {σ : L2.St} {H : Hp} {s : Shared}
/-- keys have no dict in them -/
theorem keyD_nd (k : Key) : (keyD k).hasDict = false := by cases k <;> rfl
theorem keysD_nd : ∀ ks : List Key, PyData.hasDictAll (ks.map keyD) = false
  | [] => rfl
  | k :: ks => by
    show ((keyD k).hasDict || PyData.hasDictAll (ks.map keyD)) = false
    rw [keyD_nd, keysD_nd ks]
    rfl
theorem allK_nd {α : Type} (f : α → PyData) (hf : ∀ a, (f a).hasDict = false) : ∀ l : List α, PyData.hasDictAll (l.map f) = false
  | [] => rfl
  | a :: l => by
    show ((f a).hasDict || PyData.hasDictAll (l.map f)) = false
    rw [hf, allK_nd f hf l]
    rfl
theorem keyT_nd (k : List Key) : (keyT k).hasDict = false := keysD_nd k

/-- a dict whose keys and values are shown -/
theorem Da.rep_dict {prog : Program} {w : World} {h : Heap} {a : Addr} {o : Obj} {es : Array DictEntry} {n : Nat} {kvs : List (PyData × PyData)} {ks ds : List PyData} {as as1 : List Addr}
    (rd : Reads h (.ref a) (.dict kvs) as) (hsys : (a == sysModules) = false) (ho : h.get? a = some o) (hc : o.cls = .type "dict") (hd : o.data = .dict es n)
    (qk : ReadsAll h (es.toList.map (·.key)) ks as1) (hnd : PyData.hasDictAll ks = false) (e1 : kvs.map (·.1) = ks) (e2 : kvs.map (·.2) = ds)
    (hs : (PyData.dict kvs).showable = true) (hz : (PyData.dict kvs).shown.length ≤ sizeLine)
    (hv : PyData.showableAll ds = true → (∀ t ∈ PyData.shownAll ds, t.length ≤ sizeLine) →
      ∃ bs, ReadAtMost h (PyData.depthAll ds) bs ∧ ReprAllK prog w bs h (PyData.depthAll ds) (es.toList.map (·.val)) (PyData.shownAll ds)) :
    ∃ bs, ReadAtMost h (PyData.dict kvs).depth bs ∧ ReprK prog w bs h (PyData.dict kvs).depth (.ref a) (PyData.dict kvs).shown := by
  subst e1 e2
  have hz' : (dictText (PyData.shownKv kvs)).length ≤ sizeLine := by simpa only [PyData.shown] using hz
  obtain ⟨hs1, hs2⟩ := PyData.showableKv_split kvs (by simpa [PyData.showable] using hs)
  obtain ⟨b1, hb1, k1⟩ := ReprAllK.of_readsAll (prog := prog) (w := w) qk hs1 (fun z => by rw [hnd] at z; cases z)
    fun t ht => by
      obtain ⟨p, hp, hl⟩ := PyData.shownKv_key_le kvs t ht
      exact Nat.le_trans hl (Nat.le_trans (dictText_mem_le hp) hz')
  obtain ⟨b2, hb2, k2⟩ := hv hs2 fun t ht => by
    obtain ⟨p, hp, hl⟩ := PyData.shownKv_val_le kvs t ht
    exact Nat.le_trans hl (Nat.le_trans (dictText_mem_le hp) hz')
  have hb := (hb1.mono (PyData.depthAll_keys_le kvs)).append (hb2.mono (PyData.depthAll_vals_le kvs))
  have hna : a ∉ b1 ++ b2 := not_mem_of_deeper rd (by simp only [PyData.depth]; omega) hb
  refine ⟨a :: (b1 ++ b2), ReadAtMost.cons rd (by simp only [PyData.depth]; omega) hb, ?_⟩
  simp only [PyData.depth, PyData.shown, PyData.shownKv_eq]
  exact ReprK.dict ho hc hd hsys hna (ReprEntriesK.of_two es.toList _ _
    (k1.more_le (fun b z => List.mem_append_left _ z) (PyData.depthAll_keys_le kvs))
    (k2.more_le (fun b z => List.mem_append_right _ z) (PyData.depthAll_vals_le kvs)))

mutual
theorem Da.rep (I : Inv X pins σ H s) : ∀ {v : V} {d : PyData} {u : Value}, Da X.K H v d → RelV v u → d.showable = true → d.shown.length ≤ sizeLine →
    ∃ bs, ReadAtMost s.heap d.depth bs ∧ ReprK X.prog X.w bs s.heap d.depth u d.shown
  | _, _, _, .non, r, _, _ => by
    cases r
    exact ⟨[], (fun _ h => nomatch h), by simp only [PyData.shown]; exact .of_is ReprIs.none _ _ _⟩
  | _, _, _, .bl b, r, _, _ => by
    cases r
    exact ⟨[], (fun _ h => nomatch h), by simp only [PyData.shown]; exact .of_is (ReprIs.bool b) _ _ _⟩
  | _, _, _, .int i, r, hs, _ => by
    obtain ⟨t, rfl⟩ := r
    exact ⟨[], (fun _ h => nomatch h), by simp only [PyData.shown]; exact .of_is (ReprIs.int t (by simpa [PyData.showable] using hs)) _ _ _⟩
  | _, _, _, .str x, r, _, hz => by
    obtain ⟨t, rfl⟩ := r
    exact ⟨[], (fun _ h => nomatch h), by simp only [PyData.shown]; exact .of_is (ReprIs.str x t (by simpa only [PyData.shown] using hz)) _ _ _⟩
  | _, _, _, .lst (a := a) (xs := xs) (ds := ds) h g, r, hs, hz => by
    have hz' : (listText (PyData.shownAll ds)).length ≤ sizeLine := by simpa only [PyData.shown] using hz
    obtain ⟨as, rd⟩ := Da.reads I (.lst h g) r
    cases r
    obtain ⟨its, rv, ⟨o, n, ho, hc, _, hd⟩, _⟩ := I.list h
    obtain ⟨bs, hb, hk⟩ := Das.rep' I g rv (by simpa [PyData.showable] using hs) fun t ht => Nat.le_trans (listText_mem_le ht) hz'
    have hna : a ∉ bs := not_mem_of_deeper rd (by simp only [PyData.depth]; omega) hb
    refine ⟨a :: bs, ReadAtMost.cons rd (by simp only [PyData.depth]; omega) hb, ?_⟩
    simp only [PyData.depth, PyData.shown]
    cases rv with
    | nil =>
      have e0 : ds = [] := by
        have q := g.len
        cases ds with
        | nil => rfl
        | cons _ _ => cases q
      subst e0
      simp only [PyData.shownAll, listText_nil]
      exact ReprK.listEmpty ho hc hd
    | cons rx rl => exact ReprK.list ho hc hd hna (by simpa using hk.length_eq) fun i y e => hk.item i y (by simpa using e)
  | _, _, _, .tup (a := a) (xs := xs) (ds := ds) h g, r, hs, hz => by
    have hz' : (tupleText (PyData.shownAll ds)).length ≤ sizeLine := by simpa only [PyData.shown] using hz
    obtain ⟨as, rd⟩ := Da.reads I (.tup h g) r
    cases r
    obtain ⟨its, rv, ⟨o, ho, hc, n, hd⟩, _⟩ := I.tuple h
    obtain ⟨bs, hb, hk⟩ := Das.rep' I g rv (by simpa [PyData.showable] using hs) fun t ht => Nat.le_trans (tupleText_mem_le ht) hz'
    have hna : a ∉ bs := not_mem_of_deeper rd (by simp only [PyData.depth]; omega) hb
    refine ⟨a :: bs, ReadAtMost.cons rd (by simp only [PyData.depth]; omega) hb, ?_⟩
    simp only [PyData.depth, PyData.shown]
    exact ReprK.tuple ho hc hd hna (by simpa using hk)
  | _, _, _, .dK (a := a) (kvs := kvs) (ds := ds) h g, r, hs, hz => by
    obtain ⟨as, rd⟩ := Da.reads I (.dK h g) r
    cases r
    obtain ⟨hsys, o, es, n, ho, hc, hd, ⟨as1, qk⟩, rv⟩ := dk_at I h
    have hl : (kvs.map fun p => keyD p.1).length = ds.length := by rw [List.length_map, ← g.len, List.length_map]
    exact Da.rep_dict rd hsys ho hc hd qk (allK_nd _ (fun p => keyD_nd p.1) kvs) (List.map_fst_zip (Nat.le_of_eq hl)) (List.map_snd_zip (Nat.le_of_eq hl.symm)) hs hz fun h1 h2 => Das.rep' I g rv h1 h2
  | _, _, _, .dT (a := a) (kvs := kvs) (ds := ds) h g, r, hs, hz => by
    obtain ⟨as, rd⟩ := Da.reads I (.dT h g) r
    cases r
    obtain ⟨hsys, o, es, n, ho, hc, hd, ⟨as1, qk⟩, rv⟩ := dt_at I h
    have hl : (kvs.map fun p => keyT p.1).length = ds.length := by rw [List.length_map, ← g.len, List.length_map]
    exact Da.rep_dict rd hsys ho hc hd qk (allK_nd _ (fun p => keyT_nd p.1) kvs) (List.map_fst_zip (Nat.le_of_eq hl)) (List.map_snd_zip (Nat.le_of_eq hl.symm)) hs hz fun h1 h2 => Das.rep' I g rv h1 h2
theorem Das.rep' (I : Inv X pins σ H s) : ∀ {vs : List V} {ds : List PyData} {us : List Value}, Das X.K H vs ds → Vals vs us → PyData.showableAll ds = true →
    (∀ t ∈ PyData.shownAll ds, t.length ≤ sizeLine) → ∃ bs, ReadAtMost s.heap (PyData.depthAll ds) bs ∧ ReprAllK X.prog X.w bs s.heap (PyData.depthAll ds) us (PyData.shownAll ds)
  | _, _, _, .nil, r, _, _ => by
    cases r
    exact ⟨[], (fun _ h => nomatch h), by simp only [PyData.shownAll]; exact .nil⟩
  | _, _, _, .cons (d := d) (ds := ds) a b, r, hs, hz => by
    cases r with
    | cons r1 r2 =>
      have hs' : d.showable = true ∧ PyData.showableAll ds = true := by simpa [PyData.showableAll] using hs
      obtain ⟨b1, hb1, k1⟩ := Da.rep I a r1 hs'.1 (hz _ (by simp only [PyData.shownAll]; exact List.mem_cons_self ..))
      obtain ⟨b2, hb2, k2⟩ := Das.rep' I b r2 hs'.2 fun t ht => hz t (by simp only [PyData.shownAll]; exact List.mem_cons_of_mem _ ht)
      refine ⟨b1 ++ b2, fun c hm => ?_, ?_⟩
      · simp only [PyData.depthAll]
        rcases List.mem_append.mp hm with hm | hm
        · obtain ⟨d', as', r', hd'⟩ := hb1 c hm
          exact ⟨d', as', r', Nat.le_trans hd' (Nat.le_max_left _ _)⟩
        · obtain ⟨d', as', r', hd'⟩ := hb2 c hm
          exact ⟨d', as', r', Nat.le_trans hd' (Nat.le_max_right _ _)⟩
      · simp only [PyData.depthAll, PyData.shownAll]
        exact .cons ((k1.more fun c hc => List.mem_append_left _ hc).level_le (Nat.le_max_left _ _)) (k2.more_le (fun c hc => List.mem_append_right _ hc) (Nat.le_max_right _ _))
end
end
end Vx
/-! ## G3 -/
set_option Elab.async false
set_option linter.all false
set_option maxRecDepth 100000
set_option maxHeartbeats 4000000
namespace Vx
open PySem PySem.Spec PyProof.Rows L2

section
variable {X : Cx} {pins : List (Addr × Obj)} {σ : L2.St} {H : Hp} {s : Shared}
theorem repr_list_end {l : List V} {a : Addr} {ds : List PyData} (I : Inv X pins σ H s) (h : SqL X.K H a l) (g : Das X.K H l ds)
    (hs : (PyData.list ds).showable = true) (hz : (PyData.list ds).shown.length ≤ sizeLine) {A : Around} {E : Value → Shared → Prop} {Q : Value → Shared → Prop}
    (hg : A.guards = some []) (hu : A.units + ((PyData.list ds).depth + 1) < cLine)
    (hq : ∀ h' u tk, (∀ b o, s.heap.get? b = some o → h'.get? b = some o) → Q (.str (PyData.list ds).shown u) { s with heap := h', toks := tk }) :
    wpAny (model X.prog X.w) A (call (.builtin "repr") [.ref a]) Q E s := by
  have hz' : (listText (PyData.shownAll ds)).length ≤ sizeLine := by simpa only [PyData.shown] using hz
  obtain ⟨as, rd⟩ := Da.reads I (.lst h g) rfl
  obtain ⟨its, rv, ⟨o, n, ho, hc, _, hd⟩, _⟩ := I.list h
  obtain ⟨bs, hb, hk⟩ := Das.rep' I g rv (by simpa [PyData.showable] using hs) fun t ht => Nat.le_trans (listText_mem_le ht) hz'
  have hna : a ∉ bs := not_mem_of_deeper rd (by simp only [PyData.depth]; omega) hb
  simp only [PyData.depth] at hu
  refine call_repr_slot (by omega) ⟨o, ho, hc⟩ F.slot_list_repr.toG ?_
  have hu' : A.in1.units + (PyData.depthAll ds + 1) < cLine := by
    show A.units + 1 + (PyData.depthAll ds + 1) < cLine
    omega
  cases rv with
  | nil =>
    have e0 : ds = [] := by
      have q := g.len
      cases ds with
      | nil => rfl
      | cons _ _ => cases q
    subst e0
    simp only [PyData.shown, PyData.shownAll, listText_nil] at hq
    exact call_list_repr_empty ⟨o, ho, hc⟩ ho hd ⟨_, _, rfl, hq s.heap _ _ fun _ _ e => e⟩
  | cons rx rl =>
    simp only [PyData.shown] at hq
    exact call_list_reprK ho hc hd hna (by simpa using hk.length_eq) (fun i y e => hk.item i y (by simpa using e)) hg (fun b _ => Clear.nil b) hu'
      (fun _ _ e => e) (fun h' u tk q => ⟨_, _, rfl, hq h' u tk q⟩) hz'
theorem repr_tup_end {l : List V} {a : Addr} {ds : List PyData} (I : Inv X pins σ H s) (h : SqT X.K H a l) (g : Das X.K H l ds)
    (hs : (PyData.tuple ds).showable = true) (hz : (PyData.tuple ds).shown.length ≤ sizeLine) {A : Around} {E : Value → Shared → Prop} {Q : Value → Shared → Prop}
    (hg : A.guards = some []) (hu : A.units + ((PyData.tuple ds).depth + 1) < cLine)
    (hq : ∀ h' u tk, (∀ b o, s.heap.get? b = some o → h'.get? b = some o) → Q (.str (PyData.tuple ds).shown u) { s with heap := h', toks := tk }) :
    wpAny (model X.prog X.w) A (call (.builtin "repr") [.ref a]) Q E s := by
  have hz' : (tupleText (PyData.shownAll ds)).length ≤ sizeLine := by simpa only [PyData.shown] using hz
  obtain ⟨as, rd⟩ := Da.reads I (.tup h g) rfl
  obtain ⟨its, rv, ⟨o, ho, hc, n, hd⟩, _⟩ := I.tuple h
  obtain ⟨bs, hb, hk⟩ := Das.rep' I g rv (by simpa [PyData.showable] using hs) fun t ht => Nat.le_trans (tupleText_mem_le ht) hz'
  have hna : a ∉ bs := not_mem_of_deeper rd (by simp only [PyData.depth]; omega) hb
  simp only [PyData.depth] at hu
  refine call_repr_slot (by omega) ⟨o, ho, hc⟩ F.slot_tuple_repr ?_
  have hu' : A.in1.units + (PyData.depthAll ds + 1) < cLine := by
    show A.units + 1 + (PyData.depthAll ds + 1) < cLine
    omega
  simp only [PyData.shown] at hq
  exact call_tuple_reprK ho hc hd hna (by simpa using hk) hg (fun b _ => Clear.nil b) hu' (fun _ _ e => e) (fun h' u tk q => ⟨_, _, rfl, hq h' u tk q⟩) hz'
theorem repr_dict_end {a : Addr} {o : Obj} {es : Array DictEntry} {n : Nat} {kvs : List (PyData × PyData)} {ks ds : List PyData} {as as1 : List Addr}
    (rd : Reads s.heap (.ref a) (.dict kvs) as) (hsys : (a == sysModules) = false) (ho : s.heap.get? a = some o) (hc : o.cls = .type "dict") (hd : o.data = .dict es n)
    (qk : ReadsAll s.heap (es.toList.map (·.key)) ks as1) (hnd : PyData.hasDictAll ks = false) (e1 : kvs.map (·.1) = ks) (e2 : kvs.map (·.2) = ds)
    (hs : (PyData.dict kvs).showable = true) (hz : (PyData.dict kvs).shown.length ≤ sizeLine)
    (hv : PyData.showableAll ds = true → (∀ t ∈ PyData.shownAll ds, t.length ≤ sizeLine) →
      ∃ bs, ReadAtMost s.heap (PyData.depthAll ds) bs ∧ ReprAllK X.prog X.w bs s.heap (PyData.depthAll ds) (es.toList.map (·.val)) (PyData.shownAll ds))
    {A : Around} {E : Value → Shared → Prop} {Q : Value → Shared → Prop}
    (hg : A.guards = some []) (hu : A.units + ((PyData.dict kvs).depth + 1) < cLine)
    (hq : ∀ h' u tk, (∀ b o, s.heap.get? b = some o → h'.get? b = some o) → Q (.str (PyData.dict kvs).shown u) { s with heap := h', toks := tk }) :
    wpAny (model X.prog X.w) A (call (.builtin "repr") [.ref a]) Q E s := by
  subst e1 e2
  have hz' : (dictText (PyData.shownKv kvs)).length ≤ sizeLine := by simpa only [PyData.shown] using hz
  obtain ⟨hs1, hs2⟩ := PyData.showableKv_split kvs (by simpa [PyData.showable] using hs)
  obtain ⟨b1, hb1, k1⟩ := ReprAllK.of_readsAll (prog := X.prog) (w := X.w) qk hs1 (fun z => by rw [hnd] at z; cases z)
    fun t ht => by
      obtain ⟨p, hp, hl⟩ := PyData.shownKv_key_le kvs t ht
      exact Nat.le_trans hl (Nat.le_trans (dictText_mem_le hp) hz')
  obtain ⟨b2, hb2, k2⟩ := hv hs2 fun t ht => by
    obtain ⟨p, hp, hl⟩ := PyData.shownKv_val_le kvs t ht
    exact Nat.le_trans hl (Nat.le_trans (dictText_mem_le hp) hz')
  have hb := (hb1.mono (PyData.depthAll_keys_le kvs)).append (hb2.mono (PyData.depthAll_vals_le kvs))
  have hna : a ∉ b1 ++ b2 := not_mem_of_deeper rd (by simp only [PyData.depth]; omega) hb
  simp only [PyData.depth] at hu
  refine call_repr_slot (by omega) ⟨o, ho, hc⟩ F.slot_dict_repr ?_
  have hu' : A.in1.units + (PyData.depthKv kvs + 1) < cLine := by
    show A.units + 1 + (PyData.depthKv kvs + 1) < cLine
    omega
  simp only [PyData.shown, PyData.shownKv_eq] at hq
  exact call_dict_reprK ho hc hd hsys hna (ReprEntriesK.of_two es.toList _ _
      (k1.more_le (fun b z => List.mem_append_left _ z) (PyData.depthAll_keys_le kvs))
      (k2.more_le (fun b z => List.mem_append_right _ z) (PyData.depthAll_vals_le kvs))) hg (fun b _ => Clear.nil b) hu'
    (fun _ _ e => e) (fun h' u tk q => ⟨_, _, rfl, hq h' u tk q⟩) (by rw [← PyData.shownKv_eq]; exact hz')

/-- repr(x), x data -/
def rRepr (K : PySem.W.Frag) : List V → Hp → VK → Prop := fun xs H Q => ∃ x d, xs = [x] ∧ Da K H x d ∧ d.showable = true ∧ d.depth ≤ 50 ∧ d.shown.length ≤ sizeLine ∧ Q (.str d.shown) H
theorem call_reprD (hG : Gd X.A) (hu : X.A.units + 64 < cLine) : CallR X (.builtin "repr") (rRepr X.K) := by
  intro pins s σ H xs us Q I r h
  obtain ⟨x, d, rfl, hd, hs, hn, hz, q⟩ := h
  cases r with
  | cons rx rr =>
    cases rr
    have fin : ∀ h' u tk, (∀ b o, s.heap.get? b = some o → h'.get? b = some o) → EP X pins σ Q (.str d.shown u) { s with heap := h', toks := tk } :=
      fun h' u tk k => ⟨.str d.shown, H, I.kept (h' := h') (t' := tk) k, ⟨u, rfl⟩, q⟩
    cases hd with
    | non =>
      cases rx
      simp only [PyData.shown] at fin
      exact PySem.P.repr_of_none (fin s.heap _ _ fun _ _ e => e)
    | bl b =>
      cases rx
      simp only [PyData.shown] at fin
      exact PySem.P.repr_of_bool (fin s.heap _ _ fun _ _ e => e)
    | int i =>
      obtain ⟨t, rfl⟩ := rx
      simp only [PyData.shown] at fin
      exact PySem.P.repr_of_int (by simpa [PyData.showable] using hs) (fin s.heap _ _ fun _ _ e => e)
    | str y =>
      obtain ⟨t, rfl⟩ := rx
      simp only [PyData.shown] at fin
      exact PySem.P.repr_of_str (fin s.heap _ _ fun _ _ e => e) (by simpa only [PyData.shown] using hz)
    | lst h g =>
      cases rx
      exact repr_list_end I h g hs hz hG (by omega) fin
    | tup h g =>
      cases rx
      exact repr_tup_end I h g hs hz hG (by omega) fin
    | dK h g =>
      cases rx
      rename_i a kvs ds
      obtain ⟨as, rd⟩ := Da.reads I (.dK h g) rfl
      obtain ⟨hsys, o, es, n, ho, hc, hd, ⟨as1, qk⟩, rv⟩ := dk_at I h
      have hl : (kvs.map fun p => keyD p.1).length = ds.length := by rw [List.length_map, ← g.len, List.length_map]
      exact repr_dict_end rd hsys ho hc hd qk (allK_nd _ (fun p => keyD_nd p.1) kvs) (List.map_fst_zip (Nat.le_of_eq hl))
        (List.map_snd_zip (Nat.le_of_eq hl.symm)) hs hz (fun h1 h2 => Das.rep' I g rv h1 h2) hG (by omega) fin
    | dT h g =>
      cases rx
      rename_i a kvs ds
      obtain ⟨as, rd⟩ := Da.reads I (.dT h g) rfl
      obtain ⟨hsys, o, es, n, ho, hc, hd, ⟨as1, qk⟩, rv⟩ := dt_at I h
      have hl : (kvs.map fun p => keyT p.1).length = ds.length := by rw [List.length_map, ← g.len, List.length_map]
      exact repr_dict_end rd hsys ho hc hd qk (allK_nd _ (fun p => keyT_nd p.1) kvs) (List.map_fst_zip (Nat.le_of_eq hl))
        (List.map_snd_zip (Nat.le_of_eq hl.symm)) hs hz (fun h1 h2 => Das.rep' I g rv h1 h2) hG (by omega) fin
end
end Vx
/-! ## G4 -/
set_option Elab.async false
set_option linter.all false
set_option maxRecDepth 100000
set_option maxHeartbeats 4000000
namespace Vx
open PySem PySem.Spec PyProof.Rows L2
open PySem.W PySem.Calls

/-- one of the built-in classes over which the package's errors stand -/
structure XB where
  B : String
  nw : String
  ini : String
  bm : List Value
  F : ExcBaseFacts B nw ini bm
  S : StoreFacts B bm "object.__setattr__" "object"
def xVal : XB := ⟨_, _, _, _, F.excBase_ValueError, F.store_ValueError⟩
def xLook : XB := ⟨_, _, _, _, F.excBase_LookupError, F.store_LookupError⟩
def xRun : XB := ⟨_, _, _, _, F.excBase_RuntimeError, F.store_RuntimeError⟩
def xAri : XB := ⟨_, _, _, _, F.excBase_ArithmeticError, F.store_ArithmeticError⟩

/-! ### making one, with keywords too -/
section
variable {M : Model} {A : Around} {E : Value → Shared → Prop} {h : Heap} {g : Array GenState} {d : Drawn} {t : Nat} {os : OsState}
variable {nm q : Str} {C N : Addr} {bs bm bmB : List Value} {hdct : Bool} {sn : List Str} {sub : List Value} {ab : Bool} {col : Option Bool} {dd : Option Addr}
  {k0 k1 k2 k3 k5 : Option Value} {B newId initId : String} {kw : List (Str × Value)}
theorem xnew_check (F : ExcBaseFacts B newId initId bmB) (tl : ∀ X : String, bm.contains (.type X) = bmB.contains (.type X)) {rest : List Value} {Q : Unit → Shared → Prop}
    (cC : h.get? C = some (excClassObj nm q C N bs bm hdct sn sub ab col dd k0 k1 k2 k3 k5 newId)) (hq : Q () ⟨h, g, d, t, os⟩) :
    wpAny M A (checkBuiltinCall newId ⟨.ref C :: rest, kw⟩) Q E ⟨h, g, d, t, os⟩ := by
  have in1 : (Value.ref C :: bm).contains (.type B) = true := by
    rw [List.contains_cons, tl, F.hasB, Bool.or_true]
  have ns := F.noStar
  simp only [checkBuiltinCall, F.newKind, F.newSplit, F.newRow]
  repeat (first
    | refine wpAny_loadPart_at cC ?_
    | (refine wpAny_isSubtype_exc cC ?_
       rw [in1])
    | refine wpAny_staticBase_exc cC ?_
    | refine wpAny_madeBy_exc cC ?_
    | simp only [bne_self_eq_false, Bool.false_eq_true, if_false]
    | wp_step)
  all_goals exact hq
end
section
variable {prog : Program} {w : World} {A : Around} {E : Value → Shared → Prop} {R : Result → Shared → Prop} {h : Heap} {g : Array GenState} {d : Drawn} {t : Nat} {os : OsState}
variable {nm q : Str} {C N : Addr} {bs bm bmB : List Value} {hdct : Bool} {sn : List Str} {sub : List Value} {ab : Bool} {col : Option Bool} {dd : Option Addr}
  {k0 k1 k2 k3 k5 : Option Value} {B newId initId : String} {kw : List (Str × Value)}
theorem xnew_run (F : ExcBaseFacts B newId initId bmB) (tl : ∀ X : String, bm.contains (.type X) = bmB.contains (.type X)) {rest : List Value}
    (cC : h.get? C = some (excClassObj nm q C N bs bm hdct sn sub ab col dd k0 k1 k2 k3 k5 newId))
    (hq : R (.ok (.ret (.ref (h.objs.size + 1)))) ⟨(h.push (W.kdv_tup rest)).push (HandSPX.excO C h.objs.size), g, d, t, os⟩) (hl : rest.length ≤ sizeLine) :
    codeAny (model prog w) A (.builtin newId ⟨.ref C :: rest, kw⟩) R ⟨h, g, d, t, os⟩ := by
  have en := F.ends
  have in1 : (Value.ref C :: bm).contains (.type B) = true := by
    rw [List.contains_cons, tl, F.hasB, Bool.or_true]
  have in2 : (Value.ref C :: bm).contains (.type "AttributeError") = false := by
    rw [List.contains_cons, tl, F.noAttr]
    rfl
  have in3 : (Value.ref C :: bm).contains (.type "NameError") = false := by
    rw [List.contains_cons, tl, F.noName]
    rfl
  refine codeAny_builtinAt F.entry ?_
  unfold Builtin.«BaseException.__new__»
  refine PySem.wpAt_bind ?_
  show PySem.wpAt _ _ _ (stack >>= _) _ _ _
  refine PySem.wpAt_bind (PySem.wpAt_stack fun p below => PySem.wpAt_of_wpAny ?_)
  wp_walk
  refine PySem.wpAt_of_wpAny ?_
  rw [F.owner]
  repeat (first
    | with_reducible refine wpAny_madeHere_exc F.canon cC ?_
    | with_reducible refine wpAny_loadPart_at cC ?_
    | (with_reducible refine wpAny_isSubtype_exc cC ?_
       first
       | rw [in1]
       | rw [in2]
       | rw [in3])
    | wp_step)
  show R _ _
  rw [Heap.size_push]
  exact hq
theorem xtype_call (F : ExcBaseFacts B newId initId bmB) (tl : ∀ X : String, bm.contains (.type X) = bmB.contains (.type X)) {rest : List Value} {fI : Addr} {Q : Fin → Shared → Prop}
    (cC : h.get? C = some (excClassObj nm q C N bs bm hdct sn sub ab col dd k0 k1 k2 k3 k5 newId))
    (li : W.Looks (model prog w) h (typeLookup (.ref C) "__init__") (some (.ref fI))) (lb : ∀ self, W.Looks (model prog w) h (bindSpecial (.ref fI) self) (.ref fI, [self]))
    (hl : rest.length ≤ sizeLine)
    (hq : codeAny (model prog w) A (.call (.ref fI) ⟨.ref (h.objs.size + 1) :: rest, kw⟩)
      (fun r s' => match r with
        | .ok (.ret v) => v = .none ∧ Q (.done (.ret (.ref (h.objs.size + 1)))) s'
        | .ok _ => False
        | .error e => E e s')
      ⟨(h.push (W.kdv_tup rest)).push (HandSPX.excO C h.objs.size), g, d, t, os⟩) :
    wpAny (model prog w) A (Builtin.«type.__call__» ⟨.ref C :: rest, kw⟩) Q E ⟨h, g, d, t, os⟩ := by
  repeat (first
    | with_reducible refine wpAny_loadPart_at cC ?_
    | with_reducible refine wpAny_madeBy_exc cC ?_
    | wp_step)
  refine codeAny_call_builtin_code (Code.quiet_builtin _ F.quiet) (xnew_check F tl cC ?_)
  refine xnew_run F tl cC ?_ hl
  show wpAny _ _ _ _ _ _
  have kk : ∀ b o, h.get? b = some o → ((h.push (W.kdv_tup rest)).push (HandSPX.excO C h.objs.size)).get? b = some o :=
    fun b o z => Heap.get?_push_of_some _ (Heap.get?_push_of_some _ z)
  have cC2 := kk _ _ cC
  have hx : ((h.push (W.kdv_tup rest)).push (HandSPX.excO C h.objs.size)).get? (h.objs.size + 1) = some (HandSPX.excO C h.objs.size) := by heap_get
  have inC : (Value.ref C :: bm).contains (.ref C) = true := by simp
  have li2 := li.keeps kk
  have lb2 := (lb (.ref (h.objs.size + 1))).keeps kk
  unfold isInstance
  repeat (first
    | with_reducible refine wpAny_loadPart_at hx ?_
    | (with_reducible refine wpAny_isSubtype_exc cC2 ?_
       rw [inC])
    | wp_step)
  show wpAny _ _ (typeLookup (.ref C) _) _ _ _
  refine li2.at ?_
  refine wpAny_holding (wpAny_bind (lb2.at ?_))
  refine wpAny_bind (wpAny_call (codeAny_mono hq fun r s' z => ?_))
  rcases r with e | (v | _ | _ | _) <;> first | exact z | exact z.elim | skip
  obtain ⟨rfl, z⟩ := z
  first
    | exact wpAny_pure (wpAny_pure z)
    | (wp_walk
       exact z)
/-- C(.., k = ..) -/
theorem xcall (F : ExcBaseFacts B newId initId bmB) (tl : ∀ X : String, bm.contains (.type X) = bmB.contains (.type X)) {rest : List Value} {fI : Addr}
    (cC : h.get? C = some (excClassObj nm q C N bs bm hdct sn sub ab col dd k0 k1 k2 k3 k5 newId))
    (li : W.Looks (model prog w) h (typeLookup (.ref C) "__init__") (some (.ref fI))) (lb : ∀ self, W.Looks (model prog w) h (bindSpecial (.ref fI) self) (.ref fI, [self]))
    (hl : rest.length ≤ sizeLine)
    (hq : codeAny (model prog w) (A.under (.builtin "type.__call__" ⟨.ref C :: rest, kw⟩)) (.call (.ref fI) ⟨.ref (h.objs.size + 1) :: rest, kw⟩) (W.InitBack (h.objs.size + 1) R)
      ⟨(h.push (W.kdv_tup rest)).push (HandSPX.excO C h.objs.size), g, d, t, os⟩) :
    codeAny (model prog w) A (.call (.ref C) ⟨rest, kw⟩) R ⟨h, g, d, t, os⟩ := by
  have f1 := PySem.tc_lookup
  have f2 := PySem.tc_bind (.ref C)
  have ty : (⟨h, g, d, t, os⟩ : Shared).TypeIs (.ref C) "type" := ⟨_, cC, rfl⟩
  refine codeAny_of_tree ?_
  show wpAny _ _ (callAny (.ref C) _) _ _ _
  repeat (any_goals (first
    | assumption
    | with_reducible refine wpAny_loadPart_at cC ?_
    | wp_step))
  refine ⟨rfl, ?_⟩
  refine codeAny_call_builtin_at (Code.quiet_builtin _ (by decide +kernel)) entry_typeCall (wpAny_check_type_call_sub cC (xtype_call F tl cC li lb hl ?_))
  refine codeAny_mono hq fun r s' z => ?_
  rcases r with e | (v | _ | _ | _) <;> exact z
end
end Vx
/-! ## G5 -/
set_option Elab.async false
set_option linter.all false
set_option maxRecDepth 100000
set_option maxHeartbeats 4000000
namespace Vx
open PySem PySem.Spec PyProof.Rows L2
open PySem.W PySem.Calls PySem.Builtin.ObjectAttr

/-- what the written part says of an own error class at C, over b -/
structure XcC (b : XB) (K : PySem.W.Frag) (C : Addr) : Prop where
  cls : ∃ nm q N bs bm sn sub ab col dd k0 k1 k2 k3 k5, K.lookup C = some (excClassObj nm q C N bs bm true sn sub ab col dd k0 k1 k2 k3 k5 b.nw) ∧ excTail b.bm bm = true
  sa : findIn K (.ref C) "__setattr__" = some (some (.builtin "object.__setattr__"))
  exC : subIn K (.ref C) (.type "BaseException") = some true
  tyC : typeIn K (.ref C) = some (.type "type")
  kC : keepIn K (.ref C) = true
  ga : findIn K (.ref C) "__getattribute__" = some (some (.builtin "BaseException.__getattribute__"))
  gg : findIn K (.ref C) "__getattr__" = some none
  hdC : hasDictIn K C = true
  ha : findIn K (.ref C) "__class__" = some (some (.builtin "object.__class__"))
  hm : mroIn K C (.type "object") = some true
/-- what holds of the descriptor of __class__ -/
structure XcG (K : PySem.W.Frag) : Prop where
  hn : specialIn K (.builtin "object.__class__") "__get__" = some (some (.builtin "getset_descriptor.__get__"))
  ht : takesIn K (.builtin "object.__class__") = some true

section
variable {prog : Program} {w : World} {A : Around} {E : Value → Shared → Prop} {R : Result → Shared → Prop} {hp : Heap} {g : Array GenState} {d : Drawn} {t : Nat} {os : OsState}
/-- the first store -/
theorem xosa_new {B : String} {bmB : List Value} {K : PySem.W.Frag} {name : Str} {tk : Tok} {v : Value} {x C : Addr} {fv : Array Value} {cd : ClassData} (S : StoreFacts B bmB "object.__setattr__" "object")
    (X : K.In hp) (hx : hp.get? x = some { cls := .ref C, data := .fields fv }) (hcd : clsIn K C = some cd) (ov : excOver K C bmB = true) (hh : cd.hasDict = true) (tn : takerIn K C name = some none)
    (hq : ∀ h' tk' dx, (∀ b o, b ≠ x → hp.get? b = some o → h'.get? b = some o) → hp.objs.size ≤ dx → dx ≠ x →
      h'.get? x = some { cls := .ref C, dict := some dx, data := .fields fv } → h'.Ns1 dx (fun y => if y = name then some v else none) → R (.ok (.ret .none)) ⟨h', g, d, tk', os⟩) :
    codeAny (model prog w) A (.call (.builtin "object.__setattr__") ⟨[.ref x, .str name tk, v], []⟩) R ⟨hp, g, d, t, os⟩ := by
  have I : InstAt hp x { cls := .ref C, data := .fields fv } C none := ⟨hx, rfl, rfl, trivial⟩
  have ne : x ≠ hp.objs.size := Nat.ne_of_lt (Heap.lt_size hx)
  refine osa_openX S X I ov tn fun b => ?_
  have lc : Looks (model prog w) hp (classData C) cd := looks_clsIn X hcd
  obtain ⟨nm, bs, mro, ns, qn, hd, sn, sb, ab, col, del⟩ := cd
  dsimp only at hh
  subst hh
  show wpAny _ _ (storeInOwnDict (.ref x) (.ref C) (.str name tk) name v b) _ _ _
  unfold storeInOwnDict ownDictForStores
  repeat (first
    | with_reducible refine HandSPX.store_in_new ?_ ?_
    | with_reducible refine wpAny_loadPart_at hx ?_
    | with_reducible refine lc.at ?_
    | wp_step)
  · exact ⟨_, #[], _, (Heap.get?_update_ne _ _ _ _ ne.symm).trans (Heap.get?_push_at rfl rfl), rfl, fun e he => absurd he (by simp), fun _ => rfl⟩
  · intro h' tk' hn' hs
    have hx2 : (hp.push { cls := .type "dict", data := .dict #[] }).get? x = some { cls := .ref C, data := .fields fv } := Heap.get?_push_of_some _ hx
    refine hq h' tk' hp.objs.size (fun b o hb ho => ?_) (Nat.le_refl _) ne.symm ?_ hn'
    · exact (hs.2 b (Nat.ne_of_lt (Heap.lt_size ho))).trans ((Heap.get?_update_ne _ _ _ _ hb).trans (Heap.get?_push_of_some _ ho))
    · exact (hs.2 x ne).trans (Heap.get?_update_self _ hx2 rfl)
/-- a further store -/
theorem xosa_old {B : String} {bmB : List Value} {K : PySem.W.Frag} {name : Str} {tk : Tok} {v : Value} {x C dx : Addr} {fv : Array Value} {cd : ClassData} {m0 : Str → Option Value} {nl : List Str} (S : StoreFacts B bmB "object.__setattr__" "object")
    (X : K.In hp) (hx : hp.get? x = some { cls := .ref C, dict := some dx, data := .fields fv }) (hns : hp.Ns1 dx m0) (hw : Within m0 nl) (hz : nl.length ≤ 1000)
    (hcd : clsIn K C = some cd) (ov : excOver K C bmB = true) (hh : cd.hasDict = true) (tn : takerIn K C name = some none)
    (hq : ∀ h' tk', (∀ b o, b ≠ dx → hp.get? b = some o → h'.get? b = some o) → h'.Ns1 dx (fun y => if y = name then some v else m0 y) → R (.ok (.ret .none)) ⟨h', g, d, tk', os⟩) :
    codeAny (model prog w) A (.call (.builtin "object.__setattr__") ⟨[.ref x, .str name tk, v], []⟩) R ⟨hp, g, d, t, os⟩ := by
  obtain ⟨oD, esD, epD, hoD, hdD, _⟩ := hns.count hw
  have I : InstAt hp x { cls := .ref C, dict := some dx, data := .fields fv } C (some oD) := ⟨hx, rfl, rfl, hoD⟩
  refine osa_openX S X I ov tn fun b => ?_
  have lc : Looks (model prog w) hp (classData C) cd := looks_clsIn X hcd
  obtain ⟨nm, bs, mro, ns, qn, hd, sn, sb, ab, col, del⟩ := cd
  dsimp only at hh
  subst hh
  show wpAny _ _ (storeInOwnDict (.ref x) (.ref C) (.str name tk) name v b) _ _ _
  unfold storeInOwnDict ownDictForStores
  repeat (first
    | with_reducible refine OEX.store_in_old hns hw hz ?_
    | with_reducible refine wpAny_loadPart_at hx ?_
    | with_reducible refine lc.at ?_
    | wp_step)
  intro h' tk' hn' hs
  exact hq h' tk' (fun b o hb ho => (hs.2 b hb).trans ho) hn'
end

section
variable {b : XB} {X : Cx} {pins : List (Addr × Obj)} {σ : L2.St} {H : Hp} {s : Shared} {a C dx : Addr} {f : Str} {y : V} {u : Value} {fs : List (Str × V)}
  {Q : Unit → Shared → Prop} {E : Value → Shared → Prop} {A : Around}
theorem XcC.data (T : XcC b X.K C) : ∃ cd : ClassData, clsIn X.K C = some cd ∧ cd.hasDict = true ∧ excOver X.K C b.bm = true := by
  obtain ⟨nm, q, N, bs, bm, sn, sub, ab, col, dd, k0, k1, k2, k3, k5, hC, hbm⟩ := T.cls
  have e : clsIn X.K C = some { name := nm, bases := bs, mro := .ref C :: bm, ns := N, qualname := q, hasDict := true, slotNames := sn, subclasses := sub, abstract := ab, collection := col, hasDel := false } := by
    unfold clsIn
    rw [hC] <;> rfl
  refine ⟨_, e, rfl, ?_⟩
  unfold excOver
  rw [e]
  show ((C == C) && excTail b.bm bm) = true
  rw [hbm]
  simp
theorem taker_none {K : PySem.W.Frag} (h : findIn K (.ref C) f = some none) : takerIn K C f = some none := by
  unfold takerIn
  rw [h]
  rfl
/-- self.f = y, the first one -/
theorem xst_new (T : XcC b X.K C) (I : Inv X pins σ H s) (e : H a = some (exo a C none)) (hno : findIn X.K (.ref C) f = some none) (ry : RelV y u)
    (h : ∀ dx s', H dx = none → dx ≠ a → Inv X pins σ (upd (upd H dx (exd dx [(f, y)])) a (exo a C (some dx))) s' → Q () s') : wpAny (model X.prog X.w) A (setAttr (.ref a) f u) Q E s := by
  obtain ⟨cd, hcl, hhd, hov⟩ := T.data
  obtain ⟨t1, ho⟩ := exo_at I.hok e
  obtain ⟨hp, g, d, t, os⟩ := s
  refine set_plain I.kIn (ox := { cls := .ref C, dict := none, data := .fields #[.ref t1, .none, .none, .none, .bool false, .none] }) (od := none) ⟨ho, rfl, rfl, trivial⟩ T.sa ?_
  refine xosa_new b.S I.kIn ho hcl hov hhd (taker_none hno) (fun h' tk' dx k dn dne hx hn => ?_)
  have hnd : H dx = none := I.hok.fresh dn
  have nd : ∀ {c : Addr} {o : Obj}, hp.get? c = some o → c ≠ dx := fun {c o} q => Nat.ne_of_lt (Nat.lt_of_lt_of_le (Heap.lt_size q) dn)
  have na : ∀ {c : Addr}, H c = none → c ≠ a := fun {c} n z => by
    rw [z, e] at n
    cases n
  refine h dx _ hnd dne (I.un (t' := tk') ⟨fun c o q n _ _ => k c o (na n) q, fun c o q n _ _ => ⟨o.slots, k c o (na n) q⟩,
    fun c o q n _ => by rw [upd_ne (na n), upd_ne (nd q)]; exact n,
    fun c o q _ => by
      by_cases hb : c = a
      · exact ⟨_, by rw [hb]; exact hx⟩
      · exact ⟨o, k c o hb q⟩,
    fun c xs q => by rw [upd_ne (at_ne e q exo_tup), upd_ne (ne_of_none q hnd)]; exact q,
    fun c o v q => by rw [upd_ne (at_ne e q exo_frz), upd_ne (ne_of_none q hnd)]; exact q,
    fun c ps q => ⟨#[], by rw [upd_ne (at_ne e q exo_tbl), upd_ne (ne_of_none q hnd), q]; simp⟩⟩ fun c o q => ?_)
  by_cases hb : c = a
  · subst hb
    rw [upd_same] at q
    cases q
    exact exo_ok hx
  · rw [upd_ne hb] at q
    by_cases hd : c = dx
    · subst hd
      rw [upd_same] at q
      cases q
      exact exd_ok hn (relO_put (fs := []) ry fun g => True.intro)
    · rw [upd_ne hd] at q
      refine (I.hok c o q).stay (fun z v hz r => k z v ?_ r) (fun z hz => ?_) fun z xs hz => ?_
      · rcases hz with hz | hz
        · rw [hz]
          exact hb
        · exact at_ne e hz exo_own
      · rw [upd_ne (at_ne e hz exo_own), upd_ne (ne_of_none hz hnd)]
        exact hz
      · rw [upd_ne (at_ne e hz exo_tup), upd_ne (ne_of_none hz hnd)]
        exact hz
/-- self.f = y, a further one -/
theorem xst_old (T : XcC b X.K C) (I : Inv X pins σ H s) (e : H a = some (exo a C (some dx))) (ed : H dx = some (exd dx fs)) (hl : fs.length ≤ 900) (hno : findIn X.K (.ref C) f = some none) (ry : RelV y u)
    (h : ∀ s', Inv X pins σ (upd H dx (exd dx ((f, y) :: fs))) s' → Q () s') : wpAny (model X.prog X.w) A (setAttr (.ref a) f u) Q E s := by
  obtain ⟨cd, hcl, hhd, hov⟩ := T.data
  obtain ⟨t1, ho⟩ := exo_at I.hok e
  obtain ⟨mA, hns, rel⟩ := exd_at I.hok ed
  have hw := within_of rel
  obtain ⟨hp, g, d, t, os⟩ := s
  obtain ⟨oD, _, _, hoD, _, _⟩ := hns.count hw
  refine set_plain I.kIn (ox := { cls := .ref C, dict := some dx, data := .fields #[.ref t1, .none, .none, .none, .bool false, .none] }) (od := some oD) ⟨ho, rfl, rfl, hoD⟩ T.sa ?_
  refine xosa_old b.S I.kIn ho hns hw (by rw [List.length_map]; omega) hcl hov hhd (taker_none hno) (fun h' tk' k hn => ?_)
  have hd : ∃ o, h'.get? dx = some o := by
    obtain ⟨o, _, _, e', _⟩ := hn
    exact ⟨o, e'⟩
  exact h _ (I.write (t' := tk') (x := dx) (e := dx) (o := exd dx ((f, y) :: fs)) (by rw [ed]; exact True.intro) (.inl rfl) k hd (exd_ok hn (relO_put ry rel)))
end

/-- at a: an error of the class at C, with these attributes (the newest first) -/
def XO (H : Hp) (a C : Addr) (fs : List (Str × V)) : Prop := ∃ d, H a = some (exo a C (some d)) ∧ H d = some (exd d fs)
/-- self.f = e in an error's __init__ -/
def tXs (b : XB) (K : PySem.W.Frag) (f : Str) (to te : TE) : TS := fun D σ H => te σ H fun y H1 => to σ H1 fun x H2 => ∃ a C : Addr, x = .ref a ∧ XcC b K C ∧ findIn K (.ref C) f = some none ∧
  ((H2 a = some (exo a C none) ∧ ∀ dx, H2 dx = none → dx ≠ a → D.nx σ (upd (upd H2 dx (exd dx [(f, y)])) a (exo a C (some dx)))) ∨
    ∃ (dx : Addr) (fs : List (Str × V)), H2 a = some (exo a C (some dx)) ∧ H2 dx = some (exd dx fs) ∧ fs.length ≤ 900 ∧ D.nx σ (upd H2 dx (exd dx ((f, y) :: fs))))
/-- C(e, ..), its __init__ keeping sp -/
def tXm (C : Addr) (sp : Sp) (gV : List V → List V → List V) (ta tk : TA) : TE := fun σ H Q => ta σ H fun vs H1 => tk σ H1 fun zs H2 => vs.length ≤ 1000 ∧ ∀ a, H2 a = none →
  sp (gV (.ref a :: vs) zs) (upd H2 a (exo a C none)) (fun v H3 => v = .non ∧ Q (.ref a) H3) (fun _ _ _ => False)
section
variable {b : XB} {X : Cx} {o e : Expr} {es : List Expr} {kws : List Keyword} {to te : TE} {ta tk : TA} {f : Str} {p p' p1 p2 pos : Pos} {C fI : Addr}
theorem ps_xs (ho : PE X o to) (he : PE X e te) (hs : swapsWith e (some (.Attribute o f p')) pos.line X.env = pure false := by rfl) : PS X (.Assign [.Attribute o f p'] e pos) (tXs b X.K f to te) := by
  refine ⟨fun pins s σ H D I h => ?_⟩
  refine plainObj_wpAny_Assign_Attribute (thn (he.run pins s σ H _ I h) fun v s1 ⟨y, H1, I1, r1, q1⟩ =>
    thn (ho.run pins s1 σ H1 _ I1 q1) fun u s2 ⟨x, H2, I2, r2, a, C, ex, T, hno, q⟩ => ?_) hs
  subst ex
  obtain rfl : u = Value.ref a := r2
  rcases q with ⟨ea, q⟩ | ⟨dx, fs, ea, ed, hl, q⟩
  · exact xst_new T I2 ea hno r1 fun dx s' n ne J => ⟨σ, _, J, q dx n ne⟩
  · exact xst_old T I2 ea ed hl hno r1 fun s' J => ⟨σ, _, J, q⟩
/-- the making, its arguments reckoned -/
theorem xmk_run {CX : CXT} {k : Nat} {fd : FuncData} {ps ks : List Str} {sp : Sp} {g : List Value → List Value → List Value} {gV : List V → List V → List V} {pins : List (Addr × Obj)} {σ : L2.St} {H : Hp} {s : Shared} {Q : VK} {us ws : List Value} {vs zs : List V}
    (T : XcC b X.K C) (iC : findIn X.K (.ref C) "__init__" = some (some (.ref fI))) (tI : typeIn X.K (.ref fI) = some (.type "function"))
    (F1 : FnOk X.prog X.w X.K X.mg X.base CX k fI fd ps sp) (hr : Room (k + 1) X.A) (hb : KBinds X.K fd ps ks g gV) (hx : Passes CX X (fun _ _ _ => False))
    (I : Inv X pins σ H s) (r : Vals vs us) (rz : Vals zs ws) (hz : vs.length ≤ 1000)
    (q1 : ∀ a, H a = none → sp (gV (.ref a :: vs) zs) (upd H a (exo a C none)) (fun v H3 => v = .non ∧ Q (.ref a) H3) (fun _ _ _ => False)) :
    wpAny (model X.prog X.w) X.A (call (.ref C) us (ks.zip ws)) (EP X pins σ Q) X.xe s := by
  obtain ⟨nm, q, N, bs, bm, sn, sub, ab, col, dd, k0, k1, k2, k3, k5, hC, hbm⟩ := T.cls
  obtain ⟨hp, gs, dr, tk, os⟩ := s
  have lz : hp.objs.size ≤ hp.objs.size + 1 := Nat.le_succ _
  have hn : H (hp.objs.size + 1) = none := I.hok.fresh lz
  have hq := q1 (hp.objs.size + 1) hn
  have kk : ∀ c o, hp.get? c = some o → ((hp.push (kdv_tup us)).push (HandSPX.excO C hp.objs.size)).get? c = some o :=
    fun c o z => Heap.get?_push_of_some _ (Heap.get?_push_of_some _ z)
  have hget : ((hp.push (kdv_tup us)).push (HandSPX.excO C hp.objs.size)).get? (hp.objs.size + 1) = some (HandSPX.excO C hp.objs.size) := by heap_get
  have I2 : Inv X pins σ (upd H (hp.objs.size + 1) (exo (hp.objs.size + 1) C none)) ⟨(hp.push (kdv_tup us)).push (HandSPX.excO C hp.objs.size), gs, dr, tk, os⟩ :=
    I.laid (t' := tk) (a := hp.objs.size + 1) (o := exo (hp.objs.size + 1) C none) (h' := (hp.push (kdv_tup us)).push (HandSPX.excO C hp.objs.size)) kk lz (exo_ok hget)
  have ra : Vals (V.ref (hp.objs.size + 1) :: vs) (Value.ref (hp.objs.size + 1) :: us) := .cons rfl r
  have r2 := hb.rel ra rz
  have hl : (g (Value.ref (hp.objs.size + 1) :: us) ws).length = ps.length := r2.length.symm.trans (F1.len _ _ _ _ hq)
  have hus : us.length ≤ sizeLine := by
    rw [← Paired.length r, sizeLine_eq]
    omega
  refine wpAny_call (xcall b.F (fun Y => excTail_contains Y bm hbm) (I.kIn _ _ hC) (looks_findIn I.kIn iC) (fun self => bind_fn I.kIn self tI) hus
    (codeAny_mono (F1.run _ X.stack _ _ ⟨Value.ref (hp.objs.size + 1) :: us, ks.zip ws⟩ (g (Value.ref (hp.objs.size + 1) :: us) ws) _ _ (fun _ _ _ => False)
      (hr.make C us (ks.zip ws)) (I2.env0.make C us (ks.zip ws)) (hb.to _ _ ws I2.kIn hl) r2 hq) fun r s' hq' => ?_))
  cases r with
  | error er => exact hx pins σ _ _ er s' I2 hq'
  | ok fl =>
    cases fl with
    | ret u =>
      obtain ⟨v, H2, J, rv, ev, q2⟩ := I2.after hq'
      subst ev
      exact ⟨rv, ⟨V.ref (hp.objs.size + 1), H2, J, rfl, q2⟩⟩
    | next => exact False.elim hq'
    | brk => exact False.elim hq'
    | cont => exact False.elim hq'
end
end Vx
/-! ## G6 -/
set_option Elab.async false
set_option linter.all false
set_option maxRecDepth 100000
set_option maxHeartbeats 4000000
namespace Vx
open PySem PySem.Spec PyProof.Rows L2
open PySem.W PySem.Calls PySem.Builtin.ObjectAttr

section
variable {b : XB} {X : Cx} {o e : Expr} {es : List Expr} {kws : List Keyword} {to te : TE} {ta tk : TA} {f x : Str} {p p' p1 p2 pos : Pos} {C fI : Addr}
  {CX : CXT} {k : Nat} {fd : FuncData} {ps ks : List Str} {sp : Sp} {g : List Value → List Value → List Value} {gV : List V → List V → List V}
/-- C(e, ..) -/
theorem pe_xm (T : XcC b X.K C) (iC : findIn X.K (.ref C) "__init__" = some (some (.ref fI))) (tI : typeIn X.K (.ref fI) = some (.type "function"))
    (F1 : FnOk X.prog X.w X.K X.mg X.base CX k fI fd ps sp) (hr : Room (k + 1) X.A) (hb : KBinds X.K fd ps [] g gV) (hx : Passes CX X (fun _ _ _ => False))
    (hg : Gl X x) (hm : X.mg x = some (.ref C)) (ha : PA X (e :: es) ta)
    (hdb : (x == ("__debug__" : Str)) = false := by decide) (he : starEach (e :: es) X.env = (false, eval e X.env) :: starEach es X.env := by rfl) (hpl : (backTo pos (starEach es X.env)).any (·.1) = false := by rfl) :
    PE X (.Call (.Name x p) (e :: es) [] pos) (tXm C sp gV ta tNil) := by
  refine ⟨fun pins s σ H Q I h => wpAny_Call_Name_kw (ld_glob I hg hm ?_ hdb)⟩
  refine callWith_K (h₀ := X.base) I.ok.mod.kin T.kC (thn (ha.run pos pins s σ H _ I h) fun us s1 ⟨vs, H1, I1, r1, hz, q1⟩ => ⟨I1.kIn, ?_⟩) he hpl
  exact xmk_run (ks := []) (ws := []) T iC tI F1 hr hb hx I1 r1 .nil hz q1
/-- C(k = e, ..) -/
theorem pe_xmK (T : XcC b X.K C) (iC : findIn X.K (.ref C) "__init__" = some (some (.ref fI))) (tI : typeIn X.K (.ref fI) = some (.type "function"))
    (F1 : FnOk X.prog X.w X.K X.mg X.base CX k fI fd ps sp) (hr : Room (k + 1) X.A) (hb : KBinds X.K fd ps ks g gV) (hx : Passes CX X (fun _ _ _ => False))
    (hg : Gl X x) (hm : X.mg x = some (.ref C)) (hkw : PK X kws tk) (hall : (backToKw pos (keywordEach kws X.env)).all (·.1.isSome) = true := by rfl)
    (hks : (backToKw pos (keywordEach kws X.env)).filterMap (·.1) = ks := by rfl) (hdb : (x == ("__debug__" : Str)) = false := by decide)
    (hpl : ((backTo pos (starEach [] X.env)).any (·.1) || (backToKw pos (keywordEach kws X.env)).any (·.1.isNone)) = false := by rfl) :
    PE X (.Call (.Name x p) [] kws pos) (tXm C sp gV tNil tk) := by
  refine ⟨fun pins s σ H Q I h => wpAny_Call_Name_kw (ld_glob I hg hm ?_ hdb)⟩
  refine callWith_KW0 (h₀ := X.base) I.ok.mod.kin T.kC hall ?_ hpl
  refine thn (hkw.run pos pins s σ H _ I h) fun ws s2 ⟨zs, H2, I2, rz, hz, q2⟩ => ⟨I2.kIn, ?_⟩
  rw [hks]
  exact xmk_run T iC tI F1 hr hb hx I2 .nil rz hz q2

/-- e.f, e an own error -/
def tXf (K : PySem.W.Frag) (f : Str) (te : TE) : TE := fun σ H Q => te σ H fun v H1 => ∃ (b : XB) (a C : Addr) (fs : List (Str × V)) (y : V), v = .ref a ∧ XO H1 a C fs ∧ XcC b K C ∧
  findIn K (.ref C) f = some none ∧ fs.lookup f = some y ∧ Q y H1
theorem pe_xf {n : Str} (he : PE X e te) (hb : attributeBase e n X.env (eval e X.env) = eval e X.env := by rfl) : PE X (.Attribute e n pos) (tXf X.K n te) := by
  refine ⟨fun pins s σ H Q I h => attr_of hb (thn (he.run pins s σ H _ I h) fun u s1 hh => ?_)⟩
  obtain ⟨v, H1, I1, rx, b, a, C, fs, y, ev, ⟨d, ea, ed⟩, T, hno, l, q⟩ := hh
  subst ev
  obtain rfl : u = Value.ref a := rx
  obtain ⟨t1, ho⟩ := exo_at I1.hok ea
  obtain ⟨mA, hns, rel⟩ := exd_at I1.hok ed
  obtain ⟨od, hod, hl⟩ := lookIn_ns hns
  obtain ⟨u, hu, ru⟩ := RelO.some_of (v := y) (o := mA n) (by rw [← l]; exact rel n)
  have J : InstAt s1.heap a _ C (some od) := ⟨ho, rfl, rfl, hod⟩
  exact HandSPX.exc_get I1.kIn J T.ga T.gg T.exC (findObj_own T.hdC hno rfl (by rw [hl, hu])) (handed_of ru) ⟨y, H1, I1.tok _, ru, q⟩

end

/-! ### isinstance of an own error -/
section
variable {prog : Program} {w : World} {A : Around} {E : Value → Shared → Prop} {s : Shared} {K : Frag} {x D : Addr} {ox : Obj} {od : Option Obj} {b : XB}
theorem xfind_data {C : Addr} {name : Str} {a g : Value} (hc : (clsIn K C).isSome = true) (ha : findIn K (.ref C) name = some (some a)) (hg : specialIn K a "__get__" = some (some g)) (ht : takesIn K a = some true) :
    findObj K C od name = some (.bind g a) := by
  obtain ⟨cd, hc⟩ := Option.isSome_iff_exists.mp hc
  unfold findObj
  rw [hc, Option.bind_some, ha, Option.bind_some]
  simp [hg, ht]
theorem xclass_get {M : Model} {h : Heap} (G : XcG K) (T : XcC b K D) (X : K.In h) (I : InstAt h x ox D od) : Looks M h (find (.ref x) (.ref D) "__class__") (.bind (.builtin "getset_descriptor.__get__") (.builtin "object.__class__")) :=
  looks_find X I (xfind_data (by obtain ⟨cd, hc, _⟩ := any_some T.hdC; rw [hc]; rfl) T.ha G.hn G.ht)
theorem xkin_class {Q : Option Value → Shared → Prop} (G : XcG K) (T : XcC b K D) (X : K.In s.heap) (I : InstAt s.heap x ox D od) (h : Q (some (.ref D)) { s with toks := s.toks + 1 }) :
    wpAny (model prog w) A (getAttr? (.ref x) "__class__") Q E s := by
  obtain ⟨hp, g, d, t, os⟩ := s
  have l0 := I.type (M := model prog w)
  have l1 := looks_findIn (M := model prog w) X T.ga
  have l2 := looks_findIn (M := model prog w) X T.gg
  have l3 := xclass_get (M := model prog w) G T X I
  have sb : Looks (model prog w) hp (isInstance (.ref x) (.type "BaseException")) true := l0.andThen (looks_subIn X T.exC)
  have e0 : (false && onTheHeap (Value.builtin "BaseException.__getattribute__")) = false := rfl
  have e2 : (Value.builtin "BaseException.__getattribute__" == Value.builtin "object.__getattribute__") = false := by decide +kernel
  have e1 : (onTheHeap (Value.ref D) && Value.builtin "BaseException.__getattribute__" == Value.builtin "object.__getattribute__") = false := by
    rw [e2]
    rfl
  unfold getAttr? getAttrBy? getAttrBy
  refine wpAny_bind (wpAny_mkText (wpAny_bind (wpAny_attempt (wpAny_holding (wpAny_bind (l0.at (wpAny_bind (l1.at ?_))))))))
  show wpAny _ _ (if (onTheHeap (Value.ref D) && Value.builtin "BaseException.__getattribute__" == Value.builtin "object.__getattribute__") = true then _ else _) _ _ _
  rw [e1, if_neg Bool.false_ne_true]
  unfold getAttrByItsOwn hookBefore
  refine wpAny_bind ?_
  rw [if_pos (show onTheHeap (Value.ref D) = true from rfl)]
  refine l2.at (wpAny_bind (wpAny_attempt (wpAny_holding ?_)))
  unfold callGetattribute
  rw [e0, if_neg Bool.false_ne_true]
  unfold boundAndCalled
  rw [PySem.F.excAttr_ValueError.ga.bind (.ref x)]
  refine wpAny_bind (wpAny_pure ?_)
  show wpAny _ _ (call (.builtin "BaseException.__getattribute__") [.ref x, .str "__class__" t]) _ _ _
  refine wpAny_call (codeAny_call_builtin PySem.F.excAttr_ValueError.ga.plain PySem.F.entry_bexc_ga ?_)
  refine @check_slot (model prog w) _ _ ⟨hp, g, d, t + 1, os⟩ "BaseException.__getattribute__" "BaseException" "__getattribute__" (.ref x) [.str "__class__" t] [] _
    (by decide +kernel) (by decide +kernel) sb (PySem.F.args_bexc_ga (.ref x) (.str "__class__" t)) ?_
  unfold Builtin.«object.__getattribute__»
  refine wpAny_bind (wpAny_of_eq (a := ((Value.ref x : Value), [Value.str "__class__" t]))
    (by first | rfl | (simp only [slotArgs]; rfl)) ?_)
  refine wpAny_bind (wpAny_pure (wpAny_bind (l0.at (wpAny_bind (l3.at ?_)))))
  show wpAny _ _ (holding [Value.builtin "object.__class__"] (call (.builtin "getset_descriptor.__get__") [.builtin "object.__class__", .ref x, .ref D]) >>= ret) _ _ _
  refine wpAny_bind (wpAny_holding (wpAny_call (class_get (s := ⟨hp, g, d, t + 1, os⟩) (ox := ox) (od := od) X I T.hm ?_)))
  refine wpAny_pure ?_
  show wpAny _ _ (handedOut (.ref D)) _ _ _
  rw [handedOut_of (v := .ref D) rfl]
  first
    | exact wpAny_pure (wpAny_pure h)
    | exact wpAny_pure h
    | exact wpAny_pure (wpAny_bind (wpAny_pure (wpAny_pure h)))
theorem xkit (G : XcG K) (T : XcC b K D) : KitX K (.ref x) (.ref D) (fun h => InstAt h x ox D od) where
  ty := fun _ _ _ I => I.type
  it := fun _ _ X _ => by
    obtain ⟨cd, hc, _⟩ := any_some T.hdC
    unfold clsIn at hc
    split at hc
    · rename_i c' d' cd' sl' ho
      intro A' Q' E' s' k q
      unfold isType loadHead
      exact wpAny_bind (wpAny_loadPart (k _ _ (X _ _ ho)) (wpAny_pure q))
    · cases hc
  ne := fun h tp dd its n sl X htp => by
    obtain ⟨cd, hc, _⟩ := any_some T.hdC
    refine Bool.eq_false_iff.mpr fun q => ?_
    have e : D = tp := Value.ref.inj (beq_iff_eq.mp q)
    subst e
    unfold clsIn at hc
    split at hc
    · rename_i c' d' cd' sl' ho
      cases (X _ _ ho).symm.trans htp
    · cases hc
  ca := fun X I k => xkin_class G T X I k
end
/-- at a: an error of the class at C, with or without attributes -/
def XI (H : Hp) (a C : Addr) : Prop := H a = some (exo a C none) ∨ ∃ fs, XO H a C fs
section
variable {b : XB} {X : Cx}
/-- isinstance(e, c), e an own error -/
def rIsX (K : PySem.W.Frag) : List V → Hp → VK → Prop := fun xs H Q => ∃ (a D : Addr) (b : XB) (c : V) (cv : Value) (r : Bool), xs = [.ref a, c] ∧ XI H a D ∧ XcC b K D ∧ (∀ u, RelV c u → u = cv) ∧ kitOne K (.ref D) cv = some r ∧ Q (.bl r) H
theorem call_isX (G : XcG X.K) : CallR X (.builtin "isinstance") (rIsX X.K) := by
  intro pins s σ H xs us Q I r h
  obtain ⟨a, D, b, c, cv, rr, rfl, hi, T, hcv, e, q⟩ := h
  obtain ⟨u, u2, rfl, ra, rc⟩ := vals2 r
  obtain rfl : u = Value.ref a := ra
  obtain rfl := hcv _ rc
  obtain ⟨ox, od, J⟩ : ∃ ox od, InstAt s.heap a ox D od := by
    rcases hi with ea | ⟨fs, d, ea, ed⟩
    · obtain ⟨t1, ho⟩ := exo_at I.hok ea
      exact ⟨_, none, ho, rfl, rfl, trivial⟩
    · obtain ⟨t1, ho⟩ := exo_at I.hok ea
      obtain ⟨mA, ⟨oD, es, ep, hoD, _⟩, _⟩ := exd_at I.hok ed
      exact ⟨_, some oD, ho, rfl, rfl, hoD⟩
  exact kia_one (xkit G T) I.kIn J e (fun z => nomatch z) fun tk => ⟨.bl rr, H, I.kept (t' := tk) fun _ _ z => z, rfl, q⟩
/-- C(), C without an __init__ of its own -/
theorem pe_x0 {C : Addr} {bmB : List Value} {B newId initId : String} {x : Str} {p pos : Pos} (F : ExcBaseFacts B newId initId bmB) (q : excIn X.K C bmB newId = true) (gC : X.mg x = some (.ref C)) (kC : keepIn X.K (.ref C) = true) (hg : Gl X x)
    (hdb : (x == ("__debug__" : Str)) = false := by decide) :
    PE X (.Call (.Name x p) [] [] pos) (fun _ H Q => ∀ a, H a = none → Q (.ref a) (upd H a (exo a C none))) := by
  refine ⟨fun pins s σ H Q I h => wpAny_Call_Name_kw (ld_glob I hg gC ?_ hdb)⟩
  refine callWith_K0 I.kIn kC ?_
  obtain ⟨bm, N, nm, qn, bs, hdct, sn, sub, ab, col, dd, k0, k1, k2, k3, k5, mN, hC, hN, hni, T⟩ := exc_obj I.kIn q
  refine wpAny_call_exc_subT F T hC hN hni (fun h' a hm => ?_) (by show 0 ≤ sizeLine; omega)
  have hn : H a = none := I.hok.gone hm.new
  obtain ⟨t, ht, _, _⟩ := hm.there
  exact ⟨.ref a, upd H a (exo a C none), I.laidN hm.keeps hm.new hn (exo_ok ht), rfl, h a hn⟩
end
end Vx
/-! ## G7 -/
set_option Elab.async false
set_option linter.all false
set_option maxRecDepth 100000
set_option maxHeartbeats 4000000
namespace Vx
open PySem PySem.Spec PyProof.Rows L2
open PySem.W PySem.Calls PySem.Builtin.ObjectAttr

theorem funD_fun {K : PySem.W.Frag} {x q : Str} {st : Stmt} {f : Addr} {fd : FuncData} (F : FunD K x q (defArgs st) (defBody st) (defScope st) [] [] f fd) : Fun K x q st f fd := by
  obtain ⟨⟨oc, od, dV, kV, doc, pm, an, cdv, ct, osl, e, lk, hc, hD, _⟩, kp⟩ := F
  refine ⟨⟨oc, od, kV, doc, pm, an, cdv, ct, osl, ?_, lk, hc⟩, kp⟩
  rcases hD with ⟨_, e2⟩ | ⟨z, _⟩
  · rw [e, e2]
  · exact absurd rfl z

/-! ### the errors' __init__ -/
/-- the body of an __init__ that keeps one value, two values -/
def Init1 (f : Str) (body : List Stmt) : Prop := ∃ p1 p2 p3 p4, body = [.Assign [.Attribute (.Name "self" p1) f p2] (.Name f p3) p4]
def Init2 (f g : Str) (body : List Stmt) : Prop := ∃ p1 p2 p3 p4 q1 q2 q3 q4, body = [.Assign [.Attribute (.Name "self" p1) f p2] (.Name f p3) p4, .Assign [.Attribute (.Name "self" q1) g q2] (.Name g q3) q4]
def spX1 (b : XB) (K : PySem.W.Frag) (f : Str) : Sp := fun vs H Q _ => ∃ (a C : Addr) (y : V), vs = [.ref a, y] ∧ XcC b K C ∧ findIn K (.ref C) f = some none ∧ H a = some (exo a C none) ∧
  ∀ d, H d = none → d ≠ a → Q .non (upd (upd H d (exd d [(f, y)])) a (exo a C (some d)))
def spX2 (b : XB) (K : PySem.W.Frag) (f g : Str) : Sp := fun vs H Q _ => ∃ (a C : Addr) (y z : V), vs = [.ref a, y, z] ∧ XcC b K C ∧ findIn K (.ref C) f = some none ∧ findIn K (.ref C) g = some none ∧ H a = some (exo a C none) ∧
  ∀ d, H d = none → d ≠ a → Q .non (upd (upd (upd H d (exd d [(f, y)])) a (exo a C (some d))) d (exd d [(g, z), (f, y)]))
section
variable {P : Program} {w : World} {K : PySem.W.Frag} {mg : Str → Option Value} {base : Heap} {qual f g : Str} {params : Arguments} {body : List Stmt} {scope : Scope} {fI : Addr} {fd : FuncData} {b : XB}
theorem ok_init1 (F : FunD K "__init__" qual params body scope [] [] fI fd) (B : Init1 f body) (S : FnScope ["self", f] ["self", f] scope) (l1 : scope.names.lookup ("self" : Str) = some .local) (l2 : scope.names.lookup f = some .local)
    (e1 : (f == ("__debug__" : Str)) = false) (e2 : (f == ("__classdict__" : Str)) = false) : FnOk P w K mg base CX0 1 fI fd ["self", f] (spX1 b K f) := by
  refine F.ok S (fun vs H Q E h => ?_) (fun cdv A outer s H vs Q E hr h => ?_)
  · obtain ⟨a, C, y, rfl, _⟩ := h
    rfl
  · obtain ⟨a, C, y, rfl, T, hno, ha, k⟩ := h
    obtain ⟨p1, p2, p3, p4, rfl⟩ := B
    refine ⟨_, pss_one (ps_xs (b := b) (pe_var (i := 0) rfl (Or.inl l1)) (pe_var (i := 1) rfl (Or.inl l2) e1 e2)), ?_⟩
    exact ⟨y, rfl, .ref a, rfl, a, C, rfl, T, hno, .inl ⟨ha, fun d hd ne => k d hd ne⟩⟩
theorem ok_init2 (F : FunD K "__init__" qual params body scope [] [] fI fd) (B : Init2 f g body) (S : FnScope ["self", f, g] ["self", f, g] scope) (l1 : scope.names.lookup ("self" : Str) = some .local) (l2 : scope.names.lookup f = some .local) (l3 : scope.names.lookup g = some .local)
    (e1 : (f == ("__debug__" : Str)) = false) (e2 : (f == ("__classdict__" : Str)) = false) (e3 : (g == ("__debug__" : Str)) = false) (e4 : (g == ("__classdict__" : Str)) = false) : FnOk P w K mg base CX0 1 fI fd ["self", f, g] (spX2 b K f g) := by
  refine F.ok S (fun vs H Q E h => ?_) (fun cdv A outer s H vs Q E hr h => ?_)
  · obtain ⟨a, C, y, z, rfl, _⟩ := h
    rfl
  · obtain ⟨a, C, y, z, rfl, T, hno, hno2, ha, k⟩ := h
    obtain ⟨p1, p2, p3, p4, q1, q2, q3, q4, rfl⟩ := B
    refine ⟨_, pss_cons (ps_xs (b := b) (pe_var (i := 0) rfl (Or.inl l1)) (pe_var (i := 1) rfl (Or.inl l2) e1 e2)) (pss_one (ps_xs (b := b) (pe_var (i := 0) rfl (Or.inl l1)) (pe_var (i := 2) rfl (Or.inl l3) e3 e4))), ?_⟩
    refine ⟨y, rfl, .ref a, rfl, a, C, rfl, T, hno, .inl ⟨ha, fun d hd ne => ?_⟩⟩
    exact ⟨z, rfl, .ref a, rfl, a, C, rfl, T, hno2, .inr ⟨d, _, upd_same, (upd_ne ne).trans upd_same, by show 1 ≤ 900; omega, k d hd ne⟩⟩
end

/-! ### one error class by its facts -/
/-- one positional value and one by keyword; one and two, the later parameter first -/
def kw1 {α : Type} : List α → List α → List α
  | [a], [b] => [a, b]
  | _, _ => []
def kw2 {α : Type} : List α → List α → List α
  | [a], [z, y] => [a, y, z]
  | _, _ => []
theorem kw1_rel : ∀ {vs : List V} {us : List Value} {zs : List V} {ws : List Value}, Vals vs us → Vals zs ws → Vals (kw1 vs zs) (kw1 us ws)
  | _, _, _, _, .cons a .nil, .cons c .nil => .cons a (.cons c .nil)
  | _, _, _, _, .nil, _ => .nil
  | _, _, _, _, .cons _ (.cons _ _), _ => .nil
  | _, _, _, _, .cons _ .nil, .nil => .nil
  | _, _, _, _, .cons _ .nil, .cons _ (.cons _ _) => .nil
theorem kw2_rel : ∀ {vs : List V} {us : List Value} {zs : List V} {ws : List Value}, Vals vs us → Vals zs ws → Vals (kw2 vs zs) (kw2 us ws)
  | _, _, _, _, .cons a .nil, .cons c (.cons d .nil) => .cons a (.cons d (.cons c .nil))
  | _, _, _, _, .nil, _ => .nil
  | _, _, _, _, .cons _ (.cons _ _), _ => .nil
  | _, _, _, _, .cons _ .nil, .nil => .nil
  | _, _, _, _, .cons _ .nil, .cons _ .nil => .nil
  | _, _, _, _, .cons _ .nil, .cons _ (.cons _ (.cons _ _)) => .nil
/-- an error class with one attribute -/
structure ErrC (P : Program) (w : World) (K : PySem.W.Frag) (mg : Str → Option Value) (base : Heap) (b : XB) (x f : Str) (C : Addr) : Prop where
  T : XcC b K C
  hm : mg x = some (.ref C)
  no : findIn K (.ref C) f = some none
  ini : ∃ (fI : Addr) (fd : FuncData), findIn K (.ref C) "__init__" = some (some (.ref fI)) ∧ typeIn K (.ref fI) = some (.type "function") ∧ FnOk P w K mg base CX0 1 fI fd ["self", f] (spX1 b K f) ∧
    KBinds K fd ["self", f] [] (fun us _ => us) (fun vs _ => vs) ∧ KBinds K fd ["self", f] [f] kw1 kw1
/-- what an error's making asks: nothing, and gives the new error -/
def tE (C : Addr) (f : Str) (te : TE) : TE := fun σ H Q => te σ H fun y H1 => ∀ a H2, H1 a = none → Same H1 H2 → XO H2 a C [(f, y)] → Q (.ref a) H2
theorem same_mk {H : Hp} {a d C : Addr} {f : Str} {y : V} (ha : H a = none) (hd : upd H a (exo a C none) d = none) (ne : d ≠ a) : Same H (upd (upd (upd H a (exo a C none)) d (exd d [(f, y)])) a (exo a C (some d))) := fun c o e => by
  have hca : c ≠ a := ne_of_none e ha
  have hcd : c ≠ d := fun z => by
    rw [z] at e
    rw [upd_ne ne] at hd
    rw [hd] at e
    cases e
  rw [upd_ne hca, upd_ne hcd, upd_ne hca]
  exact e
/-- two attributes (f first), as the newest first -/
theorem same_mk2 {H : Hp} {a d C : Addr} {f g : Str} {y z : V} (ha : H a = none) (hd : upd H a (exo a C none) d = none) (ne : d ≠ a) :
    Same H (upd (upd (upd (upd H a (exo a C none)) d (exd d [(f, y)])) a (exo a C (some d))) d (exd d [(g, z), (f, y)])) := fun c o e => by
  have hcd : c ≠ d := fun z => by
    rw [z] at e
    rw [upd_ne ne] at hd
    rw [hd] at e
    cases e
  rw [upd_ne hcd]
  exact same_mk ha hd ne c o e
/-- an error class with two attributes -/
structure ErrC2 (P : Program) (w : World) (K : PySem.W.Frag) (mg : Str → Option Value) (base : Heap) (b : XB) (x f g : Str) (C : Addr) : Prop where
  T : XcC b K C
  hm : mg x = some (.ref C)
  no : findIn K (.ref C) f = some none
  no2 : findIn K (.ref C) g = some none
  ini : ∃ (fI : Addr) (fd : FuncData), findIn K (.ref C) "__init__" = some (some (.ref fI)) ∧ typeIn K (.ref fI) = some (.type "function") ∧ FnOk P w K mg base CX0 1 fI fd ["self", f, g] (spX2 b K f g) ∧
    KBinds K fd ["self", f, g] [] (fun us _ => us) (fun vs _ => vs) ∧ KBinds K fd ["self", f, g] [g, f] kw2 kw2
def one1 (A : V → Hp → Prop) : List V → Hp → Prop
  | [y], H => A y H
  | _, _ => False
def one2 (A : V → V → Hp → Prop) : List V → Hp → Prop
  | [y, z], H => A y z H
  | _, _ => False
def tE2 (C : Addr) (f g : Str) (te tz : TE) : TE := fun σ H Q => te σ H fun y H1 => tz σ H1 fun z H2 => ∀ a H3, H2 a = none → Same H2 H3 → XO H3 a C [(g, z), (f, y)] → Q (.ref a) H3
/-- the same, by keywords g = .., f = .. -/
def tE2r (C : Addr) (f g : Str) (tz te : TE) : TE := fun σ H Q => tz σ H fun z H1 => te σ H1 fun y H2 => ∀ a H3, H2 a = none → Same H2 H3 → XO H3 a C [(g, z), (f, y)] → Q (.ref a) H3
section
variable {b : XB} {X : Cx} {e e2 : Expr} {te tz : TE} {f g x : Str} {p p' kp kp2 pos : Pos} {C : Addr} {k : Nat}
theorem err_end {pins : List (Addr × Obj)} {σ : L2.St} {H : Hp} {Q : VK} {y : V} (T : ErrC X.prog X.w X.K X.mg X.base b x f C) (h : ∀ a H2, H a = none → Same H H2 → XO H2 a C [(f, y)] → Q (.ref a) H2) :
    ∀ a, H a = none → spX1 b X.K f [.ref a, y] (upd H a (exo a C none)) (fun v H3 => v = .non ∧ Q (.ref a) H3) (fun _ _ _ => False) := fun a ha =>
  ⟨a, C, y, rfl, T.T, T.no, upd_same, fun d hd ne => ⟨rfl, h a _ ha (same_mk ha hd ne) ⟨d, upd_same, (upd_ne ne).trans upd_same⟩⟩⟩
theorem pe_err (T : ErrC X.prog X.w X.K X.mg X.base b x f C) (hr : Room 2 X.A) (hg : Gl X x) (he : PE X e te)
    (hdb : (x == ("__debug__" : Str)) = false := by decide) (h1 : starEach [e] X.env = (false, eval e X.env) :: starEach [] X.env := by rfl)
    (h2 : (backTo pos (starEach [] X.env)).any (·.1) = false := by rfl) :
    PE X (.Call (.Name x p) [e] [] pos) (tE C f te) := by
  obtain ⟨fI, fd, i1, i2, F, kb, _⟩ := T.ini
  refine ⟨fun pins s σ H Q I h => wpAny_Call_Name_kw (ld_glob I hg T.hm ?_ hdb)⟩
  refine callWith_K (h₀ := X.base) I.ok.mod.kin T.T.kC (thn ((pa_cons he pa_nil h1).run pos pins s σ H (one1 fun y H1 => ∀ a H2, H1 a = none → Same H1 H2 → XO H2 a C [(f, y)] → Q (.ref a) H2) I h) fun us s1 z => ?_) h1 h2
  obtain ⟨vs, H1, I1, r1, q1⟩ := z
  match vs, q1 with
  | [y], q1 => exact ⟨I1.kIn, xmk_run (ks := []) (ws := []) T.T i1 i2 F hr kb pass0 I1 r1 .nil (by show 1 ≤ 1000; omega) (err_end (pins := pins) (σ := σ) T q1)⟩
/-- C(f = e) -/
theorem pe_errK (T : ErrC X.prog X.w X.K X.mg X.base b x f C) (hr : Room 2 X.A) (hg : Gl X x) (he : PE X e te)
    (hdb : (x == ("__debug__" : Str)) = false := by decide) (hall : (backToKw pos (keywordEach [⟨some f, e, kp⟩] X.env)).all (·.1.isSome) = true := by rfl)
    (hks : (backToKw pos (keywordEach [⟨some f, e, kp⟩] X.env)).filterMap (·.1) = [f] := by rfl)
    (hpl : ((backTo pos (starEach [] X.env)).any (·.1) || (backToKw pos (keywordEach [⟨some f, e, kp⟩] X.env)).any (·.1.isNone)) = false := by rfl) :
    PE X (.Call (.Name x p) [] [⟨some f, e, kp⟩] pos) (tE C f te) := by
  obtain ⟨fI, fd, i1, i2, F, _, kb⟩ := T.ini
  refine ⟨fun pins s σ H Q I h => wpAny_Call_Name_kw (ld_glob I hg T.hm ?_ hdb)⟩
  refine callWith_KW0 (h₀ := X.base) I.ok.mod.kin T.T.kC hall ?_ hpl
  refine thn ((pk_cons he pk_nil).run pos pins s σ H (one1 fun y H1 => ∀ a H2, H1 a = none → Same H1 H2 → XO H2 a C [(f, y)] → Q (.ref a) H2) I h) fun ws s1 z => ?_
  obtain ⟨vs, H1, I1, r1, q1⟩ := z
  rw [hks]
  match vs, q1 with
  | [y], q1 => exact ⟨I1.kIn, xmk_run (us := []) (vs := []) T.T i1 i2 F hr kb pass0 I1 .nil r1 (by show 0 ≤ 1000; omega) (err_end (pins := pins) (σ := σ) T q1)⟩
theorem err_end2 {pins : List (Addr × Obj)} {σ : L2.St} {H : Hp} {Q : VK} {y z : V} (T : ErrC2 X.prog X.w X.K X.mg X.base b x f g C) (h : ∀ a H2, H a = none → Same H H2 → XO H2 a C [(g, z), (f, y)] → Q (.ref a) H2) :
    ∀ a, H a = none → spX2 b X.K f g [.ref a, y, z] (upd H a (exo a C none)) (fun v H3 => v = .non ∧ Q (.ref a) H3) (fun _ _ _ => False) := fun a ha =>
  ⟨a, C, y, z, rfl, T.T, T.no, T.no2, upd_same, fun d hd ne => ⟨rfl, h a _ ha (same_mk2 ha hd ne) ⟨d, (upd_ne ne.symm).trans upd_same, upd_same⟩⟩⟩
/-- C(e, e2) -/
theorem pe_err2 (T : ErrC2 X.prog X.w X.K X.mg X.base b x f g C) (hr : Room 2 X.A) (hg : Gl X x) (he : PE X e te) (hz : PE X e2 tz)
    (hdb : (x == ("__debug__" : Str)) = false := by decide) (h1 : starEach [e, e2] X.env = (false, eval e X.env) :: starEach [e2] X.env := by rfl) (h0 : starEach [e2] X.env = (false, eval e2 X.env) :: starEach [] X.env := by rfl)
    (h2 : (backTo pos (starEach [e2] X.env)).any (·.1) = false := by rfl) :
    PE X (.Call (.Name x p) [e, e2] [] pos) (tE2 C f g te tz) := by
  obtain ⟨fI, fd, i1, i2, F, kb, _⟩ := T.ini
  refine ⟨fun pins s σ H Q I h => wpAny_Call_Name_kw (ld_glob I hg T.hm ?_ hdb)⟩
  refine callWith_K (h₀ := X.base) I.ok.mod.kin T.T.kC (thn ((pa_cons he (pa_cons hz pa_nil h0) h1).run pos pins s σ H (one2 fun y z H1 => ∀ a H2, H1 a = none → Same H1 H2 → XO H2 a C [(g, z), (f, y)] → Q (.ref a) H2) I h) fun us s1 z => ?_) h1 h2
  obtain ⟨vs, H1, I1, r1, q1⟩ := z
  match vs, q1 with
  | [y, z], q1 => exact ⟨I1.kIn, xmk_run (ks := []) (ws := []) T.T i1 i2 F hr kb pass0 I1 r1 .nil (by show 2 ≤ 1000; omega) (err_end2 (pins := pins) (σ := σ) T q1)⟩
/-- C(g = e2, f = e) -/
theorem pe_err2K (T : ErrC2 X.prog X.w X.K X.mg X.base b x f g C) (hr : Room 2 X.A) (hg : Gl X x) (hz : PE X e2 tz) (he : PE X e te)
    (hdb : (x == ("__debug__" : Str)) = false := by decide) (hall : (backToKw pos (keywordEach [⟨some g, e2, kp⟩, ⟨some f, e, kp2⟩] X.env)).all (·.1.isSome) = true := by rfl)
    (hks : (backToKw pos (keywordEach [⟨some g, e2, kp⟩, ⟨some f, e, kp2⟩] X.env)).filterMap (·.1) = [g, f] := by rfl)
    (hpl : ((backTo pos (starEach [] X.env)).any (·.1) || (backToKw pos (keywordEach [⟨some g, e2, kp⟩, ⟨some f, e, kp2⟩] X.env)).any (·.1.isNone)) = false := by rfl) :
    PE X (.Call (.Name x p) [] [⟨some g, e2, kp⟩, ⟨some f, e, kp2⟩] pos) (tE2r C f g tz te) := by
  obtain ⟨fI, fd, i1, i2, F, _, kb⟩ := T.ini
  refine ⟨fun pins s σ H Q I h => wpAny_Call_Name_kw (ld_glob I hg T.hm ?_ hdb)⟩
  refine callWith_KW0 (h₀ := X.base) I.ok.mod.kin T.T.kC hall ?_ hpl
  refine thn ((pk_cons hz (pk_cons he pk_nil)).run pos pins s σ H (one2 fun z y H1 => ∀ a H2, H1 a = none → Same H1 H2 → XO H2 a C [(g, z), (f, y)] → Q (.ref a) H2) I h) fun ws s1 zz => ?_
  obtain ⟨vs, H1, I1, r1, q1⟩ := zz
  rw [hks]
  match vs, q1 with
  | [z, y], q1 => exact ⟨I1.kIn, xmk_run (us := []) (vs := []) T.T i1 i2 F hr kb pass0 I1 .nil r1 (by show 0 ≤ 1000; omega) (err_end2 (pins := pins) (σ := σ) T q1)⟩
end
end Vx
/-! ## G8 -/
set_option Elab.async false
set_option linter.all false
set_option maxRecDepth 100000
set_option maxHeartbeats 4000000
namespace Vx
open PySem PySem.Spec PyProof.Rows L2 He
open PySem.W PySem.Calls PySem.Builtin.ObjectAttr

/-! ### the errors' facts, read off the head -/
def xcB (b : XB) (K : PySem.W.Frag) (C : Addr) : Bool :=
  excInitIn K C b.bm b.nw && (hasDictIn K C && (eqO (findIn K (.ref C) "__setattr__") (some (some (.builtin "object.__setattr__"))) && (decide (subIn K (.ref C) (.type "BaseException") = some true) &&
    (decide (typeIn K (.ref C) = some (.type "type")) && (keepIn K (.ref C) && (eqO (findIn K (.ref C) "__getattribute__") (some (some (.builtin "BaseException.__getattribute__"))) &&
      (eqO (findIn K (.ref C) "__getattr__") (some none) && (eqO (findIn K (.ref C) "__class__") (some (some (.builtin "object.__class__"))) && decide (mroIn K C (.type "object") = some true)))))))))
theorem xcB_ok {b : XB} {K : PySem.W.Frag} {C : Addr} (h : xcB b K C = true) : XcC b K C := by
  obtain ⟨h1, h⟩ := ba h
  obtain ⟨h2, h⟩ := ba h
  obtain ⟨h3, h⟩ := ba h
  obtain ⟨h4, h⟩ := ba h
  obtain ⟨h5, h⟩ := ba h
  obtain ⟨h6, h⟩ := ba h
  obtain ⟨h7, h⟩ := ba h
  obtain ⟨h8, h⟩ := ba h
  obtain ⟨h9, h10⟩ := ba h
  refine ⟨?_, eqO_ok h3, of_decide_eq_true h4, of_decide_eq_true h5, h6, eqO_ok h7, eqO_ok h8, h2, eqO_ok h9, of_decide_eq_true h10⟩
  unfold excInitIn at h1
  split at h1
  · rename_i dd cd sl ho
    split at h1
    · rename_i C' bm k0 k1 k2 k3 n k5 hm hs
      simp only [Bool.and_eq_true, beq_iff_eq, Bool.not_eq_true'] at h1
      obtain ⟨⟨⟨rfl, rfl⟩, hdel⟩, ht⟩ := h1
      obtain ⟨cd', hc, hhd⟩ := any_some h2
      have e0 : cd' = cd := by
        unfold clsIn at hc
        rw [ho] at hc
        exact (Option.some.inj hc).symm
      subst e0
      obtain ⟨nm, bs, mro, ns, qn, hd, sn, sub, ab, col, del⟩ := cd'
      dsimp only at hm hdel hhd
      subst hm hdel hhd
      have e1 : sl = #[k0, k1, k2, k3, some (.builtin b.nw), k5] := by
        obtain ⟨l⟩ := sl
        simp only at hs
        rw [hs]
      subst e1
      exact ⟨nm, qn, ns, bs, bm, sn, sub, ab, col, dd, k0, k1, k2, k3, k5, ho, ht⟩
    · cases h1
  · cases h1
def xgB (K : PySem.W.Frag) : Bool := decide (specialIn K (.builtin "object.__class__") "__get__" = some (some (.builtin "getset_descriptor.__get__"))) && decide (takesIn K (.builtin "object.__class__") = some true)
theorem xgB_ok {K : PySem.W.Frag} (h : xgB K = true) : XcG K := by
  obtain ⟨h1, h2⟩ := ba h
  exact ⟨of_decide_eq_true h1, of_decide_eq_true h2⟩
/-- one class of the errors: its name, its attribute (or two) -/
structure EC where
  x : Str
  b : XB
  f : Str := ""
  g : Str := ""
def EC.ok (K : PySem.W.Frag) (c : EC) : Bool := xcB c.b K (ga K c.x) && (eqO (nsIn K mainGlobals c.x) (some (some (.ref (ga K c.x)))) && (eqO (findIn K (.ref (ga K c.x)) c.f) (some none) && (eqO (findIn K (.ref (ga K c.x)) c.g) (some none) &&
  (eqO (findIn K (.ref (ga K c.x)) "__init__") (some (some (.ref (ma K (ga K c.x) "__init__")))) && decide (typeIn K (.ref (ma K (ga K c.x) "__init__")) = some (.type "function"))))))
/-- a class without an __init__ -/
def EC.ok0 (K : PySem.W.Frag) (c : EC) : Bool := xcB c.b K (ga K c.x) && (eqO (nsIn K mainGlobals c.x) (some (some (.ref (ga K c.x)))) && excIn K (ga K c.x) c.b.bm c.b.nw)
/-- isinstance among the classes: an error of the i-th one is just of that one -/
def isB (K : PySem.W.Frag) (cs : List Str) (x : Str) (d : Nat) (i : Nat) : List Str → Bool
  | [] => true
  | y :: r => decide (kitOne K (.ref (ga K x)) (.ref (ga K y)) = some (decide (i = d))) && isB K cs x d (i + 1) r
def isAll (K : PySem.W.Frag) (cs : List Str) (d : Nat) : List Str → Bool
  | [] => true
  | x :: r => isB K cs x d 0 cs && isAll K cs (d + 1) r

/-! ### the hook: the house's own, and one Bool besides -/
abbrev AlX : Type := Bool × AlD
def hookX (n : Nat) (xb : PySem.W.Frag → Bool) (fa : List Fa) (fn : List DefD) : PySem.W.Hook where
  α := AlX
  obs := fun s => (xb (frG s.heap.get? (asD s.heap.get? n)), obsDG n fa fn s.heap.get?)
  val := fun _ => (true, valD fn)
  says := fun _ h => ∃ K : PySem.W.Frag, K.In h ∧ xb K = true ∧ SaysD fa fn K
  of := fun _ _ e => ⟨_, frG_in, congrArg (fun z : AlX => z.1) e, congrArg (fun z : AlX => z.2) e⟩
  keeps := fun _ _ _ ⟨K, hK, c⟩ k => ⟨K, PySem.W.Frag.In.keeps hK k, c⟩
def obX (n : Nat) (xb : PySem.W.Frag → Bool) (fa : List Fa) (fn : List DefD) (s : PySem.W.SharedT) : AlX :=
  (xb (frG (HandSHeadRun.getT s) (asD (HandSHeadRun.getT s) n)), obsDG n fa fn (HandSHeadRun.getT s))
theorem obX_eq {n : Nat} {xb : PySem.W.Frag → Bool} {fa : List Fa} {fn : List DefD} (s : PySem.W.SharedT) : obX n xb fa fn s = (hookX n xb fa fn).obs s.abs := by
  have e : HandSHeadRun.getT s = s.abs.heap.get? := funext fun a => HandSHeadRun.getT_eq s a
  unfold obX
  rw [e]
  rfl

section
variable {P : Program} {w : World} {K : PySem.W.Frag} {mg : Str → Option Value} {base h : Heap} {fd : FuncData}
theorem dfl_none {dV : Value} (h : DflV K dV []) : dV = .none := by
  rcases h with ⟨_, z⟩ | ⟨z, _⟩
  · exact z
  · exact absurd rfl z
theorem errC_of (X : K.In h) (G : h.Ns mainGlobals mg) {c : EC} (o : c.ok K = true) {qual : Str} {params : Arguments} {body : List Stmt} {scope : Scope} (F : FunD K "__init__" qual params body scope [] [] (ma K (ga K c.x) "__init__") fd)
    (B : Init1 c.f body) (S : FnScope ["self", c.f] ["self", c.f] scope) (l1 : scope.names.lookup ("self" : Str) = some .local) (l2 : scope.names.lookup c.f = some .local)
    (e1 : (c.f == ("__debug__" : Str)) = false) (e2 : (c.f == ("__classdict__" : Str)) = false)
    (hb : ∀ (kV doc pm : Value) (an : Option Addr) (cdv ct u v : Value), bindArgs (PySem.W.fnOf "__init__" qual params body scope .none kV doc pm an cdv ct) ⟨[u, v], []⟩ = pure ((["self", c.f] : List Str).zip [u, v]))
    (hk : ∀ (kV doc pm : Value) (an : Option Addr) (cdv ct u v : Value), bindArgs (PySem.W.fnOf "__init__" qual params body scope .none kV doc pm an cdv ct) ⟨[u], [(c.f, v)]⟩ = pure ((["self", c.f] : List Str).zip [u, v])) :
    ErrC P w K mg base c.b c.x c.f (ga K c.x) := by
  obtain ⟨h1, o⟩ := ba o
  obtain ⟨h2, o⟩ := ba o
  obtain ⟨h3, o⟩ := ba o
  obtain ⟨h4, o⟩ := ba o
  obtain ⟨h5, h6⟩ := ba o
  refine ⟨xcB_ok h1, PySem.W.mg_of X G (eqO_ok h2), eqO_ok h3, _, fd, eqO_ok h5, of_decide_eq_true h6, ok_init1 F B S l1 l2 e1 e2, ?_, ?_⟩
  all_goals obtain ⟨⟨oc, od, dV, kV, doc, pm, an, cdv, ct, osl, e, lk, hc, hD, _⟩, kp⟩ := F
  all_goals have e0 := dfl_none hD
  all_goals subst e0 e
  · exact ⟨fun s us ws _ hl => match us, hl with
      | [u, v], _ => .of_eq (hb kV doc pm an cdv ct u v), fun r _ => r⟩
  · refine ⟨fun s us ws _ hl => ?_, kw1_rel⟩
    match us, ws, hl with
    | [u], [v], _ => exact .of_eq (hk kV doc pm an cdv ct u v)
theorem errC2_of (X : K.In h) (G : h.Ns mainGlobals mg) {c : EC} (o : c.ok K = true) {qual : Str} {params : Arguments} {body : List Stmt} {scope : Scope} (F : FunD K "__init__" qual params body scope [] [] (ma K (ga K c.x) "__init__") fd)
    (B : Init2 c.f c.g body) (S : FnScope ["self", c.f, c.g] ["self", c.f, c.g] scope) (l1 : scope.names.lookup ("self" : Str) = some .local) (l2 : scope.names.lookup c.f = some .local) (l3 : scope.names.lookup c.g = some .local)
    (e1 : (c.f == ("__debug__" : Str)) = false) (e2 : (c.f == ("__classdict__" : Str)) = false) (e3 : (c.g == ("__debug__" : Str)) = false) (e4 : (c.g == ("__classdict__" : Str)) = false)
    (hb : ∀ (kV doc pm : Value) (an : Option Addr) (cdv ct u v z : Value), bindArgs (PySem.W.fnOf "__init__" qual params body scope .none kV doc pm an cdv ct) ⟨[u, v, z], []⟩ = pure ((["self", c.f, c.g] : List Str).zip [u, v, z]))
    (hk : ∀ (kV doc pm : Value) (an : Option Addr) (cdv ct u v z : Value), bindArgs (PySem.W.fnOf "__init__" qual params body scope .none kV doc pm an cdv ct) ⟨[u], [(c.g, z), (c.f, v)]⟩ = pure ((["self", c.f, c.g] : List Str).zip [u, v, z])) :
    ErrC2 P w K mg base c.b c.x c.f c.g (ga K c.x) := by
  obtain ⟨h1, o⟩ := ba o
  obtain ⟨h2, o⟩ := ba o
  obtain ⟨h3, o⟩ := ba o
  obtain ⟨h4, o⟩ := ba o
  obtain ⟨h5, h6⟩ := ba o
  refine ⟨xcB_ok h1, PySem.W.mg_of X G (eqO_ok h2), eqO_ok h3, eqO_ok h4, _, fd, eqO_ok h5, of_decide_eq_true h6, ok_init2 F B S l1 l2 l3 e1 e2 e3 e4, ?_, ?_⟩
  all_goals obtain ⟨⟨oc, od, dV, kV, doc, pm, an, cdv, ct, osl, e, lk, hc, hD, _⟩, kp⟩ := F
  all_goals have e0 := dfl_none hD
  all_goals subst e0 e
  · exact ⟨fun s us ws _ hl => match us, hl with
      | [u, v, z], _ => .of_eq (hb kV doc pm an cdv ct u v z), fun r _ => r⟩
  · refine ⟨fun s us ws _ hl => ?_, kw2_rel⟩
    match us, ws, hl with
    | [u], [z, v], _ => exact .of_eq (hk kV doc pm an cdv ct u v z)
theorem isB_ok {cs : List Str} {x : Str} {d : Nat} : ∀ {l : List Str} {i j : Nat} {y : Str}, isB K cs x d i l = true → l[j]? = some y → kitOne K (.ref (ga K x)) (.ref (ga K y)) = some (decide (i + j = d))
  | [], _, _, _, _, e => by simp at e
  | z :: l, i, 0, y, h, e => by
    simp at e
    subst e
    exact of_decide_eq_true (ba h).1
  | z :: l, i, j + 1, y, h, e => by
    have q := isB_ok (j := j) (ba h).2 (by simpa using e)
    rw [show i + (j + 1) = i + 1 + j by omega]
    exact q
theorem isAll_ok {cs : List Str} : ∀ {l : List Str} {d i : Nat} {x : Str}, isAll K cs d l = true → l[i]? = some x → ∀ {j : Nat} {y : Str}, cs[j]? = some y → kitOne K (.ref (ga K x)) (.ref (ga K y)) = some (decide (j = d + i))
  | [], _, _, _, _, e, _, _, _ => by simp at e
  | z :: l, d, 0, x, h, e, j, y, e2 => by
    simp at e
    subst e
    have q := isB_ok (ba h).1 e2
    rw [Nat.zero_add] at q
    exact q
  | z :: l, d, i + 1, x, h, e, j, y, e2 => by
    have q := isAll_ok (i := i) (ba h).2 (by simpa using e) e2
    rw [show d + (i + 1) = d + 1 + i by omega]
    exact q
end
end Vx
/-! ## G9 -/
set_option Elab.async false
set_option linter.all false
set_option maxRecDepth 100000
set_option maxHeartbeats 4000000
namespace Vx
open PySem PySem.Spec PyProof.Rows L2 He
open PySem.W PySem.Calls
/-- the pot at p: two counts -/
def Pot (p : Addr) (H : Hp) : Prop := ∃ a b : Int, H p = some (.lst [.int a, .int b]) ∧ 0 ≤ a ∧ 0 ≤ b ∧ b < 2147483648
/-- the heap without the pot -/
def off (p : Addr) (H : Hp) : Hp := fun b => if b = p then none else H b
theorem off_ne {p a : Addr} {H : Hp} (h : a ≠ p) : off p H a = H a := if_neg h
theorem off_at {p : Addr} {H : Hp} : off p H p = none := if_pos rfl
theorem off_some {p a : Addr} {H : Hp} {o : HO} (h : off p H a = some o) : a ≠ p ∧ H a = some o := by
  by_cases e : a = p
  · rw [e, off_at] at h
    cases h
  · rw [off_ne e] at h
    exact ⟨e, h⟩
theorem off_same {p : Addr} {H : Hp} : Same (off p H) H := fun a o h => (off_some h).2
/-- all but the pot is kept, and the pot is one -/
structure Stp (p : Addr) (H H' : Hp) : Prop where
  pot : Pot p H'
  k : Same (off p H) (off p H')
theorem same_off {p : Addr} {H H' : Hp} (h : Same H H') : Same (off p H) (off p H') := fun a o e => by
  obtain ⟨n, e⟩ := off_some e
  rw [off_ne n]
  exact h a o e
theorem Pot.keep {p : Addr} {H H' : Hp} (h : Pot p H) (s : Same H H') : Pot p H' := by
  obtain ⟨a, b, e, r⟩ := h
  exact ⟨a, b, s _ _ e, r⟩
theorem Stp.refl {p : Addr} {H : Hp} (h : Pot p H) : Stp p H H := ⟨h, Same.refl _⟩
theorem Stp.trans {p : Addr} {H H1 H2 : Hp} (a : Stp p H H1) (b : Stp p H1 H2) : Stp p H H2 := ⟨b.pot, a.k.trans b.k⟩
theorem Stp.same {p : Addr} {H H1 H2 : Hp} (a : Stp p H H1) (b : Same H1 H2) : Stp p H H2 := ⟨a.pot.keep b, a.k.trans (same_off b)⟩
theorem same_new {H : Hp} {a : Addr} {o : HO} (h : H a = none) : Same H (upd H a o) := fun b u e => by
  rw [upd_ne (ne_of_none e h)]
  exact e
/-- what is written at the pot -/
theorem Stp.put {p : Addr} {H H1 : Hp} {a b : Int} (s : Same (off p H) (off p H1)) (h0 : 0 ≤ a) (h1 : 0 ≤ b) (h2 : b < 2147483648) : Stp p H (upd H1 p (.lst [.int a, .int b])) :=
  ⟨⟨a, b, upd_same, h0, h1, h2⟩, fun c o e => by
    have q := s c o e
    obtain ⟨n, q⟩ := off_some q
    rw [off_ne n, upd_ne n]
    exact q⟩

theorem log2_small {n : Int} (h1 : 1 ≤ n) (h2 : n < 2 ^ 200) : n.natAbs.log2 < 9000 := by
  have h3 : n.natAbs < 2 ^ 200 := by omega
  exact Nat.lt_of_lt_of_le (PySem.Flt.log2_lt_of (by decide) h3) (by decide)

/-! ### a def of the text, as its callers see it -/
/-- the built-ins' names are free -/
structure BI (mg : Str → Option Value) : Prop where
  abs : mg "abs" = none
  max : mg "max" = none
  min : mg "min" = none
  int : mg "int" = none
  str : mg "str" = none
  len : mg "len" = none
  divmod : mg "divmod" = none
  isinstance : mg "isinstance" = none
  repr : mg "repr" = none
  all : mg "all" = none
  any : mg "any" = none
  sorted : mg "sorted" = none
  set : mg "set" = none
  list : mg "list" = none
  tuple : mg "tuple" = none
  dict : mg "dict" = none
  range : mg "range" = none
  enumerate : mg "enumerate" = none
  zip : mg "zip" = none
  sum : mg "sum" = none
  bool : mg "bool" = none
  reversed : mg "reversed" = none
  ValueError : mg "ValueError" = none
  LookupError : mg "LookupError" = none
  RuntimeError : mg "RuntimeError" = none
  ArithmeticError : mg "ArithmeticError" = none
/-- their facts, in that order -/
def biFa : List Fa := [.free "abs", .free "max", .free "min", .free "int", .free "str", .free "len", .free "divmod", .free "isinstance", .free "repr", .free "all", .free "any", .free "sorted", .free "set", .free "list", .free "tuple", .free "dict", .free "range", .free "enumerate", .free "zip", .free "sum", .free "bool", .free "reversed", .free "ValueError", .free "LookupError", .free "RuntimeError", .free "ArithmeticError"]
theorem bi_of {K : PySem.W.Frag} {mg : Str → Option Value} {h : Heap} (X : K.In h) (G : h.Ns mainGlobals mg) (c : ∀ (i : Nat) (f : Fa), biFa[i]? = some f → f.ok K = true) : BI mg :=
  ⟨free_ok X G (c 0 _ rfl), free_ok X G (c 1 _ rfl), free_ok X G (c 2 _ rfl), free_ok X G (c 3 _ rfl), free_ok X G (c 4 _ rfl), free_ok X G (c 5 _ rfl), free_ok X G (c 6 _ rfl), free_ok X G (c 7 _ rfl), free_ok X G (c 8 _ rfl), free_ok X G (c 9 _ rfl), free_ok X G (c 10 _ rfl), free_ok X G (c 11 _ rfl), free_ok X G (c 12 _ rfl), free_ok X G (c 13 _ rfl), free_ok X G (c 14 _ rfl), free_ok X G (c 15 _ rfl), free_ok X G (c 16 _ rfl), free_ok X G (c 17 _ rfl), free_ok X G (c 18 _ rfl), free_ok X G (c 19 _ rfl), free_ok X G (c 20 _ rfl), free_ok X G (c 21 _ rfl), free_ok X G (c 22 _ rfl), free_ok X G (c 23 _ rfl), free_ok X G (c 24 _ rfl), free_ok X G (c 25 _ rfl)⟩
theorem bt_abs : bootBuiltins "abs" = some (.builtin "abs") := by decide +kernel
theorem bt_max : bootBuiltins "max" = some (.builtin "max") := by decide +kernel
theorem bt_min : bootBuiltins "min" = some (.builtin "min") := by decide +kernel
theorem bt_len : bootBuiltins "len" = some (.builtin "len") := by decide +kernel
theorem bt_divmod : bootBuiltins "divmod" = some (.builtin "divmod") := by decide +kernel
theorem bt_isinstance : bootBuiltins "isinstance" = some (.builtin "isinstance") := by decide +kernel
theorem bt_repr : bootBuiltins "repr" = some (.builtin "repr") := by decide +kernel
theorem bt_all : bootBuiltins "all" = some (.builtin "all") := by decide +kernel
theorem bt_any : bootBuiltins "any" = some (.builtin "any") := by decide +kernel
theorem bt_sorted : bootBuiltins "sorted" = some (.builtin "sorted") := by decide +kernel
theorem bt_sum : bootBuiltins "sum" = some (.builtin "sum") := by decide +kernel
theorem bt_int : bootBuiltins "int" = some (.type "int") := by decide +kernel
theorem bt_str : bootBuiltins "str" = some (.type "str") := by decide +kernel
theorem bt_set : bootBuiltins "set" = some (.type "set") := by decide +kernel
theorem bt_list : bootBuiltins "list" = some (.type "list") := by decide +kernel
theorem bt_tuple : bootBuiltins "tuple" = some (.type "tuple") := by decide +kernel
theorem bt_dict : bootBuiltins "dict" = some (.type "dict") := by decide +kernel
theorem bt_range : bootBuiltins "range" = some (.type "range") := by decide +kernel
theorem bt_enumerate : bootBuiltins "enumerate" = some (.type "enumerate") := by decide +kernel
theorem bt_zip : bootBuiltins "zip" = some (.type "zip") := by decide +kernel
theorem bt_bool : bootBuiltins "bool" = some (.type "bool") := by decide +kernel
theorem bt_reversed : bootBuiltins "reversed" = some (.type "reversed") := by decide +kernel
theorem bt_ValueError : bootBuiltins "ValueError" = some (.type "ValueError") := by decide +kernel
theorem bt_LookupError : bootBuiltins "LookupError" = some (.type "LookupError") := by decide +kernel
theorem bt_RuntimeError : bootBuiltins "RuntimeError" = some (.type "RuntimeError") := by decide +kernel
theorem bt_ArithmeticError : bootBuiltins "ArithmeticError" = some (.type "ArithmeticError") := by decide +kernel
/-- where the def x stands -/
structure At (K : PySem.W.Frag) (mg : Str → Option Value) (x : Str) (st : Stmt) : Prop where
  ex : ∃ (f : Addr) (fd : FuncData), Fun K x x st f fd ∧ mg x = some (.ref f)
/-- the def x, wherever no repr is open: its promise -/
structure Cd (P : Program) (w : World) (K : PySem.W.Frag) (mg : Str → Option Value) (base : Heap) (k : Nat) (x : Str) (ps : List Str) (sp : Sp) : Prop where
  ex : ∃ (f : Addr) (fd : FuncData), FnG P w K mg base CX0 k f fd ps sp ∧ mg x = some (.ref f) ∧ keepIn K (.ref f) = true ∧ Binds K fd ps []
section
variable {P : Program} {w : World} {K : PySem.W.Frag} {mg : Str → Option Value} {base : Heap} {k : Nat} {x : Str} {ps : List Str} {sp : Sp} {st : Stmt} {N : List Str}
theorem cd_mk (F : At K mg x st) (S : FnScope N ps (defScope st)) (len : ∀ vs H Q E, sp vs H Q E → vs.length = ps.length)
    (hb : ∀ (kV doc pm : Value) (an : Option Addr) (cdv ct : Value) (us : List Value), us.length = ps.length → bindArgs (PySem.W.fnOf x x (defArgs st) (defBody st) (defScope st) .none kV doc pm an cdv ct) ⟨us, []⟩ = pure (ps.zip us))
    (hbody : ∀ (f : Addr) (cdv : Value) (A : Around) (outer : List Env) (s : Shared) (H : Hp) (vs : List V) (Q : VK) (E : XK),
      Room k (A.deeper (envOfC x (defScope st) s.heap.objs.size f cdv)) → Gd (A.deeper (envOfC x (defScope st) s.heap.objs.size f cdv)) → sp vs H Q E →
      ∃ t, PSs (cxOf CX0 P w K mg base N x (defScope st) f cdv A outer s H E).nox (defBody st) t ∧ t { nx := fun _ H' => Q .non H', rt := Q } (start N vs) H) :
    Cd P w K mg base (k + 1) x ps sp := by
  obtain ⟨f, fd, F, gf⟩ := F.ex
  refine ⟨f, fd, okG F S len (fun cdv A outer s H vs Q E hr hG h => ?_), gf, F.kp, F.binds hb⟩
  obtain ⟨t, h1, h2⟩ := hbody f cdv A outer s H vs Q E hr hG h
  exact ⟨t, h1.nox, h2⟩
theorem Cd.up {j : Nat} (C : Cd P w K mg base j x ps sp) (h : j ≤ k) : Cd P w K mg base k x ps sp := by
  obtain ⟨f, fd, F, r⟩ := C.ex
  exact ⟨f, fd, F.up h, r⟩
end
section
variable {X : Cx} {k : Nat} {x : Str} {ps : List Str} {sp : Sp} {p pos : Pos} {e : Expr} {es : List Expr} {t : TA}
/-- f(e, ..) -/
theorem pe_cd (C : Cd X.prog X.w X.K X.mg X.base k x ps sp) (hr : Room k X.A) (hG : Gd X.A) (hg : Gl X x) (ha : PA X (e :: es) t)
    (hdb : (x == ("__debug__" : Str)) = false := by decide) (he : starEach (e :: es) X.env = (false, eval e X.env) :: starEach es X.env := by rfl)
    (hpl : (backTo pos (starEach es X.env)).any (·.1) = false := by rfl) : PE X (.Call (.Name x p) (e :: es) [] pos) (tCall sp [] E0 t) := by
  obtain ⟨f, fd, F, gf, kf, b⟩ := C.ex
  exact pe_callG F hr hG hg gf kf b .nil pass0 ha hdb he hpl
end
end Vx
namespace Vx
open PySem PySem.Spec PyProof.Rows L2 He
open PySem.W PySem.Calls
/-! ### data beside a pot -/
section
variable {K : PySem.W.Frag} {p a : Addr} {H H' : Hp} {xs : List V} {ds : List PyData} {o : HO}
theorem Pot.new (h : Pot p H) (n : H a = none) : a ≠ p := by
  obtain ⟨x, y, e, _⟩ := h
  exact (ne_of_none e n).symm
theorem Pot.upd (h : Pot p H) (n : H a = none) : Pot p (upd H a o) := h.keep (same_new n)
theorem stp_new (h : Pot p H) (n : H a = none) : Stp p H (upd H a o) := (Stp.refl h).same (same_new n)
theorem off_new (h : Pot p H) (n : H a = none) : off p (upd H a o) a = some o := by rw [off_ne (h.new n), upd_same]
theorem Da.newL (h : Pot p H) (n : H a = none) (g : Das K (off p H) xs ds) : Da K (off p (upd H a (.lst xs))) (.ref a) (.list ds) :=
  .lst (SqL.of (off_new h n)) (g.mono (stp_new h n).k)
theorem Da.newT (h : Pot p H) (n : H a = none) (g : Das K (off p H) xs ds) : Da K (off p (upd H a (.tup xs))) (.ref a) (.tuple ds) :=
  .tup (SqT.of (off_new h n)) (g.mono (stp_new h n).k)
theorem Das.mem : ∀ {vs : List V} {ds : List PyData} {v : V}, Das K H vs ds → v ∈ vs → ∃ d ∈ ds, Da K H v d
  | _, _, _, .nil, h => nomatch h
  | _, _, v, .cons (d := d) a b, h => by
    rcases List.mem_cons.mp h with rfl | h
    · exact ⟨d, List.mem_cons_self .., a⟩
    · obtain ⟨e, he, r⟩ := Das.mem b h
      exact ⟨e, List.mem_cons_of_mem _ he, r⟩
end
/-- data of a small text -/
def Sm (n : Nat) (d : PyData) : Prop := d.showable = true ∧ d.depth ≤ 20 ∧ d.shown.length ≤ n
/-! ### the helpers of every law: a pot, a draw, a choice -/
def spDraw : Sp := fun vs H Q _ => ∃ (p : Addr) (n : Int), vs = [.ref p, .int n] ∧ Pot p H ∧ 1 ≤ n ∧ n < 2 ^ 200 ∧ ∀ (d : Int) H', Stp p H H' → 0 ≤ d → d < n → Q (.int d) H'
def spPick (K : PySem.W.Frag) : Sp := fun vs H Q _ => ∃ (p m : Addr) (xs : List V), vs = [.ref p, .ref m] ∧ Pot p H ∧ SqL K (off p H) m xs ∧ 1 ≤ xs.length ∧ xs.length ≤ 1000 ∧ ∀ (x : V) H', Stp p H H' → x ∈ xs → Q x H'
def spPot (K : PySem.W.Frag) : Sp := fun vs H Q _ => ∃ (a : Addr) (k : Int) (ns : List Int), vs = [.ref a, .int k] ∧ SqL K H a (ns.map V.int) ∧ 0 ≤ k ∧ k < 1000 ∧ ns.length ≤ 1000 ∧ ∀ p H', H p = none → Same H H' → Pot p H' → Q (.ref p) H'
end Vx
/-! ## G10 -/
set_option Elab.async false
set_option linter.all false
set_option maxRecDepth 100000
set_option maxHeartbeats 4000000
namespace Vx
open PySem PySem.Spec PyProof.Rows L2 He
open PySem.W PySem.Calls

/-- a class without an __init__ of its own -/
structure Err0 (K : PySem.W.Frag) (mg : Str → Option Value) (b : XB) (x : Str) (C : Addr) : Prop where
  T : XcC b K C
  hm : mg x = some (.ref C)
  q : excIn K C b.bm b.nw = true
theorem err0_of {K : PySem.W.Frag} {mg : Str → Option Value} {h : Heap} (X : K.In h) (G : h.Ns mainGlobals mg) {c : EC} (o : c.ok0 K = true) : Err0 K mg c.b c.x (ga K c.x) := by
  obtain ⟨h1, o⟩ := ba o
  obtain ⟨h2, h3⟩ := ba o
  exact ⟨xcB_ok h1, PySem.W.mg_of X G (eqO_ok h2), h3⟩
section
variable {b : XB} {X : Cx} {x : Str} {p pos : Pos} {C : Addr}
theorem pe_err0 (T : Err0 X.K X.mg b x C) (hg : Gl X x) (hdb : (x == ("__debug__" : Str)) = false := by decide) :
    PE X (.Call (.Name x p) [] [] pos) (fun _ H Q => ∀ a, H a = none → Q (.ref a) (upd H a (exo a C none))) := pe_x0 b.F T.q T.hm T.T.kC hg hdb
end

/-! ### lists of errors -/
theorem XO.mono {H H' : Hp} (s : Same H H') {a C : Addr} {fs : List (Str × V)} (h : XO H a C fs) : XO H' a C fs := by
  obtain ⟨d, h1, h2⟩ := h
  exact ⟨d, s _ _ h1, s _ _ h2⟩
theorem XI.mono {H H' : Hp} (s : Same H H') {a C : Addr} (h : XI H a C) : XI H' a C := by
  rcases h with h | ⟨fs, h⟩
  · exact .inl (s _ _ h)
  · exact .inr ⟨fs, h.mono s⟩
/-- at as: errors of these classes, each with y at its attribute -/
abbrev XOs (H : Hp) (y : V) : List Addr → List (Addr × Str) → Prop := Paired fun a p => XO H a p.1 [(p.2, y)]
theorem XOs.mono {H H' : Hp} (s : Same H H') {y : V} : ∀ {as : List Addr} {L : List (Addr × Str)}, XOs H y as L → XOs H' y as L
  | _, _, .nil => .nil
  | _, _, .cons a r => .cons (a.mono s) (XOs.mono s r)
theorem paired_app {α β : Type} {F : α → β → Prop} : ∀ {as bs : List α} {L M : List β}, Paired F as L → Paired F bs M → Paired F (as ++ bs) (L ++ M)
  | _, _, _, _, .nil, h => h
  | _, _, _, _, .cons a r, h => .cons a (paired_app r h)
theorem paired_len {α β : Type} {F : α → β → Prop} : ∀ {as : List α} {L : List β}, Paired F as L → as.length = L.length
  | _, _, .nil => rfl
  | _, _, .cons _ r => by rw [List.length_cons, List.length_cons, paired_len r]
theorem paired_take {α β : Type} {F : α → β → Prop} : ∀ {as : List α} {L : List β} (n : Nat), Paired F as L → Paired F (as.take n) (L.take n)
  | _, _, 0, _ => .nil
  | _, _, _ + 1, .nil => .nil
  | _, _, n + 1, .cons a r => .cons a (paired_take n r)
theorem paired_drop {α β : Type} {F : α → β → Prop} : ∀ {as : List α} {L : List β} (n : Nat), Paired F as L → Paired F (as.drop n) (L.drop n)
  | _, _, 0, h => h
  | _, _, _ + 1, .nil => .nil
  | _, _, n + 1, .cons a r => paired_drop n r
theorem paired_at {α β : Type} {F : α → β → Prop} : ∀ {as : List α} {L : List β} {i : Nat} {a : α}, Paired F as L → as[i]? = some a → ∃ b, L[i]? = some b ∧ F a b
  | _, _, _, _, .nil, e => by simp at e
  | _, _, 0, _, .cons (b := b) h r, e => by
    simp at e
    subst e
    exact ⟨b, rfl, h⟩
  | _, _, i + 1, _, .cons h r, e => by
    obtain ⟨b, h1, h2⟩ := paired_at (i := i) r (by simpa using e)
    exact ⟨b, by simpa using h1, h2⟩
/-- C1(y), C2(y), .. -/
def tErrs : List (Addr × Str) → TA
  | [] => tNil
  | p :: L => tCons (tE p.1 p.2 (tVar 0)) (tErrs L)
section
variable {σ : L2.St} {H : Hp} {y : V}
theorem errs_read : ∀ {L : List (Addr × Str)} {H : Hp} {Q : List V → Hp → Prop}, σ[0]? = some (some y) → (∀ as H', Same H H' → XOs H' y as L → Q (as.map V.ref) H') → tErrs L σ H Q
  | [], H, _, _, q => q [] H (Same.refl _) .nil
  | p :: L, H, Q, h0, q => by
    refine ⟨y, h0, fun a H2 _ s x => ?_⟩
    refine errs_read (L := L) h0 fun as H3 s3 r => ?_
    exact q (a :: as) H3 (s.trans s3) (.cons (x.mono s3) r)
theorem lst_read {L : List (Addr × Str)} {Q : VK} (h0 : σ[0]? = some (some y)) (hl : L.length ≤ 1000)
    (q : ∀ p as H', H p = none → Same H H' → H' p = some (.lst (as.map V.ref)) → XOs H' y as L → Q (.ref p) H') : tLst (tErrs L) σ H Q := by
  refine errs_read h0 fun as H1 s r => ⟨by rw [List.length_map, paired_len r]; exact Nat.le_of_lt (small1000 hl), fun p hp => ?_⟩
  exact q p as _ (s.free hp) (s.trans (same_new hp)) upd_same (r.mono (same_new hp))
theorem cat_read {L M : List (Addr × Str)} {Q : VK} {p0 : Addr} {as : List Addr} (h0 : σ[0]? = some (some y)) (h1 : σ[1]? = some (some (.ref p0))) (hp0 : H p0 = some (.lst (as.map V.ref))) (r0 : XOs H y as M)
    (hl : M.length ≤ 500) (hl2 : L.length ≤ 500) (q : ∀ p bs H', H p = none → Same H H' → H' p = some (.lst (bs.map V.ref)) → XOs H' y bs (M ++ L) → Q (.ref p) H') : tOp rCat (tVar 1) (tLst (tErrs L)) σ H Q := by
  refine ⟨_, h1, lst_read (L := L) h0 (by omega) fun p bs H1 hp s e r => ?_⟩
  refine ⟨p0, p, _, _, rfl, rfl, s _ _ hp0, e, ?_, fun p2 hp2 => ?_⟩
  · have e1 := paired_len r0
    have e2 := paired_len r
    rw [List.length_map, List.length_map]
    exact Nat.le_of_lt (small1000 (by omega))
  · refine q p2 (as ++ bs) _ (s.free hp2) (s.trans (same_new hp2)) ?_ (paired_app (r0.mono (s.trans (same_new hp2))) (r.mono (same_new hp2)))
    rw [upd_same, List.map_append]
theorem asg_lst {L : List (Addr × Str)} {t : TS} {D : Ends} (h0 : σ[0]? = some (some y)) (hl : L.length ≤ 1000)
    (q : ∀ p as H', H p = none → Same H H' → H' p = some (.lst (as.map V.ref)) → XOs H' y as L → t D (σ.set 1 (some (.ref p))) H') : tSeq (tAsg (tLst (tErrs L)) (gName 1)) t D σ H :=
  lst_read (L := L) (Q := fun v H' => t D (σ.set 1 (some v)) H') h0 hl q
theorem asg_cat {L M : List (Addr × Str)} {t : TS} {D : Ends} {p0 : Addr} {as : List Addr} (h0 : σ[0]? = some (some y)) (h1 : σ[1]? = some (some (.ref p0))) (hp0 : H p0 = some (.lst (as.map V.ref))) (r0 : XOs H y as M)
    (hl : M.length ≤ 500) (hl2 : L.length ≤ 500) (q : ∀ p bs H', H p = none → Same H H' → H' p = some (.lst (bs.map V.ref)) → XOs H' y bs (M ++ L) → t D (σ.set 1 (some (.ref p))) H') :
    tSeq (tAsg (tOp rCat (tVar 1) (tLst (tErrs L))) (gName 1)) t D σ H :=
  cat_read (L := L) (Q := fun v H' => t D (σ.set 1 (some v)) H') h0 h1 hp0 r0 hl hl2 q
theorem ret_cat {L M : List (Addr × Str)} {D : Ends} {p0 : Addr} {as : List Addr} (h0 : σ[0]? = some (some y)) (h1 : σ[1]? = some (some (.ref p0))) (hp0 : H p0 = some (.lst (as.map V.ref))) (r0 : XOs H y as M)
    (hl : M.length ≤ 500) (hl2 : L.length ≤ 500) (q : ∀ p bs H', H p = none → Same H H' → H' p = some (.lst (bs.map V.ref)) → XOs H' y bs (M ++ L) → D.rt (.ref p) H') :
    tRet (tOp rCat (tVar 1) (tLst (tErrs L))) D σ H :=
  cat_read (L := L) (Q := D.rt) h0 h1 hp0 r0 hl hl2 q
end
/-- a def that makes errors of its one argument -/
def spErrs (L : List (Addr × Str)) : Sp := fun vs H Q _ => ∃ y, vs = [y] ∧ ∀ p as H', H p = none → Same H H' → H' p = some (.lst (as.map V.ref)) → XOs H' y as L → Q (.ref p) H'
end Vx
/-! ## G11 -/
set_option Elab.async false
set_option linter.all false
set_option maxRecDepth 100000
set_option maxHeartbeats 4000000
namespace Vx
open PySem PySem.Spec PyProof.Rows L2 He
open PySem.W PySem.Calls
/-- a class that isinstance is asked of: an own one, a built-in one -/
inductive CE where
  | own (x : Str)
  | ty (n : String)
def CE.v (K : PySem.W.Frag) : CE → V
  | .own x => .ref (ga K x)
  | .ty n => .ty n
def CE.u (K : PySem.W.Frag) : CE → Value
  | .own x => .ref (ga K x)
  | .ty n => .type n
theorem CE.rel {K : PySem.W.Frag} : ∀ {c : CE} {u : Value}, RelV (c.v K) u → u = c.u K
  | .own _, _, r => r
  | .ty _, _, r => r
/-- isinstance(e, C1), isinstance(e, C2), .. -/
def tIs (K : PySem.W.Frag) : List CE → TA
  | [] => tNil
  | c :: L => tCons (tCB (rIsX K) (tCons (tVar 0) (tCons (tC (c.v K)) tNil))) (tIs K L)
section
variable {K : PySem.W.Frag} {σ : L2.St} {H : Hp} {a C : Addr} {b : XB}
theorem is_read (h0 : σ[0]? = some (some (.ref a))) (hx : XI H a C) (T : XcC b K C) {g : CE → Bool} : ∀ {L : List CE} {Q : List V → Hp → Prop}, (∀ c ∈ L, kitOne K (.ref C) (c.u K) = some (g c)) →
    Q (L.map fun c => V.bl (g c)) H → tIs K L σ H Q
  | [], _, _, q => q
  | c :: L, Q, hg, q => ⟨_, h0, a, C, b, c.v K, c.u K, g c, rfl, hx, T, fun _ r => CE.rel r, hg c (List.mem_cons_self ..), is_read h0 hx T (L := L) (fun d hd => hg d (List.mem_cons_of_mem _ hd)) q⟩
theorem asg_is {L : List CE} {t : TS} {D : Ends} {g : CE → Bool} (h0 : σ[0]? = some (some (.ref a))) (hx : XI H a C) (T : XcC b K C) (hg : ∀ c ∈ L, kitOne K (.ref C) (c.u K) = some (g c)) (hl : L.length ≤ 1000)
    (q : ∀ p H', H p = none → Same H H' → H' p = some (.lst (L.map fun c => V.bl (g c))) → t D (σ.set 1 (some (.ref p))) H') : tSeq (tAsg (tLst (tIs K L)) (gName 1)) t D σ H :=
  is_read h0 hx T (L := L) (Q := fun xs H1 => xs.length ≤ sizeLine ∧ ∀ p, H1 p = none → t D (σ.set 1 (some (.ref p))) (upd H1 p (.lst xs))) hg
    ⟨by rw [List.length_map]; exact Nat.le_of_lt (small1000 hl), fun p hp => q p _ hp (same_new hp) upd_same⟩
theorem cat_is {L M : List CE} {Q : VK} {g : CE → Bool} {p0 : Addr} (h0 : σ[0]? = some (some (.ref a))) (h1 : σ[1]? = some (some (.ref p0))) (e0 : H p0 = some (.lst (M.map fun c => V.bl (g c)))) (hx : XI H a C) (T : XcC b K C)
    (hg : ∀ c ∈ L, kitOne K (.ref C) (c.u K) = some (g c)) (hm : M.length ≤ 500) (hl : L.length ≤ 500)
    (q : ∀ p H', H p = none → Same H H' → H' p = some (.lst ((M ++ L).map fun c => V.bl (g c))) → Q (.ref p) H') : tOp rCat (tVar 1) (tLst (tIs K L)) σ H Q := by
  refine ⟨_, h1, is_read h0 hx T (L := L) hg ⟨by rw [List.length_map]; exact Nat.le_of_lt (small1000 (by omega)), fun p hp => ?_⟩⟩
  refine ⟨p0, p, _, _, rfl, rfl, same_new hp _ _ e0, upd_same, ?_, fun p2 hp2 => ?_⟩
  · rw [List.length_map, List.length_map]
    exact Nat.le_of_lt (small1000 (by omega))
  · refine q p2 _ ((same_new hp).free hp2) ((same_new hp).trans (same_new hp2)) ?_
    rw [upd_same, List.map_append]
theorem asg_catI {L M : List CE} {t : TS} {D : Ends} {g : CE → Bool} {p0 : Addr} (h0 : σ[0]? = some (some (.ref a))) (h1 : σ[1]? = some (some (.ref p0))) (e0 : H p0 = some (.lst (M.map fun c => V.bl (g c)))) (hx : XI H a C) (T : XcC b K C)
    (hg : ∀ c ∈ L, kitOne K (.ref C) (c.u K) = some (g c)) (hm : M.length ≤ 500) (hl : L.length ≤ 500)
    (q : ∀ p H', H p = none → Same H H' → H' p = some (.lst ((M ++ L).map fun c => V.bl (g c))) → t D (σ.set 1 (some (.ref p))) H') : tSeq (tAsg (tOp rCat (tVar 1) (tLst (tIs K L))) (gName 1)) t D σ H :=
  cat_is (Q := fun v H' => t D (σ.set 1 (some v)) H') h0 h1 e0 hx T hg hm hl q
theorem ret_catI {L M : List CE} {D : Ends} {g : CE → Bool} {p0 : Addr} (h0 : σ[0]? = some (some (.ref a))) (h1 : σ[1]? = some (some (.ref p0))) (e0 : H p0 = some (.lst (M.map fun c => V.bl (g c)))) (hx : XI H a C) (T : XcC b K C)
    (hg : ∀ c ∈ L, kitOne K (.ref C) (c.u K) = some (g c)) (hm : M.length ≤ 500) (hl : L.length ≤ 500)
    (q : ∀ p H', H p = none → Same H H' → H' p = some (.lst ((M ++ L).map fun c => V.bl (g c))) → D.rt (.ref p) H') : tRet (tOp rCat (tVar 1) (tLst (tIs K L))) D σ H :=
  cat_is (Q := D.rt) h0 h1 e0 hx T hg hm hl q
end
/-- a def that asks isinstance of these classes -/
def spIs (K : PySem.W.Frag) (L : List CE) : Sp := fun vs H Q _ => ∃ (a C : Addr) (b : XB) (g : CE → Bool), vs = [.ref a] ∧ XI H a C ∧ XcC b K C ∧ (∀ c ∈ L, kitOne K (.ref C) (c.u K) = some (g c)) ∧
  ∀ p H', H p = none → Same H H' → H' p = some (.lst (L.map fun c => V.bl (g c))) → Q (.ref p) H'
end Vx
/-! ## G12 -/
set_option Elab.async false
set_option linter.all false
set_option maxRecDepth 100000
set_option maxHeartbeats 4000000
namespace Vx
open PySem PySem.Spec PyProof.Rows L2 He
open PySem.W PySem.Calls
/-- the classes' attributes are read as they were kept -/
def Rdy (K : PySem.W.Frag) (f : Str) (L : List (Addr × Str)) : Prop := ∀ p ∈ L, p.2 = f ∧ (∃ b, XcC b K p.1) ∧ findIn K (.ref p.1) f = some none
theorem Rdy.app {K : PySem.W.Frag} {f : Str} {L M : List (Addr × Str)} (h : Rdy K f L) (g : Rdy K f M) : Rdy K f (L ++ M) := fun p hp => by
  rcases List.mem_append.mp hp with q | q
  · exact h p q
  · exact g p q
theorem Rdy.sub {K : PySem.W.Frag} {f : Str} {L M : List (Addr × Str)} (h : Rdy K f L) (s : ∀ p ∈ M, p ∈ L) : Rdy K f M := fun p hp => h p (s p hp)
theorem rep_snoc {α : Type} (n : Nat) (y : α) : List.replicate n y ++ [y] = List.replicate (n + 1) y := by
  rw [List.replicate_succ']
/-- e.f, the written part named (within a comprehension) -/
theorem pe_xa {X : Cx} {K : PySem.W.Frag} {n : Str} {e : Expr} {te : TE} {pos : Pos} (he : PE X e te) (hK : X.K = K := by rfl) (hb : attributeBase e n X.env (eval e X.env) = eval e X.env := by rfl) : PE X (.Attribute e n pos) (tXf K n te) := by
  subst hK
  exact pe_xf he hb
section
variable {K : PySem.W.Frag} {σ : L2.St} {H : Hp}
/-- [e.f for e in errors] -/
theorem attr_lc {p : Addr} {as : List Addr} {L : List (Addr × Str)} {y : V} {f : Str} {j : Nat} {vs : List Nat} {Q : VK} (hp : SqL K H p (as.map V.ref)) (r : XOs H y as L) (g : Rdy K f L) (hl : L.length ≤ 1000)
    (hw : ∀ x, wipe ((wipe σ vs).set j (some x)) vs = wipe σ vs) (hj : ∀ x, ((wipe σ vs).set j (some x))[j]? = some (some x))
    (q : ∀ D H', H D = none → Same H H' → H' D = some (.lst (List.replicate as.length y)) → Q (.ref D) H') : tLc (iList K (tC (.ref p))) (gName j) tYes (tXf K f (tVar j)) vs σ H Q := by
  refine ⟨p, rfl, ⟨_, hp⟩, fun D hD => lc_list (K := K) (a := p) (xs := as.map V.ref) (fun i H' => H D = none ∧ Same H H' ∧ H' D = some (.lst (List.replicate i y))) ⟨hD, same_new hD, upd_same⟩
    (fun i H' _ z => z.2.1.seq hp) (fun i x H' hi z => ⟨hw x, ?_⟩) fun H' z => ?_⟩
  · obtain ⟨z1, z2, z3⟩ := z
    rw [List.getElem?_map] at hi
    obtain ⟨a, ha, rfl⟩ := Option.map_eq_some_iff.mp hi
    obtain ⟨c, hc, x⟩ := paired_at r ha
    obtain ⟨rfl, ⟨b, T⟩, no⟩ := g c (List.mem_of_getElem? hc)
    have hi2 : i < L.length := (List.getElem?_eq_some_iff.mp hc).1
    refine ⟨_, hj _, b, a, c.1, _, y, rfl, x.mono z2, T, no, ?_, List.replicate i y, z3, ?_, z1, fun e o he => ?_, ?_⟩
    · rw [lookup_put, if_pos rfl]
    · rw [List.length_replicate]
      exact small1000 (by omega)
    · rw [upd_ne (ne_of_none he z1)]
      exact z2 e o he
    · rw [upd_same, rep_snoc]
  · refine q D H' z.1 z.2.1 ?_
    rw [z.2.2, List.length_map]
end
end Vx
/-! ## G13 -/
set_option Elab.async false
set_option linter.all false
set_option maxRecDepth 100000
set_option maxHeartbeats 4000000
namespace Vx
open PySem PySem.Spec PyProof.Rows L2 He
theorem sIx_nat (n d k : Nat) (h : k ≤ n) : HT.sIx n d (some (k : Int)) = k := by
  rw [HT.sIx_nat, Nat.min_eq_left h]
theorem cut_to {xs : List V} {k : Nat} (h : k ≤ xs.length) : cutV xs none (some (k : Int)) = xs.take k := by
  unfold cutV
  rw [sIx_nat _ _ _ h]
  rfl
theorem cut_from {xs : List V} {k : Nat} (h : k ≤ xs.length) : cutV xs (some (k : Int)) none = xs.drop k := by
  unfold cutV
  rw [sIx_nat _ _ _ h]
  show (xs.drop k).take (xs.length - k) = xs.drop k
  rw [List.take_of_length_le]
  rw [List.length_drop]
  omega
theorem cut_mid {xs : List V} {k m : Nat} (h : k ≤ xs.length) (h2 : m ≤ xs.length) : cutV xs (some (k : Int)) (some (m : Int)) = (xs.drop k).take (m - k) := by
  unfold cutV
  rw [sIx_nat _ _ _ h, sIx_nat _ _ _ h2]
/-! ### one step into a reading -/
section
variable {σ : L2.St} {H : Hp} {D : Ends} {t u : TS} {te ta tb : TE} {i : Nat} {r : R2} {Q : VK} {tc td : TT} {rb : List V → Hp → VK → Prop} {tas : TA} {G : Bool → Hp → Prop}
theorem in_set (h : te σ H fun v H1 => t D (σ.set i (some v)) H1) : tSeq (tAsg te (gName i)) t D σ H := h
theorem in_op (h : ta σ H fun x H1 => tb σ H1 fun y H2 => r x y H2 Q) : tOp r ta tb σ H Q := h
theorem in_ret (h : te σ H D.rt) : tRet te D σ H := h
theorem in_if (h : tc σ H fun b H1 => if b = true then t { D with nx := u D } σ H1 else u D σ H1) : tSeq (tIfS tc t tNext) u D σ H := h
theorem in_or (h : tc σ H fun c H1 => if c = true then G true H1 else td σ H1 G) : tOr tc td σ H G := h
theorem in_test (h : te σ H fun x H' => ∃ k, x = .bl k ∧ G k H') : tTest te σ H G := h
theorem in_cons {QL : List V → Hp → Prop} (h : te σ H fun x H1 => tas σ H1 fun xs H2 => QL (x :: xs) H2) : tCons te tas σ H QL := h
theorem in_cb (h : tas σ H fun vs H1 => rb vs H1 Q) : tCB rb tas σ H Q := h
end
section
variable {K : PySem.W.Frag} {σ : L2.St} {H : Hp}
theorem attr_any {tl : TE} {L : List (Addr × Str)} {y : V} {f : Str} {j : Nat} {vs : List Nat} {Q : VK} (htl : ∀ R : VK, (∀ p as H1, Same H H1 → SqL K H1 p (as.map V.ref) → XOs H1 y as L → R (.ref p) H1) → tl σ H R)
    (g : Rdy K f L) (hl : L.length ≤ 1000) (hw : ∀ x, wipe ((wipe σ vs).set j (some x)) vs = wipe σ vs) (hj : ∀ x, ((wipe σ vs).set j (some x))[j]? = some (some x))
    (q : ∀ D H', H D = none → Same H H' → H' D = some (.lst (List.replicate L.length y)) → Q (.ref D) H') : tLc (iList K tl) (gName j) tYes (tXf K f (tVar j)) vs σ H Q :=
  htl _ fun p as H1 s hp r => attr_lc (Q := Q) hp r g hl hw hj fun D H' n s' e => q D H' (s.free n) (s.trans s') (by rw [e, paired_len r])
theorem attr_v {i : Nat} {p : Addr} {as : List Addr} {L : List (Addr × Str)} {y : V} {f : Str} {j : Nat} {vs : List Nat} {Q : VK} (hv : σ[i]? = some (some (.ref p))) (hp : SqL K H p (as.map V.ref))
    (r : XOs H y as L) (g : Rdy K f L) (hl : L.length ≤ 1000) (hw : ∀ x, wipe ((wipe σ vs).set j (some x)) vs = wipe σ vs) (hj : ∀ x, ((wipe σ vs).set j (some x))[j]? = some (some x))
    (q : ∀ D H', H D = none → Same H H' → H' D = some (.lst (List.replicate L.length y)) → Q (.ref D) H') : tLc (iList K (tVar i)) (gName j) tYes (tXf K f (tVar j)) vs σ H Q :=
  attr_any (fun R k => ⟨_, hv, k p as H (Same.refl H) hp r⟩) g hl hw hj q
end
/-! ### sizes of what is shown -/
theorem shown_sum {N : Nat} : ∀ {ds : List PyData}, (∀ d ∈ ds, Sm N d) → ((PyData.shownAll ds).map (·.length)).sum ≤ ds.length * N ∧ (PyData.shownAll ds).length = ds.length ∧ PyData.showableAll ds = true ∧ PyData.depthAll ds ≤ 20
  | [], _ => ⟨Nat.zero_le _, rfl, rfl, Nat.zero_le _⟩
  | d :: ds, h => by
    obtain ⟨h1, h2, h3, h4⟩ := shown_sum fun e he => h e (List.mem_cons_of_mem _ he)
    obtain ⟨a, b, c⟩ := h d (List.mem_cons_self ..)
    refine ⟨?_, ?_, ?_, ?_⟩
    · show d.shown.length + ((PyData.shownAll ds).map (·.length)).sum ≤ (ds.length + 1) * N
      rw [Nat.add_mul]
      omega
    · show (PyData.shownAll ds).length + 1 = ds.length + 1
      rw [h2]
    · show (d.showable && PyData.showableAll ds) = true
      rw [a, h3]
      rfl
    · show max d.depth (PyData.depthAll ds) ≤ 20
      omega
/-- data that may be shown -/
def Show (d : PyData) : Prop := d.showable = true ∧ d.depth ≤ 50 ∧ d.shown.length ≤ sizeLine
theorem show_list {N : Nat} {ds : List PyData} (h : ∀ d ∈ ds, Sm N d) (hl : ds.length * (N + 2) + 2 ≤ 100000) : Show (.list ds) := by
  obtain ⟨h1, h2, h3, h4⟩ := shown_sum h
  refine ⟨by simpa only [PyData.showable] using h3, by simp only [PyData.depth]; omega, ?_⟩
  simp only [PyData.shown]
  have q := textFrom_len_le (PyData.shownAll ds) 0 "["
  have e : (listText (PyData.shownAll ds)).length = (textFrom 0 "[" (PyData.shownAll ds)).length + 1 := by
    show (textFrom 0 "[" (PyData.shownAll ds) ++ "]").length = _
    rw [strLen_append]
    rfl
  have e2 : (("[" : Str)).length = 1 := by decide +kernel
  rw [e2, h2] at q
  rw [Nat.mul_add] at hl
  have e3 : 100000 ≤ sizeLine := by decide
  omega
/-- at as: errors, each with a value of its own -/
abbrev XOv (H : Hp) : List Addr → List ((Addr × Str) × V) → Prop := Paired fun a q => XO H a q.1.1 [(q.1.2, q.2)]
theorem XOv.mono {H H' : Hp} (s : Same H H') : ∀ {as : List Addr} {L : List ((Addr × Str) × V)}, XOv H as L → XOv H' as L
  | _, _, .nil => .nil
  | _, _, .cons a r => .cons (a.mono s) (XOv.mono s r)
section
variable {K : PySem.W.Frag} {σ : L2.St} {H : Hp}
theorem attr_val {i : Nat} {p : Addr} {as : List Addr} {L : List ((Addr × Str) × V)} {f : Str} {j : Nat} {vs : List Nat} {Q : VK} (hv : σ[i]? = some (some (.ref p))) (hp : SqL K H p (as.map V.ref)) (r : XOv H as L)
    (g : ∀ q ∈ L, q.1.2 = f ∧ (∃ b, XcC b K q.1.1) ∧ PySem.W.findIn K (.ref q.1.1) f = some none) (hl : L.length ≤ 1000)
    (hw : ∀ x, wipe ((wipe σ vs).set j (some x)) vs = wipe σ vs) (hj : ∀ x, ((wipe σ vs).set j (some x))[j]? = some (some x))
    (q : ∀ D H', H D = none → Same H H' → H' D = some (.lst (L.map Prod.snd)) → Q (.ref D) H') : tLc (iList K (tVar i)) (gName j) tYes (tXf K f (tVar j)) vs σ H Q := by
  refine ⟨_, hv, p, rfl, ⟨_, hp⟩, fun D hD => lc_list (K := K) (a := p) (xs := as.map V.ref) (fun i H' => H D = none ∧ Same H H' ∧ H' D = some (.lst ((L.map Prod.snd).take i))) ⟨hD, same_new hD, upd_same⟩
    (fun i H' _ z => z.2.1.seq hp) (fun i x H' hi z => ⟨hw x, ?_⟩) fun H' z => ?_⟩
  · obtain ⟨z1, z2, z3⟩ := z
    rw [List.getElem?_map] at hi
    obtain ⟨a, ha, rfl⟩ := Option.map_eq_some_iff.mp hi
    obtain ⟨c, hc, x⟩ := paired_at r ha
    obtain ⟨rfl, ⟨b, T⟩, no⟩ := g c (List.mem_of_getElem? hc)
    have hi2 : i < L.length := (List.getElem?_eq_some_iff.mp hc).1
    refine ⟨_, hj _, b, a, c.1.1, _, c.2, rfl, x.mono z2, T, no, ?_, _, z3, ?_, z1, fun e o he => ?_, ?_⟩
    · rw [lookup_put, if_pos rfl]
    · rw [List.length_take]
      exact small1000 (by omega)
    · rw [upd_ne (ne_of_none he z1)]
      exact z2 e o he
    · rw [upd_same, List.take_add_one, List.getElem?_map, hc]
      rfl
  · refine q D H' z.1 z.2.1 ?_
    rw [z.2.2, List.length_map, paired_len r, List.take_of_length_le]
    rw [List.length_map]
    exact Nat.le_refl _
end
/-- repr of two lists of equal data -/
theorem not_dec {a b : Str} (h : a = b) : (!decide (V.str a = V.str b)) = false := by
  rw [h, decide_eq_true rfl]
  rfl
end Vx
/-! ## G14 -/
set_option Elab.async false
set_option linter.all false
set_option maxRecDepth 100000
set_option maxHeartbeats 4000000
namespace Vx
open PySem PySem.Spec PyProof.Rows L2 He
open PySem.W PySem.Calls
section
variable {K : PySem.W.Frag} {σ : L2.St} {H : Hp}
/-- [elt for j in range(n)], elt changing nothing -/
theorem rng_lc {n : Nat} {j : Nat} {vs : List Nat} {te : TE} {Q : VK} (v : Nat → V) (ht : ∀ (i : Nat) H1 (R : VK), i < n → R (v i) H1 → te ((wipe σ vs).set j (some (.int (0 + (i : Nat))))) H1 R) (hn : n ≤ 1000)
    (hw : ∀ x, wipe ((wipe σ vs).set j (some x)) vs = wipe σ vs) (q : ∀ D H', H D = none → Same H H' → H' D = some (.lst ((List.range n).map v)) → Q (.ref D) H') :
    tLc (iRng1 (tCons (tC (.int (n : Int))) tNil)) (gName j) tYes te vs σ H Q := by
  refine ⟨(n : Int), rfl, by omega, by omega, fun D hD => lc_range (lo := 0) (n := n) (fun i H' => H D = none ∧ Same H H' ∧ H' D = some (.lst ((List.range i).map v))) ⟨hD, same_new hD, upd_same⟩
    (fun i H' hi z => ⟨hw _, ht i H' _ hi ⟨_, z.2.2, ?_, z.1, fun e o he => ?_, ?_⟩⟩) fun H' z => q D H' z.1 z.2.1 z.2.2⟩
  · rw [List.length_map, List.length_range]
    exact small1000 (by omega)
  · rw [upd_ne (ne_of_none he z.1)]
    exact z.2.1 e o he
  · rw [upd_same, List.range_succ, List.map_append]
    rfl
/-- [len(x) for x in lists] -/
theorem len_lc {i : Nat} {p : Addr} {bs : List Addr} {ns : List Nat} {j : Nat} {vs : List Nat} {Q : VK} (hv : σ[i]? = some (some (.ref p))) (hp : SqL K H p (bs.map V.ref)) (r : Paired (fun b n => ∃ xs, H b = some (.lst xs) ∧ xs.length = n) bs ns) (hl : ns.length ≤ 1000)
    (hw : ∀ x, wipe ((wipe σ vs).set j (some x)) vs = wipe σ vs) (hj : ∀ x, ((wipe σ vs).set j (some x))[j]? = some (some x))
    (q : ∀ D H', H D = none → Same H H' → H' D = some (.lst (ns.map fun (n : Nat) => V.int (n : Int))) → Q (.ref D) H') : tLc (iList K (tVar i)) (gName j) tYes (tCB (Evl.rLenS K) (tCons (tVar j) tNil)) vs σ H Q := by
  refine ⟨_, hv, p, rfl, ⟨_, hp⟩, fun D hD => lc_list (K := K) (a := p) (xs := bs.map V.ref) (fun i H' => H D = none ∧ Same H H' ∧ H' D = some (.lst ((ns.map fun (n : Nat) => V.int (n : Int)).take i))) ⟨hD, same_new hD, upd_same⟩
    (fun i H' _ z => z.2.1.seq hp) (fun i x H' hi z => ⟨hw x, ?_⟩) fun H' z => ?_⟩
  · obtain ⟨z1, z2, z3⟩ := z
    rw [List.getElem?_map] at hi
    obtain ⟨b, hb, rfl⟩ := Option.map_eq_some_iff.mp hi
    obtain ⟨n, hn, xs, hx, rfl⟩ := paired_at r hb
    have hi2 : i < ns.length := (List.getElem?_eq_some_iff.mp hn).1
    refine ⟨_, hj _, b, xs, rfl, .inl (SqL.of (z2 _ _ hx)), _, z3, ?_, z1, fun e o he => ?_, ?_⟩
    · rw [List.length_take]
      exact small1000 (by omega)
    · rw [upd_ne (ne_of_none he z1)]
      exact z2 e o he
    · rw [upd_same, List.take_add_one, List.getElem?_map, hn]
      rfl
  · refine q D H' z.1 z.2.1 ?_
    rw [z.2.2, List.length_map, paired_len r, List.take_of_length_le]
    rw [List.length_map]
    exact Nat.le_refl _
end
theorem map_kit {K : PySem.W.Frag} {C : Addr} {L : List CE} {gs : Nat → Bool} (h : ∀ j c, L[j]? = some c → kitOne K (.ref C) (c.u K) = some (gs j)) :
    (L.map fun c => V.bl ((kitOne K (.ref C) (c.u K)).getD false)) = (List.range L.length).map fun j => V.bl (gs j) := by
  refine List.ext_getElem? fun j => ?_
  rw [List.getElem?_map, List.getElem?_map]
  cases e : L[j]? with
  | none =>
    have hj : L.length ≤ j := List.getElem?_eq_none_iff.mp e
    rw [List.getElem?_eq_none_iff.mpr (by rw [List.length_range]; exact hj)]
    rfl
  | some c =>
    have hj : j < L.length := (List.getElem?_eq_some_iff.mp e).1
    rw [List.getElem?_range hj, Option.map_some, Option.map_some, h j c e]
    rfl
/-- lists of truths -/
theorem dp_bools {K : PySem.W.Frag} {H : Hp} : ∀ bs : List Bool, DpAll K H (bs.map V.bl) (bs.map PyData.bool)
  | [] => .nil
  | b :: bs => .cons (.bl b) (dp_bools bs)
theorem lay_bools : ∀ bs : List Bool, PyData.canLayAll0 (bs.map PyData.bool) = true
  | [] => by simp only [List.map_nil, PyData.canLayAll0]
  | b :: bs => by
    simp only [List.map_cons, PyData.canLayAll0, lay_bools bs, PyData.canLay0, Bool.and_self]
theorem dp_ints {K : PySem.W.Frag} {H : Hp} : ∀ ns : List Int, DpAll K H (ns.map V.int) (ns.map PyData.int)
  | [] => .nil
  | n :: ns => .cons (.int n) (dp_ints ns)
end Vx
/-! ## G15 -/
set_option Elab.async false
set_option linter.all false
set_option maxRecDepth 100000
set_option maxHeartbeats 4000000
namespace Vx
open PySem PySem.Spec PyProof.Rows L2 He
theorem call_lenK {X : Cx} {K : PySem.W.Frag} (hK : X.K = K) : CallR X (.builtin "len") (Evl.rLenS K) := by
  subst hK
  exact call_len_seq
theorem dec_nat (i n : Nat) : decide (V.int (0 + (i : Int)) = V.int (n : Int)) = decide (i = n) := by
  by_cases h : i = n
  · subst h
    rw [decide_eq_true rfl]
    exact decide_eq_true (by rw [Int.zero_add])
  · rw [decide_eq_false h]
    refine decide_eq_false fun e => h ?_
    have q := V.int.inj e
    omega
theorem dec_mod (i n : Nat) : decide (V.int ((0 + (i : Int)) % 4) = V.int (n : Int)) = decide (i % 4 = n) := by
  have q : (0 + (i : Int)) % 4 = ((i % 4 : Nat) : Int) := by omega
  rw [q, ← dec_nat, Int.zero_add]
theorem depth_bools : ∀ bs : List Bool, PyData.depthAll (bs.map PyData.bool) = 0
  | [] => rfl
  | _ :: r => by simp [PyData.depthAll, PyData.depth, depth_bools r]
theorem shaped_bools (bs : List Bool) : SeqAt.shaped (.list (bs.map PyData.bool)) = true := by
  simp [SeqAt.shaped, PyData.canLay0, PyData.depth, lay_bools, depth_bools]
theorem dp_ints2 {K : PySem.W.Frag} {H : Hp} : ∀ ns : List Int, DpAll K H (ns.map V.int) (ns.map PyData.int) := dp_ints
section
variable {K : PySem.W.Frag} {H : Hp} {p q : Addr} {Q : VK}
theorem ne_bools {bs : List Bool} (e1 : H p = some (.lst (bs.map V.bl))) (e2 : H q = some (.lst (bs.map V.bl))) (k : Q (.bl false) H) : rNeD K (.ref p) (.ref q) H Q := by
  refine ⟨.list (bs.map PyData.bool), .list (bs.map PyData.bool), .lst (SqL.of e1) (dp_bools bs), .lst (SqL.of e2) (dp_bools bs), shaped_bools bs, shaped_bools bs, ?_⟩
  rw [SeqAt.eqv_refl _ (ba (shaped_bools bs)).1]
  exact k
theorem ne_ints {ns : List Int} (e1 : H p = some (.lst (ns.map V.int))) (e2 : H q = some (.lst (ns.map V.int))) (k : Q (.bl false) H) : rNeD K (.ref p) (.ref q) H Q := by
  refine ⟨.list (ns.map PyData.int), .list (ns.map PyData.int), .lst (SqL.of e1) (dp_ints ns), .lst (SqL.of e2) (dp_ints ns), PySem.W.ke_shaped_ints ns, PySem.W.ke_shaped_ints ns, ?_⟩
  rw [SeqAt.eqv_refl _ (ba (PySem.W.ke_shaped_ints ns)).1]
  exact k
end
theorem paired_map {α β γ : Type} {F : α → β → Prop} {G : α → γ → Prop} {f : β → γ} : ∀ {as : List α} {L : List β}, Paired F as L → (∀ a b, F a b → G a (f b)) → Paired G as (L.map f)
  | _, _, .nil, _ => .nil
  | _, _, .cons h r, g => .cons (g _ _ h) (paired_map r g)
theorem paired_imp {α β : Type} {F G : α → β → Prop} : ∀ {as : List α} {L : List β}, Paired F as L → (∀ a b, F a b → G a b) → Paired G as L
  | _, _, .nil, _ => .nil
  | _, _, .cons h r, g => .cons (g _ _ h) (paired_imp r g)
/-- errors of these kinds, however kept -/
abbrev XIs (H : Hp) : List Addr → List Addr → Prop := Paired fun a C => XI H a C
theorem XIs.mono {H H' : Hp} (s : Same H H') {as L : List Addr} (h : XIs H as L) : XIs H' as L := paired_imp h fun _ _ x => x.mono s
theorem xis_of {H : Hp} {y : V} {as : List Addr} {L : List (Addr × Str)} (h : XOs H y as L) : XIs H as (L.map Prod.fst) := paired_map h fun _ _ x => .inr ⟨_, x⟩
theorem xis_bare {H : Hp} {as : List Addr} {L : List Addr} (h : Paired (fun a C => H a = some (exo a C none)) as L) : XIs H as L := paired_imp h fun _ _ x => .inl x
end Vx
/-! ## G16 -/
set_option Elab.async false
set_option linter.all false
set_option maxRecDepth 100000
set_option maxHeartbeats 4000000
namespace Vx
open PySem PySem.Spec PyProof.Rows L2 He
def tyS : PyData → String
  | .none => "NoneType"
  | .bool _ => "bool"
  | .int _ => "int"
  | .str _ => "str"
  | .list _ => "list"
  | .tuple _ => "tuple"
  | .dict _ => "dict"
abbrev tysA : List String := ["NoneType", "bool", "int", "str", "list", "tuple", "dict"]
theorem tyS_mem (d : PyData) : tyS d ∈ tysA := by
  cases d <;> simp [tyS]
section
variable {K : PySem.W.Frag} {H : Hp}
theorem tyx_da : ∀ {x : V} {d : PyData}, Da K H x d → TyX K H x (.type (tyS d))
  | _, _, .non => .base .non
  | _, _, .bl b => .base (.bl b)
  | _, _, .int i => .base (.int i)
  | _, _, .str z => .base (.str z)
  | _, _, .lst h _ => by
    rcases h with h | ⟨o, its, n, e, c, _⟩
    · rcases h with h | ⟨o, h⟩
      · exact .base (.lst h)
      · exact .base (.frz h)
    · exact .kList e c
  | _, _, .tup h _ => by
    rcases h with h | ⟨o, its, n, e, c, _⟩
    · rcases h with h | ⟨o, h⟩
      · exact .base (.tup h)
      · exact .fTuple h
    · exact .kTuple e c
  | _, _, .dK h _ => .base (.dK h)
  | _, _, .dT h _ => .base (.dT h)
end
def isT (a t : String) : Bool := a == t || (a == "bool" && t == "int")
abbrev isD (d : PyData) (t : String) : Bool := isT (tyS d) t
theorem kitT : ∀ t ∈ (["int", "bool", "str", "tuple", "list"] : List String), ∀ a ∈ tysA, kitB a t = some (isT a t) := by decide +kernel
def rIsD (K : PySem.W.Frag) : List V → Hp → VK → Prop := fun xs H Q => ∃ (x : V) (d : PyData) (t : String), xs = [x, .ty t] ∧ Da K H x d ∧ t ∈ (["int", "bool", "str", "tuple", "list"] : List String) ∧ Q (.bl (isD d t)) H
theorem call_isD {X : Cx} {K : PySem.W.Frag} (hK : X.K = K) : CallR X (.builtin "isinstance") (rIsD K) := by
  subst hK
  intro pins s σ H xs us Q I r h
  obtain ⟨x, d, t, rfl, hd, ht, q⟩ := h
  exact call_isi pins s σ H _ us Q I r ⟨x, .ty t, _, _, _, rfl, .ty t, tyx_da hd, kit_ty (kitT t ht _ (tyS_mem d)), q⟩
def rIsDT (K : PySem.W.Frag) : List V → Hp → VK → Prop := fun xs H Q => ∃ (x : V) (d : PyData) (tp : Addr), xs = [x, .ref tp] ∧ H tp = some (.tup [.ty "list", .ty "tuple"]) ∧ Da K H x d ∧ Q (.bl (isD d "list" || isD d "tuple")) H
theorem call_isDT {X : Cx} {K : PySem.W.Frag} (hK : X.K = K) : CallR X (.builtin "isinstance") (rIsDT K) := by
  subst hK
  intro pins s σ H xs us Q I r h
  obtain ⟨x, d, tp, rfl, e, hd, q⟩ := h
  have k1 : PySem.W.kitOne X.K (.type (tyS d)) (.type "list") = some (isD d "list") := kit_ty (kitT "list" (by decide) _ (tyS_mem d))
  have k2 : PySem.W.kitOne X.K (.type (tyS d)) (.type "tuple") = some (isD d "tuple") := kit_ty (kitT "tuple" (by decide) _ (tyS_mem d))
  refine call_isiT pins s σ H _ us Q I r ⟨x, tp, [.ty "list", .ty "tuple"], _, [.type "list", .type "tuple"], _, rfl, e, .cons (.ty _) (.cons (.ty _) .nil), tyx_da hd, ?_, q⟩
  refine kitAny_cons k1 (fun z => ?_) (fun z => by rw [z]; rfl)
  rw [z, Bool.false_or]
  refine kitAny_cons k2 (fun z2 => ?_) (fun z2 => z2)
  rw [z2]
  exact kitAny_nil
/-- x is not a truth -/
theorem op_isnot_int {X : Cx} : OpR X (compareOp .IsNot) (fun x y H Q => ∃ i b, x = .int i ∧ y = .bl b ∧ Q (.bl true) H) := by
  intro pins s σ H x y v u Q I rx ry h
  obtain ⟨i, b, rfl, rfl, q⟩ := h
  obtain ⟨t, rfl⟩ := rx
  cases (show u = Value.bool b from ry)
  exact wpAny_isNot_other rfl (fun z => nomatch z) ⟨.bl true, H, I, rfl, q⟩
/-! ### names -/
def small : List Nat := ("abcdefghijklmnopqrstuvwxyz" : Str).cps.toList
def nm (z : Str) : Bool := decide (1 ≤ z.length) && (decide (z.length ≤ 8) && z.cps.toList.all fun c => decide (c ∈ small))
theorem lowT : ∀ c < 128, (Unicode.isAlpha c = true → (Unicode.isUpper c || Unicode.isTitle c) = false → c ∈ small) ∧ (c ∈ small → Unicode.isAlpha c = true ∧ Unicode.isLower c = true ∧ (Unicode.isUpper c || Unicode.isTitle c) = false) := by decide +kernel
theorem small_lt : ∀ c ∈ small, c < 128 := by decide +kernel
theorem name_eq {z : Str} (h : 1 ≤ z.length) : (Txt.isascii z && (Txt.isalpha z && Txt.islower z)) = z.cps.toList.all fun c => decide (c ∈ small) := by
  rw [Bool.eq_iff_iff]
  unfold Txt.isascii Txt.isalpha Txt.islower
  simp only [Bool.and_eq_true, List.all_eq_true, decide_eq_true_eq, Array.all_eq_true', Array.any_eq_true', Bool.not_eq_true', Array.any_eq_false', ← Array.mem_toList_iff]
  constructor
  · rintro ⟨h1, ⟨_, h2⟩, _, h4⟩ c hc
    exact (lowT c (h1 c hc)).1 (h2 c hc) (by simpa using h4 c hc)
  · intro h1
    refine ⟨fun c hc => small_lt c (h1 c hc), ⟨h, fun c hc => ((lowT c (small_lt c (h1 c hc))).2 (h1 c hc)).1⟩, ?_, fun c hc => ?_⟩
    · have hl : 0 < z.cps.toList.length := by
        rw [Array.length_toList]
        exact h
      obtain ⟨c, hc⟩ := List.exists_mem_of_length_pos hl
      exact ⟨c, hc, ((lowT c (small_lt c (h1 c hc))).2 (h1 c hc)).2.1⟩
    · have q := ((lowT c (small_lt c (h1 c hc))).2 (h1 c hc)).2.2
      simpa using q
end Vx
/-! ## G17 -/
set_option Elab.async false
set_option linter.all false
set_option maxRecDepth 100000
set_option maxHeartbeats 4000000
namespace Vx
open PySem PySem.Spec PyProof.Rows L2 He
mutual
/-- no long texts or lists in it -/
def okD : PyData → Bool
  | .str z => decide (z.length ≤ 100)
  | .list ds => decide (ds.length ≤ 100) && okAll ds
  | .tuple ds => decide (ds.length ≤ 100) && okAll ds
  | _ => true
def okAll : List PyData → Bool
  | [] => true
  | d :: ds => okD d && okAll ds
end
theorem okAll_at : ∀ {ds : List PyData} {i : Nat} {d : PyData}, okAll ds = true → ds[i]? = some d → okD d = true
  | [], _, _, _, e => by simp at e
  | z :: r, 0, d, h, e => by
    simp at e
    subst e
    rw [okAll] at h
    exact (ba h).1
  | z :: r, i + 1, d, h, e => by
    rw [okAll] at h
    exact okAll_at (i := i) (ba h).2 (by simpa using e)
/-- a def that asks of one value of data -/
def spP (K : PySem.W.Frag) (g : PyData → Bool) : Sp := fun vs H Q _ => ∃ x d, vs = [x] ∧ Da K H x d ∧ okD d = true ∧ ∀ H', Same H H' → Q (.bl (g d)) H'
section
variable {K : PySem.W.Frag} {σ : L2.St} {H : Hp}
theorem lcs_step {i : Nat} {H1 H4 : Hp} {D : Addr} {ys : List V} {y : V} (z1 : H1 D = none) (z2 : Same H1 H4) (z3 : H4 D = some (.lst ys)) (hy : ys.length < sizeLine) : ∃ acc, H4 D = some (.lst acc) ∧ acc.length < sizeLine ∧ Same H1 (upd H4 D (.lst (acc ++ [y]))) ∧ upd H4 D (.lst (acc ++ [y])) D = some (.lst (ys ++ [y])) := by
  refine ⟨ys, z3, hy, fun e o he => ?_, upd_same⟩
  rw [upd_ne (ne_of_none he z1)]
  exact z2 e o he
/-- [g(c) for c in z] -/
theorem str_lc {ts : TE} {z : Str} {j : Nat} {vs : List Nat} {te : TE} {Q : VK} (g : Nat → V) (hts : ∀ R : VK, R (.str z) H → ts σ H R) (hz : z.length ≤ 1000)
    (ht : ∀ c H1 (R : VK), R (g c) H1 → te ((wipe σ vs).set j (some (.str ⟨#[c]⟩))) H1 R)
    (hw : ∀ x, wipe ((wipe σ vs).set j (some x)) vs = wipe σ vs) (q : ∀ D H', H D = none → Same H H' → H' D = some (.lst (z.cps.toList.map g)) → Q (.ref D) H') :
    tLc (iStr ts) (gName j) tYes te vs σ H Q := by
  refine hts _ ⟨z, rfl, fun D hD => lc_it walk_str (fun i H' => H D = none ∧ Same H H' ∧ H' D = some (.lst ((z.cps.toList.map g).take i))) ⟨hD, same_new hD, upd_same⟩ (fun _ _ _ _ => trivial)
    (fun i x H1 H2 hi p y => ⟨hw _, ?_⟩) fun H' p => ?_⟩
  · obtain ⟨rfl, c, hc, rfl⟩ := y
    obtain ⟨z1, z2, z3⟩ := p
    refine ht c _ _ ?_
    have hl : z.cps.size ≤ 1000 := hz
    have e : (z.cps.toList.map g)[i]? = some (g c) := by
      rw [List.getElem?_map, Array.getElem?_toList, hc]
      rfl
    refine ⟨_, z3, ?_, z1, fun e o he => ?_, ?_⟩
    · rw [List.length_take]
      exact small1000 (by omega)
    · rw [upd_ne (ne_of_none he z1)]
      exact z2 e o he
    · rw [upd_same, List.take_add_one, e]
      rfl
  · refine q D H' p.1 p.2.1 ?_
    rw [p.2.2, List.take_of_length_le]
    rw [List.length_map, Array.length_toList]
    exact Nat.le_refl _
/-- [g(part) for part in xs], a list or a tuple of data -/
theorem das_step {xs : List V} {ds : List PyData} {D : Addr} {i : Nat} {x : V} {j : Nat} {vs : List Nat} {te : TE} {g : PyData → Bool} {H' : Hp} {N : Hp → Prop} (hx : xs[i]? = some x) (r : Das K H xs ds) (ok : okAll ds = true) (hl : ds.length ≤ 100)
    (ht : ∀ v d H1 (R : VK), Da K H1 v d → okD d = true → (∀ H2, Same H1 H2 → R (.bl (g d)) H2) → te ((wipe σ vs).set j (some v)) H1 R)
    (z : H D = none ∧ Same H H' ∧ H' D = some (.lst ((ds.map fun d => V.bl (g d)).take i)))
    (hN : ∀ H2, H D = none ∧ Same H H2 ∧ H2 D = some (.lst ((ds.map fun d => V.bl (g d)).take (i + 1))) → N H2) :
    te ((wipe σ vs).set j (some x)) H' fun y H4 => ∃ acc, H4 D = some (.lst acc) ∧ acc.length < sizeLine ∧ N (upd H4 D (.lst (acc ++ [y]))) := by
  obtain ⟨d, hd, da⟩ := Das.get r hx
  obtain ⟨z1, z2, z3⟩ := z
  have hi := (List.getElem?_eq_some_iff.mp hd).1
  refine ht x d H' _ (da.mono z2) (okAll_at ok hd) fun H2 s2 => ?_
  refine ⟨_, s2 _ _ z3, ?_, hN _ ⟨z1, fun e o he => ?_, ?_⟩⟩
  · rw [List.length_take]
    exact small1000 (by omega)
  · rw [upd_ne (ne_of_none he z1)]
    exact s2 _ _ (z2 e o he)
  · rw [upd_same, List.take_add_one, List.getElem?_map, hd]
    rfl
theorem das_end {ds : List PyData} {n : Nat} {g : PyData → Bool} (e : n = ds.length) : (ds.map fun d => V.bl (g d)).take n = (ds.map g).map V.bl := by
  rw [List.take_of_length_le (by rw [List.length_map, e]; exact Nat.le_refl _), List.map_map]
  rfl
theorem da_lcL {p : Addr} {xs : List V} {ds : List PyData} {j : Nat} {vs : List Nat} {tl te : TE} {Q : VK} (g : PyData → Bool) (hv : ∀ R : VK, R (.ref p) H → tl σ H R) (hp : SqL K H p xs) (r : Das K H xs ds) (ok : okAll ds = true) (hl : ds.length ≤ 100)
    (ht : ∀ v d H1 (R : VK), Da K H1 v d → okD d = true → (∀ H2, Same H1 H2 → R (.bl (g d)) H2) → te ((wipe σ vs).set j (some v)) H1 R)
    (hw : ∀ x, wipe ((wipe σ vs).set j (some x)) vs = wipe σ vs)
    (q : ∀ D H', H D = none → Same H H' → H' D = some (.lst ((ds.map g).map V.bl)) → Q (.ref D) H') : tLc (iList K tl) (gName j) tYes te vs σ H Q := by
  refine hv _ ⟨p, rfl, ⟨_, hp⟩, fun D hD => lc_list (K := K) (a := p) (xs := xs) (fun i H' => H D = none ∧ Same H H' ∧ H' D = some (.lst ((ds.map fun d => V.bl (g d)).take i))) ⟨hD, same_new hD, upd_same⟩
    (fun i H' _ z => z.2.1.seq hp) (fun i x H' hi z => ⟨hw x, das_step hi r ok hl ht z fun _ h => h⟩) fun H' z => q D H' z.1 z.2.1 (z.2.2.trans ?_)⟩
  rw [das_end r.len]
theorem da_lcT {p : Addr} {xs : List V} {ds : List PyData} {j : Nat} {vs : List Nat} {tl te : TE} {Q : VK} (g : PyData → Bool) (hv : ∀ R : VK, R (.ref p) H → tl σ H R) (hp : SqT K H p xs) (r : Das K H xs ds) (ok : okAll ds = true) (hl : ds.length ≤ 100)
    (ht : ∀ v d H1 (R : VK), Da K H1 v d → okD d = true → (∀ H2, Same H1 H2 → R (.bl (g d)) H2) → te ((wipe σ vs).set j (some v)) H1 R)
    (hw : ∀ x, wipe ((wipe σ vs).set j (some x)) vs = wipe σ vs)
    (q : ∀ D H', H D = none → Same H H' → H' D = some (.lst ((ds.map g).map V.bl)) → Q (.ref D) H') : tLc (iTup K tl) (gName j) tYes te vs σ H Q := by
  refine hv _ ⟨p, rfl, ⟨_, hp⟩, fun D hD => lc_tup (K := K) (a := p) (xs := xs) (fun i H' => H D = none ∧ Same H H' ∧ H' D = some (.lst ((ds.map fun d => V.bl (g d)).take i))) ⟨hD, same_new hD, upd_same⟩
    (fun i H' _ z => Vx.seqT z.2.1 hp) (fun i x H' hi z => ⟨hw x, das_step hi r ok hl ht z fun _ h => h⟩) fun H' z => q D H' z.1 z.2.1 (z.2.2.trans ?_)⟩
  rw [das_end r.len]
theorem all_map {ds : List PyData} {g : PyData → Bool} : (ds.map g).all id = ds.all g := by
  rw [List.all_map]
  rfl
end
end Vx
/-! ## G18 -/
set_option Elab.async false
set_option linter.all false
set_option maxRecDepth 100000
set_option maxHeartbeats 4000000
namespace Vx
open PySem PySem.Spec PyProof.Rows L2 He
def numD : PyData → Bool
  | .int _ => true
  | _ => false
def boolD : PyData → Bool
  | .bool _ => true
  | _ => false
def strD : PyData → Bool
  | .str _ => true
  | _ => false
def tupD : PyData → Bool
  | .tuple _ => true
  | _ => false
def lstD : PyData → Bool
  | .list _ => true
  | _ => false
def cntD : PyData → Bool
  | .int i => decide (0 ≤ i)
  | _ => false
def nameD : PyData → Bool
  | .str z => nm z
  | _ => false
def pairL : List PyData → Bool
  | [a, b] => nameD a && nameD b
  | _ => false
def pairD : PyData → Bool
  | .tuple ds => pairL ds
  | _ => false
def seqD : PyData → Bool
  | .list _ => true
  | .tuple _ => true
  | _ => false
def rowD : PyData → Bool
  | .list ds => ds.all pairD
  | .tuple ds => ds.all pairD
  | _ => false
theorem isI : ∀ d : PyData, isD d "int" = (numD d || boolD d)
  | .none => (by decide : isT "NoneType" "int" = false)
  | .bool _ => (by decide : isT "bool" "int" = true)
  | .int _ => (by decide : isT "int" "int" = true)
  | .str _ => (by decide : isT "str" "int" = false)
  | .list _ => (by decide : isT "list" "int" = false)
  | .tuple _ => (by decide : isT "tuple" "int" = false)
  | .dict _ => (by decide : isT "dict" "int" = false)
theorem isBo : ∀ d : PyData, isD d "bool" = boolD d
  | .none => (by decide : isT "NoneType" "bool" = false)
  | .bool _ => (by decide : isT "bool" "bool" = true)
  | .int _ => (by decide : isT "int" "bool" = false)
  | .str _ => (by decide : isT "str" "bool" = false)
  | .list _ => (by decide : isT "list" "bool" = false)
  | .tuple _ => (by decide : isT "tuple" "bool" = false)
  | .dict _ => (by decide : isT "dict" "bool" = false)
theorem isS : ∀ d : PyData, isD d "str" = strD d
  | .none => (by decide : isT "NoneType" "str" = false)
  | .bool _ => (by decide : isT "bool" "str" = false)
  | .int _ => (by decide : isT "int" "str" = false)
  | .str _ => (by decide : isT "str" "str" = true)
  | .list _ => (by decide : isT "list" "str" = false)
  | .tuple _ => (by decide : isT "tuple" "str" = false)
  | .dict _ => (by decide : isT "dict" "str" = false)
theorem isTu : ∀ d : PyData, isD d "tuple" = tupD d
  | .none => (by decide : isT "NoneType" "tuple" = false)
  | .bool _ => (by decide : isT "bool" "tuple" = false)
  | .int _ => (by decide : isT "int" "tuple" = false)
  | .str _ => (by decide : isT "str" "tuple" = false)
  | .list _ => (by decide : isT "list" "tuple" = false)
  | .tuple _ => (by decide : isT "tuple" "tuple" = true)
  | .dict _ => (by decide : isT "dict" "tuple" = false)
theorem isL : ∀ d : PyData, isD d "list" = lstD d
  | .none => (by decide : isT "NoneType" "list" = false)
  | .bool _ => (by decide : isT "bool" "list" = false)
  | .int _ => (by decide : isT "int" "list" = false)
  | .str _ => (by decide : isT "str" "list" = false)
  | .list _ => (by decide : isT "list" "list" = true)
  | .tuple _ => (by decide : isT "tuple" "list" = false)
  | .dict _ => (by decide : isT "dict" "list" = false)
theorem isLT (d : PyData) : (isD d "list" || isD d "tuple") = seqD d := by
  rw [isL, isTu]
  cases d <;> rfl
theorem okStr {z : Str} (h : okD (.str z) = true) : z.length ≤ 100 := by
  rw [okD] at h
  exact of_decide_eq_true h
theorem okLst {ds : List PyData} (h : okD (.list ds) = true) : ds.length ≤ 100 ∧ okAll ds = true := by
  rw [okD] at h
  exact ⟨of_decide_eq_true (ba h).1, (ba h).2⟩
theorem okTup {ds : List PyData} (h : okD (.tuple ds) = true) : ds.length ≤ 100 ∧ okAll ds = true := by
  rw [okD] at h
  exact ⟨of_decide_eq_true (ba h).1, (ba h).2⟩
section
variable {K : PySem.W.Frag} {H : Hp} {Q : VK} {te ta : TE} {σ : L2.St}
/-- isinstance(x, t) and .. -/
theorem in_and {c : Bool} (h : ta σ H fun x H1 => x = .bl c ∧ (if c = true then te σ H1 Q else Q (.bl false) H1)) (m : ∀ R S : VK, (∀ x H, R x H → S x H) → ta σ H R → ta σ H S) : tAndV ta te σ H Q :=
  m _ _ (fun x H1 q => ⟨c, q.1, q.2⟩) h
end
end Vx
/-! ## G19 -/
set_option Elab.async false
set_option linter.all false
set_option maxRecDepth 100000
set_option maxHeartbeats 4000000
namespace Vx
open PySem PySem.Spec PyProof.Rows L2 He
open PySem.W (keepIn)
/-- one value by keyword -/
def kw0 {α : Type} : List α → List α → List α
  | [], [b] => [b]
  | _, _ => []
theorem kw0_rel : ∀ {vs : List V} {us : List Value} {zs : List V} {ws : List Value}, Vals vs us → Vals zs ws → Vals (kw0 vs zs) (kw0 us ws)
  | _, _, _, _, .nil, .cons c .nil => .cons c .nil
  | _, _, _, _, .nil, .nil => .nil
  | _, _, _, _, .nil, .cons _ (.cons _ _) => .nil
  | _, _, _, _, .cons _ _, _ => .nil
/-- a def of one parameter, called by place and by name -/
structure CdK (P : Program) (w : World) (K : PySem.W.Frag) (mg : Str → Option Value) (base : Heap) (k : Nat) (x y : Str) (sp : Sp) : Prop where
  ex : ∃ (f : Addr) (fd : FuncData), FnG P w K mg base CX0 k f fd [y] sp ∧ mg x = some (.ref f) ∧ keepIn K (.ref f) = true ∧ Binds K fd [y] [] ∧ KBinds K fd [y] [y] kw0 kw0
section
variable {P : Program} {w : World} {K : PySem.W.Frag} {mg : Str → Option Value} {base : Heap} {k : Nat} {x y : Str} {sp : Sp} {st : Stmt} {N : List Str}
theorem CdK.cd (C : CdK P w K mg base k x y sp) : Cd P w K mg base k x [y] sp := by
  obtain ⟨f, fd, F, g, kf, b, _⟩ := C.ex
  exact ⟨f, fd, F, g, kf, b⟩
theorem cd_mkK (F : At K mg x st) (S : FnScope N [y] (defScope st)) (len : ∀ vs H Q E, sp vs H Q E → vs.length = [y].length)
    (hb : ∀ (kV doc pm : Value) (an : Option Addr) (cdv ct : Value) (us : List Value), us.length = [y].length → bindArgs (PySem.W.fnOf x x (defArgs st) (defBody st) (defScope st) .none kV doc pm an cdv ct) ⟨us, []⟩ = pure ([y].zip us))
    (hk : ∀ (kV doc pm : Value) (an : Option Addr) (cdv ct : Value) (u : Value), bindArgs (PySem.W.fnOf x x (defArgs st) (defBody st) (defScope st) .none kV doc pm an cdv ct) ⟨[], [(y, u)]⟩ = pure [(y, u)])
    (hbody : ∀ (f : Addr) (cdv : Value) (A : Around) (outer : List Env) (s : Shared) (H : Hp) (vs : List V) (Q : VK) (E : XK),
      Room k (A.deeper (envOfC x (defScope st) s.heap.objs.size f cdv)) → Gd (A.deeper (envOfC x (defScope st) s.heap.objs.size f cdv)) → sp vs H Q E →
      ∃ t, PSs (cxOf CX0 P w K mg base N x (defScope st) f cdv A outer s H E).nox (defBody st) t ∧ t { nx := fun _ H' => Q .non H', rt := Q } (start N vs) H) :
    CdK P w K mg base (k + 1) x y sp := by
  obtain ⟨f, fd, F, gf⟩ := F.ex
  refine ⟨f, fd, okG F S len (fun cdv A outer s H vs Q E hr hG h => ?_), gf, F.kp, F.binds hb, ?_⟩
  · obtain ⟨t, h1, h2⟩ := hbody f cdv A outer s H vs Q E hr hG h
    exact ⟨t, h1.nox, h2⟩
  · obtain ⟨oc, od, kV, doc, pm, an, cdv, ct, osl, rfl, lk, hcd⟩ := F.ex
    refine ⟨fun s us ws _ hl => ?_, kw0_rel⟩
    match us, ws, hl with
    | [], [v], _ => exact .of_eq (hk kV doc pm an cdv ct v)
end
section
variable {X : Cx} {k : Nat} {x y : Str} {sp : Sp} {p pos kp : Pos} {e : Expr} {te : TE}
/-- f(y = e) -/
theorem pe_cdK (C : CdK X.prog X.w X.K X.mg X.base k x y sp) (hr : Room k X.A) (hG : Gd X.A) (hg : Gl X x) (he : PE X e te)
    (hdb : (x == ("__debug__" : Str)) = false := by decide) (hall : (backToKw pos (keywordEach [⟨some y, e, kp⟩] X.env)).all (·.1.isSome) = true := by rfl)
    (hks : (backToKw pos (keywordEach [⟨some y, e, kp⟩] X.env)).filterMap (·.1) = [y] := by rfl)
    (hpl : ((backTo pos (starEach [] X.env)).any (·.1) || (backToKw pos (keywordEach [⟨some y, e, kp⟩] X.env)).any (·.1.isNone)) = false := by rfl) :
    PE X (.Call (.Name x p) [] [⟨some y, e, kp⟩] pos) (fun σ H Q => te σ H fun v H1 => sp [v] H1 Q E0) := by
  obtain ⟨f, fd, F, gf, kf, b, kb⟩ := C.ex
  refine ⟨fun pins s σ H Q I h => wpAny_Call_Name_kw (ld_glob I hg gf ?_ hdb)⟩
  refine PySem.W.callWith_KW0 (h₀ := X.base) I.ok.mod.kin kf hall ?_ hpl
  refine thn ((pk_cons he pk_nil).run pos pins s σ H (one1 fun v H1 => sp [v] H1 Q E0) I h) fun ws s1 z => ?_
  obtain ⟨vs, H1, I1, r1, q1⟩ := z
  rw [hks]
  match vs, q1 with
  | [v], q1 =>
    cases r1 with
    | cons rv rn =>
      cases rn
      rename_i u
      refine ⟨I1.kIn, wpAny_call (codeAny_mono (F.go X.A X.stack s1 H1 ⟨[], [(y, u)]⟩ [u] [v] Q E0 hr hG I1.env0 (kb.to s1 [] [u] I1.kIn rfl) (.cons rv .nil) q1) (fun r s' z => ?_))⟩
      cases r with
      | error er => exact pass0 pins σ H1 s1 er s' I1 z
      | ok fl =>
        cases fl with
        | ret u => exact I1.after z
        | next => exact z.elim
        | brk => exact z.elim
        | cont => exact z.elim
end
end Vx
/-! ## G20 -/
set_option Elab.async false
set_option linter.all false
set_option maxRecDepth 100000
set_option maxHeartbeats 4000000
namespace Vx
open PySem PySem.Spec PyProof.Rows L2 He
/-- {k: v}, k a tuple of ints and texts -/
def tDispT (tk tv : TE) : TE := fun σ H Q => ∀ p, H p = none → tk σ (upd H p (.dT [])) fun x H1 => tv σ H1 fun y H2 => H2 p = some (.dT []) ∧
  ∃ (k : List L2.Key) (b : Addr), x = .ref b ∧ H2 b = some (.tup (k.map kV)) ∧ Q (.ref p) (upd H2 p (.dT [(k, y)]))
def onePair (n : Addr) (Q : VK) : List (V × V) → Hp → Prop
  | [(x, y)], H2 => H2 n = some (.dT []) ∧ ∃ (k : List L2.Key) (b : Addr), x = .ref b ∧ H2 b = some (.tup (k.map kV)) ∧ Q (.ref n) (upd H2 n (.dT [(k, y)]))
  | _, _ => False
theorem pe_dispT {X : Cx} {pos : Pos} {k v : Expr} {tk tv : TE} (hu : X.A.units + 64 < cLine) (hk : PE X k tk) (hv : PE X v tv) : PE X (.Dict [some k] [v] pos) (tDispT tk tv) := by
  refine ⟨fun pins s σ H Q I q => ?_⟩
  have hn := I.hok.fresh (Nat.le_refl s.heap.objs.size)
  have I1 := I.laid (a := s.heap.objs.size) (o := .dT []) (h' := s.heap.push { cls := .type "dict", data := .dict #[] }) (t' := s.toks) (fun _ _ q => Heap.get?_push_of_some _ q) (Nat.le_refl _) (dt_empty s.heap I.big)
  rw [arm_eval_Dict, zip_pairTrees [some k] [v] X.env pos rfl rfl, dictDisplay_pairs (pairTrees [some k] [v] X.env pos) (fun z => nomatch z) (by show 1 < 17; decide)]
  refine wpAny_bind (wpAny_standAt (wpAny_bind (wpAny_subDictH (knd := tupleKind (mixKind X.prog X.w)) (Q := fun d s' => wpAny (model X.prog X.w) X.A (pure (Value.ref d)) (EP X pins σ Q) X.xe s') ?_ (by show 1 ≤ 15; decide)
    (thn ((pps_cons hk hv pps_nil).run pins _ σ _ (onePair s.heap.objs.size Q)
      I1 ?_) fun ws s2 z => ?_))))
  · show X.A.units < cLine
    omega
  · exact q _ hn
  · obtain ⟨ps, H2, I2, rel, q1⟩ := z
    match ps, q1 with
    | [(x, y)], q1 =>
    obtain ⟨e, ks, b, rfl, eb, q2⟩ := q1
    cases rel with
    | cons r rn =>
      cases rn
      obtain ⟨r1, r2⟩ := r
      rename_i wv
      obtain ⟨u, r⟩ := wv
      cases (show u = Value.ref b from r1)
      obtain ⟨z, hd, xs, rx, dd⟩ := dt_of I2.hok e
      cases rx
      refine ⟨[(ks, b, r)], ⟨rfl, rfl, key_of I2.hok eb, trivial⟩, dd, fun h' tk dd' hs => wpAny_pure ⟨.ref s.heap.objs.size, _, ?_, rfl, q2⟩⟩
      obtain ⟨q, es, ep, hq, h2, h3, h4, _, h5⟩ := dd'
      refine d_write I2 (by rw [e]; exact True.intro) hs ⟨q, hq⟩ ⟨by show 1 ≤ sizeLine; decide, hd, [(ks, b, r)], .cons ⟨rfl, ?_, r2⟩ .nil, q, es, ep, hq, h2, h3, h4, h5⟩
      rw [upd_ne (ne_of eb e (fun z => nomatch z))]
      exact eb
end Vx
/-! ## G21 -/
set_option Elab.async false
set_option linter.all false
set_option maxRecDepth 100000
set_option maxHeartbeats 4000000
namespace Vx
open PySem PySem.Spec PyProof.Rows L2 He
/-- z * 0, z * 1 -/
def rM01 : R2 := fun x y H Q => ∃ (z : Str) (n : Int), x = .str z ∧ y = .int n ∧ ((n = 0 ∧ Q (.str Str.empty) H) ∨ (n = 1 ∧ Q (.str z) H))
theorem op_mul01 {X : Cx} : OpR X (binaryOp .Mult) rM01 := by
  intro pins s σ H x y v u Q I rx ry h
  obtain ⟨z, n, rfl, rfl, h⟩ := h
  obtain ⟨t, rfl⟩ := rx
  obtain ⟨t', rfl⟩ := ry
  rcases h with ⟨rfl, q⟩ | ⟨rfl, q⟩
  · exact P.mul_str_none (by decide) (by decide) ⟨.str Str.empty, H, I.tok _, ⟨_, rfl⟩, q⟩
  · refine P.mul_str (by decide) (fun _ h => by simp at h) (fun _ h => by simp at h) ?_
    rw [if_neg (by decide), if_pos (by simp)]
    exact ⟨.str z, H, I, ⟨t, rfl⟩, q⟩
theorem mul01 (z : Str) {d : Int} (h : d = 0 ∨ d = 1) : ∃ z' : Str, (z' = Str.empty ∨ z' = z) ∧ ∀ (Q : VK) (H : Hp), Q (.str z') H → rM01 (.str z) (.int d) H Q := by
  rcases h with h | h
  · exact ⟨Str.empty, .inl rfl, fun Q H q => ⟨z, d, rfl, rfl, .inl ⟨h, q⟩⟩⟩
  · exact ⟨z, .inr rfl, fun Q H q => ⟨z, d, rfl, rfl, .inr ⟨h, q⟩⟩⟩
abbrev Asc (z : Str) : Prop := ∀ c ∈ z.cps.toList, c < 128
theorem asc_app {a b : Str} (ha : Asc a) (hb : Asc b) : Asc (a ++ b) := fun c hc => by
  rw [PySem.W.KT.app_list] at hc
  rcases List.mem_append.mp hc with h | h
  · exact ha c h
  · exact hb c h
/-- signs joined -/
theorem asc_join {cs : List Nat} (h : ∀ c ∈ cs, c < 128) : Asc (Txt.join (Str.ofString "") (cs.map fun c => ⟨#[c]⟩)) ∧ (Txt.join (Str.ofString "") (cs.map fun c => (⟨#[c]⟩ : Str))).length = cs.length := by
  refine ⟨fun c hc => ?_, ?_⟩
  · have e : Txt.join (Str.ofString "") (cs.map fun c => (⟨#[c]⟩ : Str)) = Str.join (Str.ofString "") (cs.map fun c => (⟨#[c]⟩ : Str)) := StrLaws.glued_eq_join _ _
    rw [e] at hc
    rcases (mem_join _ c _).mp hc with ⟨t, ht, hc⟩ | ⟨_, hc⟩
    · obtain ⟨d, hd, rfl⟩ := List.mem_map.mp ht
      have q : c = d := by simpa using hc
      rw [q]
      exact h d hd
    · exact nomatch (show c ∈ ([] : List Nat) from hc)
  · rw [PySem.W.KT.join_ones _ (fun a ha => by obtain ⟨d, _, rfl⟩ := List.mem_map.mp ha; rfl), List.length_map]
theorem ones_sum : ∀ cs : List Nat, ((cs.map fun c => (⟨#[c]⟩ : Str)).map (·.length)).sum = cs.length
  | [] => rfl
  | c :: cs => by
    rw [List.map_cons, List.map_cons, List.sum_cons, ones_sum cs, List.length_cons]
    show 1 + cs.length = cs.length + 1
    omega
/-- what is written at an address that was free -/
theorem Stp.putD {p D : Addr} {H H4 : Hp} {o : HO} (z : Stp p H H4) (hD : H D = none) (n : D ≠ p) : Stp p H (upd H4 D o) := by
  refine ⟨?_, fun a u e => ?_⟩
  · obtain ⟨a, b, e, r⟩ := z.pot
    exact ⟨a, b, (upd_ne n.symm).trans e, r⟩
  · obtain ⟨na, ea⟩ := off_some e
    have q := z.k a u e
    rw [off_ne na] at q
    rw [off_ne na, upd_ne (ne_of_none ea hD)]
    exact q
/-- a text, one of whose signs is chosen -/
def spPickS : Sp := fun vs H Q _ => ∃ (p : Addr) (z : Str), vs = [.ref p, .str z] ∧ Pot p H ∧ 1 ≤ z.length ∧ z.length ≤ 1000 ∧ ∀ (c : Nat) H', Stp p H H' → c ∈ z.cps.toList → Q (.str ⟨#[c]⟩) H'
def spWord : Sp := fun vs H Q _ => ∃ p : Addr, vs = [.ref p] ∧ Pot p H ∧ ∀ (z : Str) H', Stp p H H' → z.length ≤ 9 → Asc z → Q (.str z) H'
end Vx
/-! ## G22 -/
set_option Elab.async false
set_option linter.all false
set_option maxRecDepth 100000
set_option maxHeartbeats 4000000
namespace Vx
open PySem PySem.Spec PyProof.Rows L2 He
/-- small data of depth k -/
def G (k : Nat) (d : PyData) : Prop := okD d = true ∧ d.leavesShort 40 = true ∧ d.showable = true ∧ d.depth ≤ k ∧ d.weight ≤ 120 * 4 ^ k
theorem G.up {k : Nat} {d : PyData} (g : G k d) : G (k + 1) d := by
  obtain ⟨h1, h2, h3, h4, h5⟩ := g
  refine ⟨h1, h2, h3, by omega, ?_⟩
  rw [Nat.pow_succ]
  omega
theorem G_non : G 0 .none := ⟨rfl, rfl, rfl, Nat.le_refl _, Nat.zero_le _⟩
theorem G_bl (b : Bool) : G 0 (.bool b) := ⟨rfl, rfl, rfl, Nat.le_refl _, Nat.zero_le _⟩
theorem G_str {z : Str} (h : Asc z) (hl : z.length ≤ 100) : G 0 (.str z) := by
  refine ⟨?_, ?_, rfl, Nat.le_refl _, ?_⟩
  · rw [okD]
    exact decide_eq_true hl
  · simp only [PyData.leavesShort, List.all_eq_true, decide_eq_true_eq]
    intro c hc
    exact Nat.lt_of_lt_of_le (h c hc) (by decide)
  · show z.length ≤ 120 * 4 ^ 0
    omega
theorem G_int {i : Int} (h : i.natAbs < 10 ^ 31) : G 0 (.int i) := by
  have hl : i.natAbs.log2 < 104 := by
    by_cases z : i.natAbs = 0
    · rw [z]
      decide
    · exact (Nat.log2_lt z).2 (Nat.lt_of_lt_of_le h (by decide))
  refine ⟨rfl, ?_, ?_, Nat.le_refl _, ?_⟩
  · have q := int_text_length_le10 (k := 31) (by decide) h
    simp only [PyData.leavesShort, PyData.shown, decide_eq_true_eq]
    refine decide_eq_true ?_
    rw [PySem.ofString_length]
    omega
  · simp only [PyData.showable, decide_eq_true_eq]
    omega
  · simp only [PyData.weight]
    split <;> omega
theorem allG {k : Nat} : ∀ {ds : List PyData}, (∀ d ∈ ds, G k d) → okAll ds = true ∧ PyData.leavesShortAll 40 ds = true ∧ PyData.showableAll ds = true ∧ PyData.depthAll ds ≤ k ∧ PyData.weightAll ds ≤ ds.length * (120 * 4 ^ k + 1)
  | [], _ => ⟨rfl, rfl, rfl, Nat.zero_le _, Nat.zero_le _⟩
  | d :: ds, h => by
    obtain ⟨a1, a2, a3, a4, a5⟩ := allG fun e he => h e (List.mem_cons_of_mem _ he)
    obtain ⟨b1, b2, b3, b4, b5⟩ := h d (List.mem_cons_self ..)
    refine ⟨?_, ?_, ?_, ?_, ?_⟩
    · rw [okAll, a1, b1]
      rfl
    · rw [PyData.leavesShortAll, a2, b2]
      rfl
    · rw [PyData.showableAll, a3, b3]
      rfl
    · rw [PyData.depthAll]
      omega
    · rw [PyData.weightAll, List.length_cons, Nat.add_mul]
      omega
theorem G_lst {k : Nat} {ds : List PyData} (h : ∀ d ∈ ds, G k d) (hl : ds.length ≤ 3) : G (k + 1) (.list ds) := by
  obtain ⟨a1, a2, a3, a4, a5⟩ := allG h
  refine ⟨?_, ?_, ?_, ?_, ?_⟩
  · rw [okD, a1, decide_eq_true (by omega)]
    rfl
  · simpa only [PyData.leavesShort] using a2
  · simpa only [PyData.showable] using a3
  · simp only [PyData.depth]
    omega
  · simp only [PyData.weight]
    have q : ds.length * (120 * 4 ^ k + 1) ≤ 3 * (120 * 4 ^ k + 1) := Nat.mul_le_mul_right _ hl
    have q2 : 0 < 4 ^ k := Nat.pow_pos (by decide)
    rw [Nat.pow_succ]
    omega
theorem G_tup {k : Nat} {ds : List PyData} (h : ∀ d ∈ ds, G k d) (hl : ds.length ≤ 3) : G (k + 1) (.tuple ds) := by
  obtain ⟨a1, a2, a3, a4, a5⟩ := allG h
  refine ⟨?_, ?_, ?_, ?_, ?_⟩
  · rw [okD, a1, decide_eq_true (by omega)]
    rfl
  · simpa only [PyData.leavesShort] using a2
  · simpa only [PyData.showable] using a3
  · simp only [PyData.depth]
    omega
  · simp only [PyData.weight]
    have q : ds.length * (120 * 4 ^ k + 1) ≤ 3 * (120 * 4 ^ k + 1) := Nat.mul_le_mul_right _ hl
    have q2 : 0 < 4 ^ k := Nat.pow_pos (by decide)
    rw [Nat.pow_succ]
    omega
theorem G_dict0 : G 1 (.dict []) := ⟨rfl, rfl, rfl, Nat.le_refl _, Nat.zero_le _⟩
theorem G_dict1 {k : Nat} {a b : PyData} (ha : G k a) (hb : G k b) : G (k + 1) (.dict [(a, b)]) := by
  obtain ⟨a1, a2, a3, a4, a5⟩ := ha
  obtain ⟨b1, b2, b3, b4, b5⟩ := hb
  refine ⟨rfl, ?_, ?_, ?_, ?_⟩
  · simp only [PyData.leavesShort, PyData.leavesShortKv, a2, b2, Bool.and_self]
  · simp only [PyData.showable, PyData.showableKv, a3, b3, Bool.and_self]
  · simp only [PyData.depth, PyData.depthKv]
    omega
  · simp only [PyData.weight, PyData.weightKv]
    have q2 : 0 < 4 ^ k := Nat.pow_pos (by decide)
    rw [Nat.pow_succ]
    omega
theorem G_menu {ds : List PyData} (h : ∀ d ∈ ds, G 2 d) (hl : ds.length ≤ 60) : Show (.list ds) := by
  obtain ⟨a1, a2, a3, a4, a5⟩ := allG h
  refine ⟨by simpa only [PyData.showable] using a3, by simp only [PyData.depth]; omega, ?_⟩
  have q := PyData.shown_le 40 (by decide) (.list ds) (by simpa only [PyData.leavesShort] using a2)
  have q2 : ds.length * (120 * 4 ^ 2 + 1) ≤ 60 * (120 * 4 ^ 2 + 1) := Nat.mul_le_mul_right _ hl
  have q3 : (PyData.list ds).weight = PyData.weightAll ds := by simp only [PyData.weight]
  rw [q3] at q
  have q4 : 10000000 ≤ sizeLine := by decide
  omega
/-- x is such data -/
def El (K : PySem.W.Frag) (H : Hp) (k : Nat) (x : V) : Prop := ∃ d, Da K H x d ∧ G k d
section
variable {K : PySem.W.Frag} {H H' : Hp} {k : Nat} {x : V}
theorem El.mono (s : Same H H') (h : El K H k x) : El K H' k x := let ⟨d, a, g⟩ := h; ⟨d, a.mono s, g⟩
theorem El.up (h : El K H k x) : El K H (k + 1) x := let ⟨d, a, g⟩ := h; ⟨d, a, g.up⟩
theorem El.non : El K H 0 .non := ⟨_, .non, G_non⟩
theorem El.bl (b : Bool) : El K H 0 (.bl b) := ⟨_, .bl b, G_bl b⟩
theorem El.int {i : Int} (h : i.natAbs < 10 ^ 31) : El K H 0 (.int i) := ⟨_, .int i, G_int h⟩
theorem El.str {z : Str} (h : Asc z) (hl : z.length ≤ 100) : El K H 0 (.str z) := ⟨_, .str z, G_str h hl⟩
theorem els_das : ∀ {xs : List V}, (∀ x ∈ xs, El K H k x) → ∃ ds, Das K H xs ds ∧ (∀ d ∈ ds, G k d) ∧ ds.length = xs.length
  | [], _ => ⟨[], .nil, (fun _ h => nomatch h), rfl⟩
  | x :: xs, h => by
    obtain ⟨d, a, g⟩ := h x (List.mem_cons_self ..)
    obtain ⟨ds, as, gs, l⟩ := els_das fun y hy => h y (List.mem_cons_of_mem _ hy)
    exact ⟨d :: ds, .cons a as, List.forall_mem_cons.2 ⟨g, gs⟩, by rw [List.length_cons, List.length_cons, l]⟩
theorem El.lst {a : Addr} {xs : List V} (e : H a = some (.lst xs)) (h : ∀ x ∈ xs, El K H k x) (hl : xs.length ≤ 3) : El K H (k + 1) (.ref a) := by
  obtain ⟨ds, as, gs, l⟩ := els_das h
  exact ⟨_, .lst (SqL.of e) as, G_lst gs (by omega)⟩
theorem El.tup {a : Addr} {xs : List V} (e : H a = some (.tup xs)) (h : ∀ x ∈ xs, El K H k x) (hl : xs.length ≤ 3) : El K H (k + 1) (.ref a) := by
  obtain ⟨ds, as, gs, l⟩ := els_das h
  exact ⟨_, .tup (SqT.of e) as, G_tup gs (by omega)⟩
theorem El.dict0 {a : Addr} (e : H a = some (.dK [])) : El K H 1 (.ref a) := ⟨_, .dK e .nil, G_dict0⟩
theorem El.dict2 {a : Addr} {z y : Str} {v : V} (e : H a = some (.dT [([.inr z, .inr y], v)])) (hz : Asc z) (hy : Asc y) (lz : z.length ≤ 100) (ly : y.length ≤ 100) (hv : El K H 1 v) : El K H 2 (.ref a) := by
  obtain ⟨d, a, g⟩ := hv
  exact ⟨_, .dT e (.cons a .nil), G_dict1 (G_tup (List.forall_mem_cons.2 ⟨G_str hz lz, List.forall_mem_cons.2 ⟨G_str hy ly, fun _ h => nomatch h⟩⟩) (by show 2 ≤ 3; decide)) g⟩
end
/-- the menu -/
def spMenu (K : PySem.W.Frag) : Sp := fun vs H Q _ => ∃ p : Addr, vs = [.ref p] ∧ Pot p H ∧ ∀ (m : Addr) (xs : List V) H', Stp p H H' → off p H' m = some (.lst xs) → (∀ x ∈ xs, El K (off p H') 2 x) → xs.length ≤ 60 → Q (.ref m) H'
end Vx
/-! ## G23 -/
set_option Elab.async false
set_option linter.all false
set_option maxRecDepth 100000
set_option maxHeartbeats 4000000
namespace Vx
open PySem PySem.Spec PyProof.Rows L2 He
section
variable {K : PySem.W.Frag} {p : Addr} {H0 : Hp} {σ : L2.St}
/-- te makes small data of depth k, changing nothing that stands -/
def Mk (K : PySem.W.Frag) (p : Addr) (H0 : Hp) (σ : L2.St) (k : Nat) (te : TE) : Prop :=
  ∀ H (R : VK), Same H0 H → Pot p H → (∀ x H', Same H H' → El K (off p H') k x → R x H') → te σ H R
def MkL (K : PySem.W.Frag) (p : Addr) (H0 : Hp) (σ : L2.St) (k n : Nat) (tas : TA) : Prop :=
  ∀ H (R : List V → Hp → Prop), Same H0 H → Pot p H → (∀ xs H', Same H H' → (∀ x ∈ xs, El K (off p H') k x) → xs.length = n → R xs H') → tas σ H R
theorem Mk.up {k : Nat} {te : TE} (h : Mk K p H0 σ k te) : Mk K p H0 σ (k + 1) te := fun H R s P q => h H R s P fun x H' s' e => q x H' s' e.up
theorem mkl_nil {k : Nat} : MkL K p H0 σ k 0 tNil := fun H R s P q => q [] H (Same.refl H) (fun _ h => nomatch h) rfl
theorem mkl_cons {k n : Nat} {te : TE} {tas : TA} (h : Mk K p H0 σ k te) (hs : MkL K p H0 σ k n tas) : MkL K p H0 σ k (n + 1) (tCons te tas) := fun H R s P q =>
  h H _ s P fun x H1 s1 e => hs H1 _ (s.trans s1) (P.keep s1) fun xs H2 s2 es l => q (x :: xs) H2 (s1.trans s2) (List.forall_mem_cons.2 ⟨e.mono (same_off s2), es⟩) (by rw [List.length_cons, l])
theorem mk_c {k : Nat} {v : V} (h : ∀ H, El K H k v) : Mk K p H0 σ k (tC v) := fun H R s P q => q v H (Same.refl H) (h _)
theorem mk_var {k i : Nat} {v : V} (hv : σ[i]? = some (some v)) (h : El K (off p H0) k v) : Mk K p H0 σ k (tVar i) := fun H R s P q => ⟨v, hv, q v H (Same.refl H) (h.mono (same_off s))⟩
theorem mk_lst {k n : Nat} {tas : TA} (h : MkL K p H0 σ k n tas) (hn : n ≤ 3) : Mk K p H0 σ (k + 1) (tLst tas) := fun H R s P q =>
  h H _ s P fun xs H1 s1 es l => ⟨by rw [l]; exact Nat.le_of_lt (small1000 (by omega)), fun a ha => q _ _ (s1.trans (same_new ha))
    (El.lst ((off_ne ((P.keep s1).new ha)).trans upd_same) (fun x hx => (es x hx).mono (same_off (same_new ha))) (by omega))⟩
theorem mk_tup {k n : Nat} {tas : TA} (h : MkL K p H0 σ k n tas) (hn : n ≤ 3) : Mk K p H0 σ (k + 1) (tTup tas) := fun H R s P q =>
  h H _ s P fun xs H1 s1 es l => ⟨by rw [l]; exact Nat.le_of_lt (small1000 (by omega)), fun a ha => q _ _ (s1.trans (same_new ha))
    (El.tup ((off_ne ((P.keep s1).new ha)).trans upd_same) (fun x hx => (es x hx).mono (same_off (same_new ha))) (by omega))⟩
theorem mk_lst0 {k : Nat} : Mk K p H0 σ (k + 1) (tLst tNil) := mk_lst mkl_nil (by decide)
theorem mk_lst1 {k : Nat} {a : TE} (h : Mk K p H0 σ k a) : Mk K p H0 σ (k + 1) (tLst (tCons a tNil)) := mk_lst (mkl_cons h mkl_nil) (by decide)
theorem mk_lst2 {k : Nat} {a b : TE} (h : Mk K p H0 σ k a) (h2 : Mk K p H0 σ k b) : Mk K p H0 σ (k + 1) (tLst (tCons a (tCons b tNil))) := mk_lst (mkl_cons h (mkl_cons h2 mkl_nil)) (by decide)
theorem mk_lst3 {k : Nat} {a b c : TE} (h : Mk K p H0 σ k a) (h2 : Mk K p H0 σ k b) (h3 : Mk K p H0 σ k c) : Mk K p H0 σ (k + 1) (tLst (tCons a (tCons b (tCons c tNil)))) := mk_lst (mkl_cons h (mkl_cons h2 (mkl_cons h3 mkl_nil))) (by decide)
theorem mk_tup0 {k : Nat} : Mk K p H0 σ (k + 1) (tTup tNil) := mk_tup mkl_nil (by decide)
theorem mk_tup1 {k : Nat} {a : TE} (h : Mk K p H0 σ k a) : Mk K p H0 σ (k + 1) (tTup (tCons a tNil)) := mk_tup (mkl_cons h mkl_nil) (by decide)
theorem mk_tup2 {k : Nat} {a b : TE} (h : Mk K p H0 σ k a) (h2 : Mk K p H0 σ k b) : Mk K p H0 σ (k + 1) (tTup (tCons a (tCons b tNil))) := mk_tup (mkl_cons h (mkl_cons h2 mkl_nil)) (by decide)
theorem mk_tup3 {k : Nat} {a b c : TE} (h : Mk K p H0 σ k a) (h2 : Mk K p H0 σ k b) (h3 : Mk K p H0 σ k c) : Mk K p H0 σ (k + 1) (tTup (tCons a (tCons b (tCons c tNil)))) := mk_tup (mkl_cons h (mkl_cons h2 (mkl_cons h3 mkl_nil))) (by decide)
theorem mk_dnew : Mk K p H0 σ 1 tDNewK := fun H R s P q => fun a ha => q _ _ (same_new ha) (El.dict0 ((off_ne (P.new ha)).trans upd_same))
/-- {pair: pair}, the pair in a slot -/
theorem mk_dispT {i : Nat} {b : Addr} {z y : Str} (hv : σ[i]? = some (some (.ref b))) (e : H0 b = some (.tup [.str z, .str y])) (az : Asc z) (ay : Asc y) (lz : z.length ≤ 100) (ly : y.length ≤ 100) (h : El K (off p H0) 1 (.ref b)) :
    Mk K p H0 σ 2 (tDispT (tVar i) (tVar i)) := fun H R s P q => fun a ha => by
  have e1 : upd H a (.dT []) b = some (.tup [.str z, .str y]) := (same_new ha) _ _ (s _ _ e)
  refine ⟨_, hv, _, hv, upd_same, [.inr z, .inr y], b, rfl, e1, ?_⟩
  have sa : Same H (upd (upd H a (.dT [])) a (.dT [([.inr z, .inr y], .ref b)])) := fun c o ec => by
    have n := ne_of_none ec ha
    rw [upd_ne n, upd_ne n]
    exact ec
  exact q _ _ sa (El.dict2 ((off_ne (P.new ha)).trans upd_same) az ay lz ly (h.mono (same_off (s.trans sa))))
theorem mk_pow {i j : Int} (h0 : CPow i j) (h : (i ^ j.toNat).natAbs < 10 ^ 31) : Mk K p H0 σ 0 (tOp (rI CPow fun i j => V.int (i ^ j.toNat)) (tC (.int i)) (tC (.int j))) := fun H R s P q =>
  ⟨i, j, rfl, rfl, h0, q _ H (Same.refl H) (El.int h)⟩
theorem mk_neg {i : Int} (h : (-i).natAbs < 10 ^ 31) : Mk K p H0 σ 0 (tUn (rU fun i => V.int (-i)) (tC (.int i))) := fun H R s P q => ⟨i, rfl, q _ H (Same.refl H) (El.int h)⟩
theorem mk_sub0 {i : Nat} {g : Int} (hv : σ[i]? = some (some (.int g))) (h : (0 - g).natAbs < 10 ^ 31) : Mk K p H0 σ 0 (tOp (rI0 fun i j => V.int (i - j)) (tC (.int 0)) (tVar i)) := fun H R s P q =>
  ⟨_, hv, _, _, rfl, rfl, q _ H (Same.refl H) (El.int h)⟩
/-- [e] * 3 -/
theorem mk_rep3 {k : Nat} {te : TE} (h : Mk K p H0 σ k te) : Mk K p H0 σ (k + 1) (tOp rRep (tLst (tCons te tNil)) (tC (.int 3))) := fun H R s P q =>
  h H _ s P fun x H1 s1 ex => ⟨by show 1 ≤ sizeLine; decide, fun a ha => ⟨a, _, _, rfl, rfl, upd_same, by decide, by decide, (by show 1 * 3 ≤ sizeLine; decide), fun b hb =>
    q _ _ (s1.trans ((same_new ha).trans (same_new hb))) (El.lst (xs := [x, x, x]) ((off_ne (((P.keep s1).keep (same_new ha)).new hb)).trans upd_same)
      (fun y hy => by
        have e : y = x := by simpa using hy
        rw [e]
        exact ex.mono (same_off ((same_new ha).trans (same_new hb)))) (by show 3 ≤ 3; decide))⟩⟩
/-- found = [..] -/
theorem lst_mk {n : Nat} {tas : TA} {Q : VK} (P : Pot p H0) (h : MkL K p H0 σ 2 n tas) (hl : n ≤ 60)
    (q : ∀ a ys H', Same H0 H' → H' a = some (.lst ys) → H0 a = none → (∀ x ∈ ys, El K (off p H') 2 x) → ys.length = n → Q (.ref a) H') : tLst tas σ H0 Q := by
  refine h H0 _ (Same.refl _) P fun ys H1 s1 ey l => ⟨by rw [l]; exact Nat.le_of_lt (small1000 (by omega)), fun a ha => ?_⟩
  exact q a ys _ (s1.trans (same_new ha)) upd_same (s1.free ha) (fun x hx => (ey x hx).mono (same_off (same_new ha))) l
/-- found = found + [..] -/
theorem cat_mk {n : Nat} {tas : TA} {m : Addr} {xs : List V} {i : Nat} {Q : VK} (hv : σ[i]? = some (some (.ref m))) (e : H0 m = some (.lst xs)) (P : Pot p H0) (es : ∀ x ∈ xs, El K (off p H0) 2 x) (h : MkL K p H0 σ 2 n tas) (hl : xs.length + n ≤ 60)
    (q : ∀ a ys H', Same H0 H' → H' a = some (.lst ys) → H0 a = none → (∀ x ∈ ys, El K (off p H') 2 x) → ys.length = xs.length + n → Q (.ref a) H') : tOp rCat (tVar i) (tLst tas) σ H0 Q := by
  refine ⟨_, hv, h H0 _ (Same.refl _) P fun ys H1 s1 ey l => ⟨by rw [l]; exact Nat.le_of_lt (small1000 (by omega)), fun a ha => ?_⟩⟩
  refine ⟨m, a, xs, ys, rfl, rfl, (same_new ha) _ _ (s1 _ _ e), upd_same, Nat.le_of_lt (small1000 (by omega)), fun b hb => ?_⟩
  have s2 := (same_new ha (o := .lst ys)).trans (same_new hb (o := .lst (xs ++ ys)))
  refine q b (xs ++ ys) _ (s1.trans s2) upd_same (s1.free ((same_new ha).free hb)) (fun x hx => ?_) (by rw [List.length_append, l])
  rcases List.mem_append.mp hx with h | h
  · exact (es x h).mono (same_off (s1.trans s2))
  · exact (ey x h).mono (same_off s2)
end
end Vx
/-! ## G24 -/
set_option Elab.async false
set_option linter.all false
set_option maxRecDepth 100000
set_option maxHeartbeats 4000000
namespace Vx
open PySem PySem.Spec PyProof.Rows L2 He
/-- a list or a tuple, walked -/
def iSeq (K : PySem.W.Frag) (tl : TE) : TI := fun σ H R => tl σ H fun x H1 => ∃ a, x = .ref a ∧ (((∃ xs, SqL K H1 a xs) ∧ R (Itl K a) H1) ∨ ((∃ xs, SqT K H1 a xs) ∧ R (Itt K a) H1))
theorem pi_seq {X : Cx} {tg l : Expr} {tl : TE} (hl : PE X l tl) : PI X tg l (iSeq X.K tl) := ⟨fun pins s0 σ H0 R I0 hyp => by
  refine thn (hl.run pins s0 σ H0 _ I0 hyp) fun val s2 ⟨y, H2, I2, ry, cont⟩ => ?_
  obtain ⟨adr, rfl, cont⟩ := cont
  cases ry
  rcases cont with ⟨⟨ys, hs⟩, fin⟩ | ⟨⟨ys, hs⟩, fin⟩
  · obtain ⟨itm, rel, isl, _⟩ := I2.list hs
    refine wpAny_pyIter_list isl.isList ⟨_, [s2.heap.objs.size], _, _, H2, rfl, I2.kept (t' := s2.toks) (fun _ _ z => Heap.get?_push_of_some _ z), turn_list adr _, ⟨_, Heap.get?_push_size _ rfl, rfl, rfl⟩, fun c hc => ?_, fin⟩
    obtain rfl : c = s2.heap.objs.size := by simpa using hc
    exact I2.fpOk (Nat.le_refl _) (I2.hok.fresh (Nat.le_refl _))
  · obtain ⟨itm, rel, ist, _⟩ := I2.tuple hs
    refine wpAny_pyIter_tuple (show s2.heap.IsTuple adr itm.toArray from ist) ⟨_, [s2.heap.objs.size], _, _, H2, rfl, I2.kept (t' := s2.toks) (fun _ _ z => Heap.get?_push_of_some _ z), turn_tuple adr _, ⟨_, Heap.get?_push_size _ rfl, rfl, rfl⟩, fun c hc => ?_, fin⟩
    obtain rfl : c = s2.heap.objs.size := by simpa using hc
    exact I2.fpOk (Nat.le_refl _) (I2.hok.fresh (Nat.le_refl _))⟩
theorem pi_seqK {X : Cx} {K : PySem.W.Frag} {tg l : Expr} {tl : TE} (hK : X.K = K) (hl : PE X l tl) : PI X tg l (iSeq K tl) := by
  subst hK
  exact pi_seq hl
section
variable {K : PySem.W.Frag} {σ : L2.St} {H : Hp}
/-- [g(part) for part in x], x a list or a tuple of data -/
theorem da_lcS {x : V} {d : PyData} {j : Nat} {vs : List Nat} {tl te : TE} {Q : VK} (g : PyData → Bool) (hv : ∀ R : VK, R x H → tl σ H R) (hd : Da K H x d) (ok : okD d = true) (sq : seqD d = true)
    (ht : ∀ v d H1 (R : VK), Da K H1 v d → okD d = true → (∀ H2, Same H1 H2 → R (.bl (g d)) H2) → te ((wipe σ vs).set j (some v)) H1 R)
    (hw : ∀ x, wipe ((wipe σ vs).set j (some x)) vs = wipe σ vs)
    (q : ∀ D H' ds, H D = none → Same H H' → (d = .list ds ∨ d = .tuple ds) → H' D = some (.lst ((ds.map g).map V.bl)) → Q (.ref D) H') : tLc (iSeq K tl) (gName j) tYes te vs σ H Q := by
  cases hd with
  | non => cases sq
  | bl _ => cases sq
  | int _ => cases sq
  | str _ => cases sq
  | dK _ _ => cases sq
  | dT _ _ => cases sq
  | @lst a xs ds hp r =>
    refine hv _ ⟨a, rfl, .inl ⟨⟨_, hp⟩, fun D hD => lc_list (K := K) (a := a) (xs := xs) (fun i H' => H D = none ∧ Same H H' ∧ H' D = some (.lst ((ds.map fun d => V.bl (g d)).take i))) ⟨hD, same_new hD, upd_same⟩
      (fun i H' _ z => z.2.1.seq hp) (fun i x H' hi z => ⟨hw x, das_step hi r (okLst ok).2 (okLst ok).1 ht z fun _ h => h⟩) fun H' z => q D H' ds z.1 z.2.1 (.inl rfl) (z.2.2.trans ?_)⟩⟩
    rw [das_end r.len]
  | @tup a xs ds hp r =>
    refine hv _ ⟨a, rfl, .inr ⟨⟨_, hp⟩, fun D hD => lc_tup (K := K) (a := a) (xs := xs) (fun i H' => H D = none ∧ Same H H' ∧ H' D = some (.lst ((ds.map fun d => V.bl (g d)).take i))) ⟨hD, same_new hD, upd_same⟩
      (fun i H' _ z => Vx.seqT z.2.1 hp) (fun i x H' hi z => ⟨hw x, das_step hi r (okTup ok).2 (okTup ok).1 ht z fun _ h => h⟩) fun H' z => q D H' ds z.1 z.2.1 (.inr rfl) (z.2.2.trans ?_)⟩⟩
    rw [das_end r.len]
theorem show_bools (bs : List Bool) (h : bs.length ≤ 60) : Show (.list (bs.map PyData.bool)) :=
  G_menu (fun d hd => by obtain ⟨b, _, rfl⟩ := List.mem_map.mp hd; exact (G_bl b).up.up) (by rw [List.length_map]; exact h)
theorem das_bools : ∀ bs : List Bool, Das K H (bs.map V.bl) (bs.map PyData.bool)
  | [] => .nil
  | b :: bs => .cons (.bl b) (das_bools bs)
/-- isinstance(x, (list, tuple)) and all([pair(part) for part in x]) -/
theorem all_pair {i j : Nat} {vs : List Nat} {x : V} {d : PyData} {te : TE} {Q : VK} (hv : ∀ H : Hp, ∀ R : VK, R x H → tVar i σ H R) (hd : Da K H x d) (ok : okD d = true)
    (ht : ∀ v d H1 (R : VK), Da K H1 v d → okD d = true → (∀ H2, Same H1 H2 → R (.bl (pairD d)) H2) → te ((wipe σ vs).set j (some v)) H1 R)
    (hw : ∀ x, wipe ((wipe σ vs).set j (some x)) vs = wipe σ vs) (q : ∀ H', Same H H' → Q (.bl (rowD d)) H') :
    tAndV (tCB (rIsDT K) (tCons (tVar i) (tCons (tTup (tCons (tC (.ty "list")) (tCons (tC (.ty "tuple")) tNil))) tNil))) (tCB (rAll K) (tCons (tLc (iSeq K (tVar i)) (gName j) tYes te vs) tNil)) σ H Q := by
  refine hv _ _ ⟨by show 2 ≤ sizeLine; decide, fun a ha => ⟨x, d, a, rfl, upd_same, hd.mono (same_new ha), _, rfl, ?_⟩⟩
  rw [isLT]
  cases e : seqD d with
  | false =>
    refine iteF ?_
    have e2 : rowD d = false := by
      cases d <;> first | rfl | cases e
    rw [← e2]
    exact q _ (same_new ha)
  | true =>
    refine iteT (in_cb (in_cons ?_))
    refine da_lcS (K := K) pairD (hv _) (hd.mono (same_new ha)) ok e ht hw fun D H2 ds n2 s2 ed e2 => ?_
    refine ⟨D, _, rfl, SqL.of e2, ?_⟩
    rw [all_map]
    have e3 : rowD d = ds.all pairD := by
      rcases ed with rfl | rfl <;> rfl
    rw [← e3]
    exact q _ ((same_new ha).trans s2)
/-- number(x) and x >= 0 -/
theorem cnt_ev {i : Nat} {x : V} {d : PyData} {Q : VK} (hv : ∀ H : Hp, ∀ R : VK, R x H → tVar i σ H R) (hd : Da K H x d) (ok : okD d = true) (q : ∀ H', Same H H' → Q (.bl (cntD d)) H') :
    tAndV (tCall (spP K numD) [] E0 (tCons (tVar i) tNil)) (tOp (rI0 fun i j => V.bl (decide (j ≤ i))) (tVar i) (tC (.int 0))) σ H Q := by
  refine hv _ _ ⟨x, d, rfl, hd, ok, fun H1 s1 => ⟨_, rfl, ?_⟩⟩
  have q1 := q H1 s1
  cases hd with
  | int i => exact iteT (hv _ _ ⟨_, _, rfl, rfl, q1⟩)
  | non => exact iteF q1
  | bl _ => exact iteF q1
  | str _ => exact iteF q1
  | lst _ _ => exact iteF q1
  | tup _ _ => exact iteF q1
  | dK _ _ => exact iteF q1
  | dT _ _ => exact iteF q1
end
end Vx
/-! ## G25 -/
set_option Elab.async false
set_option linter.all false
set_option maxRecDepth 100000
set_option maxHeartbeats 4000000
namespace Vx
open PySem PySem.Spec PyProof.Rows L2
section
variable {P : Program} {w : World} {K : PySem.W.Frag} {mg mb : Str → Option Value} {k : Nat} {fa a : Addr} {fd : FuncData} {x : Str} {sp : Sp} {t : Shared} {us : List Value} {zs : List Int}
/-- the call of the law at an abstract heap that tracks at most the script -/
theorem callAt (inK : K.In t.heap) (gN : t.heap.Ns mainGlobals mg) (bN : t.heap.Ns builtinsNs mb) (bOk : ∀ y : Str, y ≠ "__name__" → mb y = bootBuiltins y) (noL : t.heap.NoLimit) (noG : t.gens = #[])
    (scr : t.heap.get? a = some { cls := .type "list", data := .seq us.toArray }) (room : Room k callerA) (fn : ∀ base : Heap, K.In base → base.Ns mainGlobals mg → FnG P w K mg base CX0 k fa fd [x] sp)
    (bnd : ∀ (s : Shared) (u : Value), BindsTo s fd ⟨[u], []⟩ [(x, u)]) {H : Hp} (prom : sp [.ref a] H (fun v _ => v = .bl true) fun _ _ _ => False) (good : HOk P w H t.heap)
    (onl : ∀ b u, H b = some u → b = a ∧ ∃ o xs, u = .frz o (.lst xs)) (offK : (H a).isSome = true → K.lookup a = none) :
    codeAny (model P w) callerA (.call (.ref fa) ⟨[.ref a], []⟩) (fun r s' => r = .ok (.ret (.bool true)) ∧ OldK t.heap s'.heap ∧ s'.os = t.os ∧ AllBare s'.gens) t := by
  -- what is not the script stands in the hidden heap too
  have keepD : ∀ {b : Addr} {o : Obj} {es : Array DictEntry} {n : Nat}, t.heap.get? b = some o → o.data = .dict es n → (hidT t.heap H).get? b = some o := by
    intro b o es n eo ed
    refine hidT_get eo ?_
    rcases hb : H b with _ | u
    · rfl
    · obtain ⟨rfl, _⟩ := onl b u hb
      rw [scr] at eo
      cases eo
      exact nomatch (show Data.seq us.toArray _ = Data.dict es n from ed)
  have keepN : ∀ {b : Addr} {m : Str → Option Value}, t.heap.Ns b m → (hidT t.heap H).Ns b m := by
    rintro b m ⟨o, es, n, h1, h2, h3⟩
    exact ⟨o, es, n, keepD h1 h2, h2, h3⟩
  have keepK : K.In (hidT t.heap H) := by
    intro b o eb
    refine hidT_get (inK b o eb) ?_
    rcases hb : H b with _ | u
    · rfl
    · obtain ⟨rfl, _⟩ := onl b u hb
      rw [offK (by rw [hb]; rfl)] at eb
      cases eb
  obtain ⟨ml, l1, l2⟩ := noL
  have env : Env0 P w K mg (hidT t.heap H) callerA [] t H :=
    ⟨rfl, ⟨keepK, keepN gN, ⟨mb, keepN bN, bOk⟩, ml, keepN l1, l2⟩, fun _ _ e => of_hidT e, Nat.le_of_eq (hidT_size _ _), trivial, (fun _ hb => nomatch hb), good, .of_eq noG⟩
  have go := (fn _ keepK (keepN gN)).go callerA [] t H ⟨[.ref a], []⟩ [.ref a] [.ref a] _ _ room rfl env (bnd t (.ref a)) (.cons rfl .nil) prom
  refine codeAny_mono go ?_
  rintro (er | fl) s2 out
  · exact out.elim
  · rcases fl with _ | _ | _ | u
    all_goals first | exact out.elim | skip
    obtain ⟨v, H2, sameOs, bare, kept, good2, rv, hv⟩ := out
    cases (show v = .bl true from hv)
    cases (show u = Value.bool true from rv)
    refine ⟨rfl, OldK.of_keep fun b o eb => ?_, sameOs, bare⟩
    rcases hb : H b with _ | u
    · exact kept.keep b o eb hb (fun z => nomatch (show b ∈ ([] : List Addr) from z)) (fun z => nomatch z)
    · obtain ⟨_, ob, xs, rfl⟩ := onl b u hb
      have q1 := (good b _ hb).1
      have q2 := (good2 b _ (kept.frzs b ob _ hb)).1
      rw [eb] at q1
      cases q1
      exact q2
/-- the script, tracked as it stands -/
def trk (o : Obj) (xs : List V) (a : Addr) : Hp := fun b => if b = a then some (.frz o (.lst xs)) else none
theorem callG (inK : K.In t.heap) (gN : t.heap.Ns mainGlobals mg) (bN : t.heap.Ns builtinsNs mb) (bOk : ∀ y : Str, y ≠ "__name__" → mb y = bootBuiltins y) (noL : t.heap.NoLimit) (noG : t.gens = #[])
    (scr : t.heap.get? a = some { cls := .type "list", data := .seq us.toArray }) (ii : IntsAre us zs) (few : zs.length ≤ sizeLine) (room : Room k callerA)
    (fn : ∀ base : Heap, K.In base → base.Ns mainGlobals mg → FnG P w K mg base CX0 k fa fd [x] sp) (bnd : ∀ (s : Shared) (u : Value), BindsTo s fd ⟨[u], []⟩ [(x, u)])
    (prom : ∀ H : Hp, SqL K H a (zs.map V.int) → sp [.ref a] H (fun v _ => v = .bl true) fun _ _ _ => False) :
    codeAny (model P w) callerA (.call (.ref fa) ⟨[.ref a], []⟩) (fun r s' => r = .ok (.ret (.bool true)) ∧ OldK t.heap s'.heap ∧ s'.os = t.os ∧ AllBare s'.gens) t := by
  have rel := vals_ints ii
  have len := ii.length
  rcases hk : K.lookup a with _ | o
  · have at_ : trk { cls := .type "list", data := .seq us.toArray } (zs.map V.int) a a = some (.frz { cls := .type "list", data := .seq us.toArray } (.lst (zs.map V.int))) := if_pos rfl
    refine callAt (H := trk { cls := .type "list", data := .seq us.toArray } (zs.map V.int) a) inK gN bN bOk noL noG scr room fn bnd (prom _ (.inl (.inr ⟨_, at_⟩))) ?_ ?_ fun _ => hk
    · intro b u eu
      by_cases hb : b = a
      · subst hb
        cases at_.symm.trans eu
        exact ⟨scr, by rw [List.length_map]; exact few, us, _, rel, scr⟩
      · cases (if_neg hb).symm.trans eu
    · intro b u eu
      by_cases hb : b = a
      · subst hb
        cases at_.symm.trans eu
        exact ⟨rfl, _, _, rfl⟩
      · cases (if_neg hb).symm.trans eu
  · have eo := inK a o hk
    rw [scr] at eo
    cases eo
    exact callAt (H := fun _ => none) inK gN bN bOk noL noG scr room fn bnd (prom _ (.inr ⟨_, us.toArray, _, hk, rfl, rfl, rfl, by rw [List.size_toArray, len]; exact few, by simpa using rel⟩))
      (fun _ _ z => nomatch z) (fun _ _ z => nomatch z) fun z => nomatch z
end
/-- the end of a law whose def keeps its promise where no repr is open -/
theorem walkG {l : PySem.W.OpenLaw} {n k : Nat} {q : Program} {loose : List Str} {XP : (Str → Option Value) → Heap → Prop} {YP : World → Heap → Prop} {d : DefRec} {x : Str} (most : l.most = some n) (n2 : n ≤ sizeLine) (nodf : d.params.defaults = []) (room : Room k callerA)
    (F : ∀ (w : World) (mg : Str → Option Value) (fa : Addr) (h : Heap), YP w h → h.Ns mainGlobals mg → mg d.name = some (.ref fa) → ∃ (K : PySem.W.Frag) (fd : FuncData) (sp : Sp), K.In h ∧ (∀ (s : Shared) (u : Value), BindsTo s fd ⟨[u], []⟩ [(x, u)]) ∧
      (∀ (H : Hp) (a : Addr) (zs : List Int), zs.length ≤ n → SqL K H a (zs.map V.int) → sp [.ref a] H (fun v _ => v = .bl true) fun _ _ _ => False) ∧ ∀ base : Heap, K.In base → base.Ns mainGlobals mg → FnG l.prog w K mg base CX0 k fa fd [x] sp) :
    PySem.W.WalkO q loose XP YP l.row.toRowW d [] (fun f vs => PySem.call f vs) := by
  refine Att.attach_call most nodf fun w t0 t mg mb fa o pm cd doc a us zs G Y ho hd hcd hmg scr ii len noG => ?_
  obtain ⟨K, fd, sp, inK, bnd, prom, fn⟩ := F w mg fa _ Y G.T.g hmg
  exact callG inK G.T.g G.T.b G.T.builtins G.T.nolimit noG scr ii (Nat.le_trans len n2) room fn bnd fun H hS => prom H a zs len hS
end Vx
/-! ## G26 -/
set_option Elab.async false
set_option linter.all false
set_option maxRecDepth 100000
set_option maxHeartbeats 4000000
namespace Vx
open PySem PySem.Spec PyProof.Rows L2 He
open PySem.W (keepIn findIn subIn typeIn hasDictIn mroIn specialIn takesIn)
/-! ### a def of the text whose promise holds whatever is open around; CX: what it may let out -/
structure Co (P : Program) (w : World) (K : PySem.W.Frag) (mg : Str → Option Value) (base : Heap) (CX : CXT) (k : Nat) (x : Str) (ps : List Str) (sp : Sp) : Prop where
  ex : ∃ (f : Addr) (fd : FuncData), FnOk P w K mg base CX k f fd ps sp ∧ mg x = some (.ref f) ∧ keepIn K (.ref f) = true ∧ Binds K fd ps []
section
variable {P : Program} {w : World} {K : PySem.W.Frag} {mg : Str → Option Value} {base : Heap} {CX : CXT} {k : Nat} {x : Str} {ps : List Str} {sp : Sp} {st : Stmt} {N : List Str}
theorem co_mk (F : At K mg x st) (S : FnScope N ps (defScope st)) (len : ∀ vs H Q E, sp vs H Q E → vs.length = ps.length)
    (hb : ∀ (kV doc pm : Value) (an : Option Addr) (cdv ct : Value) (us : List Value), us.length = ps.length → bindArgs (PySem.W.fnOf x x (defArgs st) (defBody st) (defScope st) .none kV doc pm an cdv ct) ⟨us, []⟩ = pure (ps.zip us))
    (hbody : ∀ (f : Addr) (cdv : Value) (A : Around) (outer : List Env) (s : Shared) (H : Hp) (vs : List V) (Q : VK) (E : XK),
      Room k (A.deeper (envOfC x (defScope st) s.heap.objs.size f cdv)) → sp vs H Q E →
      ∃ t, PSs (cxOf CX0 P w K mg base N x (defScope st) f cdv A outer s H E).nox (defBody st) t ∧ t { nx := fun _ H' => Q .non H', rt := Q } (start N vs) H) :
    Co P w K mg base CX0 (k + 1) x ps sp := by
  obtain ⟨f, fd, F, gf⟩ := F.ex
  exact ⟨f, fd, F.ok S len fun cdv A outer s H vs Q E hr h => hbody f cdv A outer s H vs Q E hr h, gf, F.kp, F.binds hb⟩
theorem co_mkX (F : At K mg x st) (S : FnScope N ps (defScope st)) (len : ∀ vs H Q E, sp vs H Q E → vs.length = ps.length)
    (hb : ∀ (kV doc pm : Value) (an : Option Addr) (cdv ct : Value) (us : List Value), us.length = ps.length → bindArgs (PySem.W.fnOf x x (defArgs st) (defBody st) (defScope st) .none kV doc pm an cdv ct) ⟨us, []⟩ = pure (ps.zip us))
    (hbody : ∀ (f : Addr) (cdv : Value) (A : Around) (outer : List Env) (s : Shared) (H : Hp) (vs : List V) (Q : VK) (E : XK),
      Room k (A.deeper (envOfC x (defScope st) s.heap.objs.size f cdv)) → sp vs H Q E →
      ∃ t, PSs (cxOf (L2.CX P w) P w K mg base N x (defScope st) f cdv A outer s H E) (defBody st) t ∧ t { nx := fun _ H' => Q .non H', rt := Q } (start N vs) H) :
    Co P w K mg base (L2.CX P w) (k + 1) x ps sp := by
  obtain ⟨f, fd, F, gf⟩ := F.ex
  exact ⟨f, fd, F.okX S len fun cdv A outer s H vs Q E hr h => hbody f cdv A outer s H vs Q E hr h, gf, F.kp, F.binds hb⟩
theorem Co.cd (C : Co P w K mg base CX0 k x ps sp) : Cd P w K mg base k x ps sp := by
  obtain ⟨f, fd, F, r⟩ := C.ex
  exact ⟨f, fd, FnG.of F, r⟩
end
section
variable {X : Cx} {CX : CXT} {k : Nat} {x : Str} {ps : List Str} {sp : Sp} {E : XK} {p pos apos : Pos} {e o : Expr} {es : List Expr} {t : TA} {ta : TE} {m : Str} {C g q : Addr} {mc : Value} {pl : Sem Bool}
/-- f(e, ..) -/
theorem pe_coX (C : Co X.prog X.w X.K X.mg X.base CX k x ps sp) (hx : Passes CX X E) (hr : Room k X.A) (hg : Gl X x) (ha : PA X (e :: es) t)
    (hdb : (x == ("__debug__" : Str)) = false := by decide) (he : starEach (e :: es) X.env = (false, eval e X.env) :: starEach es X.env := by rfl)
    (hpl : (backTo pos (starEach es X.env)).any (·.1) = false := by rfl) : PE X (.Call (.Name x p) (e :: es) [] pos) (tCall sp [] E t) := by
  obtain ⟨f, fd, F, gf, kf, b⟩ := C.ex
  exact pe_call F hr hg gf kf b .nil hx ha hdb he hpl
theorem pe_co (C : Co X.prog X.w X.K X.mg X.base CX0 k x ps sp) (hr : Room k X.A) (hg : Gl X x) (ha : PA X (e :: es) t)
    (hdb : (x == ("__debug__" : Str)) = false := by decide) (he : starEach (e :: es) X.env = (false, eval e X.env) :: starEach es X.env := by rfl)
    (hpl : (backTo pos (starEach es X.env)).any (·.1) = false := by rfl) : PE X (.Call (.Name x p) (e :: es) [] pos) (tCall sp [] E0 t) := pe_coX C pass0 hr hg ha hdb he hpl

/-! ### a staticmethod, read off its class -/
structure CSta (K : PySem.W.Frag) (C : Addr) (mc : Value) (m : Str) (q g : Addr) : Prop where
  at_ : PySem.W.findCls K (.ref C) mc m = some (.get (.builtin "staticmethod.__get__") (.ref q) .none (.ref C))
  rc : ∃ rest, PySem.W.recIn K q "staticmethod" = some (.ref g :: rest)
  kp : keepIn K (.ref g) = true
def tSta (C : Addr) (sp : Sp) (E : XK) (ta : TE) (t : TA) : TE := fun σ H Q => ta σ H fun x H1 => x = .ref C ∧ t σ H1 fun vs H2 => sp vs H2 Q E
theorem getsta_ok {pins : List (Addr × Obj)} {σ : L2.St} {H : Hp} {s : Shared} {A : Around} {E : Value → Shared → Prop} {b : Bool} {Q : Value → Shared → Prop} (I : Inv X pins σ H s) (r : ClX.CRead X.K C mc) (c : CSta X.K C mc m q g)
    (h : ∀ s', Inv X pins σ H s' → Q (.ref g) s') : wpAny (model X.prog X.w) A (getAttr (.ref C) m b) Q E s := by
  obtain ⟨rest, hp⟩ := c.rc
  exact PySem.W.cls_bind I.kIn r.rd c.at_ (wpAny_call (PySem.W.sm_get (s := { s with toks := s.toks + 1 }) I.kIn hp (PySem.W.handed_on rfl (h _ (I.tok _)))))
theorem pe_sta {fd : FuncData} (he : PE X o ta) (r : ClX.CRead X.K C mc) (c : CSta X.K C mc m q g) (F : FnOk X.prog X.w X.K X.mg X.base CX k g fd ps sp) (hb : Binds X.K fd ps []) (hx : Passes CX X E) (hr : Room k X.A) (ha : PA X (e :: es) t)
    (hst : starEach (e :: es) X.env = (false, eval e X.env) :: starEach es X.env := by rfl) (hpl : (backTo pos (starEach es X.env)).any (·.1) = false := by rfl)
    (ht : eval (.Call (.Attribute o m apos) (e :: es) [] pos) X.env = (do
      let ov ← eval o X.env
      standAt apos.atName
      let (f, first) ← holding [ov] (getMethod ov m pl)
      callWith pos f first (backTo pos (starEach (e :: es) X.env)) (backToKw pos (keywordEach [] X.env))) := by rfl) :
    PE X (.Call (.Attribute o m apos) (e :: es) [] pos) (tSta C sp E ta t) := by
  refine ⟨fun pins s σ H Q I h => ?_⟩
  refine PySem.W.methodCall_KW (pl := pl) (thn (he.run pins s σ H _ I h) fun u s1 ⟨x, H1, I1, rx, ex, q⟩ => ?_) ht
  subst ex
  obtain rfl : u = Value.ref C := rx
  refine PySem.W.method_cls I1.kIn r.ga (getsta_ok I1 r c fun s2 I2 => ?_)
  refine PySem.W.callWith_K (h₀ := X.base) I2.ok.mod.kin c.kp (thn (ha.run pos _ s2 σ H1 _ I2 q) fun us s3 ⟨vs, H2, I3, rv, q2⟩ => ⟨I3.kIn, ?_⟩) hst hpl
  exact run_fn F hr hb .nil hx I3 rv (by rw [List.append_nil]; exact q2)
end

/-! ### an own error, raised -/
section
variable {b : XB} {X : Cx} {e : Expr} {es : List Expr} {ta : TA} {f x : Str} {p pos pos2 : Pos} {C fI : Addr}
/-- C(e) where it is raised: its dict is an error's dict -/
def tRX (C : Addr) (f : Str) (ta : TA) : L2.St → Hp → XK → Prop := fun σ H Q => ta σ H fun vs H1 => ∃ y, vs = [y] ∧ ∀ d, H1 d = none → Q (.ref C) (some d) (upd H1 d (.xd [(f, y)]))
theorem pmk_x {k : Nat} {fd : FuncData} (T : XcC b X.K C) (no : findIn X.K (.ref C) f = some none) (iC : findIn X.K (.ref C) "__init__" = some (some (.ref fI))) (tI : typeIn X.K (.ref fI) = some (.type "function"))
    (F1 : FnOk X.prog X.w X.K X.mg X.base CX0 k fI fd ["self", f] (spX1 b X.K f)) (hr : Room (k + 1) X.A) (hb : KBinds X.K fd ["self", f] [] (fun us _ => us) (fun vs _ => vs)) (hg : Gl X x) (hm : X.mg x = some (.ref C)) (ha : PA X (e :: es) ta)
    (db : (x == ("__debug__" : Str)) = false := by decide) (st : starEach (e :: es) X.env = (false, eval e X.env) :: starEach es X.env := by rfl) (pl : (backTo pos (starEach es X.env)).any (·.1) = false := by rfl) :
    PMk X (.Call (.Name x p) (e :: es) [] pos) (tRX C f ta) := by
  intro pins s σ H Q I q
  obtain ⟨nm, qn, N, bs, bm, sn, sub, ab, col, dd, k0, k1, k2, k3, k5, inK, tail⟩ := T.cls
  refine wpAny_Call_Name_kw (ld_glob I hg hm (PySem.W.callWith_K (h₀ := X.base) I.ok.mod.kin T.kC (thn (ha.run pos pins s σ H _ I q) fun us s1 out => ?_) st pl) db)
  obtain ⟨vs, H1, I1, r1, y, rfl, q1⟩ := out
  refine ⟨I1.kIn, ?_⟩
  obtain ⟨hp, gs, dr, tk, os⟩ := s1
  -- the new error's place and heap
  generalize hh : (hp.push (PySem.W.kdv_tup us)).push (PySem.HandSPX.excO C hp.objs.size) = hn
  have keep : ∀ c o, hp.get? c = some o → hn.get? c = some o := fun c o z => by
    rw [← hh]
    exact Heap.get?_push_of_some _ (Heap.get?_push_of_some _ z)
  have new : hn.get? (hp.objs.size + 1) = some (PySem.HandSPX.excO C hp.objs.size) := by
    rw [← hh]
    heap_get
  have far : hp.objs.size ≤ hp.objs.size + 1 := Nat.le_succ _
  have none1 : H1 (hp.objs.size + 1) = none := I1.hok.fresh far
  have I2 := I1.laid (t' := tk) (o := exo (hp.objs.size + 1) C none) keep far (exo_ok new)
  have rel : Vals [V.ref (hp.objs.size + 1), y] (Value.ref (hp.objs.size + 1) :: us) := .cons rfl r1
  have one : us.length ≤ sizeLine := by
    rw [← r1.length]
    show 1 ≤ sizeLine
    decide
  have prom : spX1 b X.K f [.ref (hp.objs.size + 1), y] (upd H1 (hp.objs.size + 1) (exo (hp.objs.size + 1) C none)) (fun v H2 => v = .non ∧ ∃ d, H1 d = none ∧ d ≠ hp.objs.size + 1 ∧
      H2 = upd (upd (upd H1 (hp.objs.size + 1) (exo (hp.objs.size + 1) C none)) d (exd d [(f, y)])) (hp.objs.size + 1) (exo (hp.objs.size + 1) C (some d))) (fun _ _ _ => False) :=
    ⟨_, C, y, rfl, T, no, upd_same, fun d hd ne => ⟨rfl, d, (upd_ne ne).symm.trans hd, ne, rfl⟩⟩
  have ini := F1.run _ X.stack _ _ ⟨Value.ref (hp.objs.size + 1) :: us, []⟩ (Value.ref (hp.objs.size + 1) :: us) _ _ (fun _ _ _ => False) (hr.make C us []) (I2.env0.make C us []) (hb.to _ _ [] I2.kIn rel.length.symm) rel prom
  subst hh
  refine wpAny_call (xcall (kw := []) b.F (fun Y => PySem.W.excTail_contains Y bm tail) (I1.kIn _ _ inK) (PySem.W.looks_findIn I1.kIn iC) (fun self => PySem.W.bind_fn I1.kIn self tI) one (codeAny_mono ini fun r s2 out => ?_))
  rcases r with er | fl
  · exact (show False from out).elim
  · rcases fl with _ | _ | _ | u
    all_goals first | exact False.elim out | skip
    obtain ⟨v, H2, same, bare, un, good, rv, rfl, d, none2, ne, e2⟩ := out
    have atA : H2 (hp.objs.size + 1) = some (exo (hp.objs.size + 1) C (some d)) := by rw [e2, upd_same]
    have atD : H2 d = some (exd d [(f, y)]) := by rw [e2, upd_ne ne, upd_same]
    obtain ⟨h2, g2, d2, t2, os2⟩ := s2
    refine ⟨rv, mk_end (raises_own T.exC T.tyC) I1 far keep un good same bare atA atD none2 ?_⟩
    have back : upd (del H2 (hp.objs.size + 1)) d (.xd [(f, y)]) = upd H1 d (.xd [(f, y)]) := by
      funext c
      by_cases c1 : c = d
      · rw [c1, upd_same, upd_same]
      · rw [upd_ne c1, upd_ne c1]
        by_cases c2 : c = hp.objs.size + 1
        · rw [c2, del_same, none1]
        · rw [del_ne c2, e2, upd_ne c2, upd_ne c1, upd_ne c2]
    rw [back]
    exact q1 d none2
theorem ps_rx {c : Str} (T : ErrC X.prog X.w X.K X.mg X.base b c f C) (hr : Room 2 X.A) {W : WX} (hc : X.calm = true) (tk : Takes X W) (hg : Gl X c) (ha : PA X [e] ta)
    (hdb : (c == ("__debug__" : Str)) = false := by decide) (he : starEach [e] X.env = (false, eval e X.env) :: starEach [] X.env := by rfl) (hpl : (backTo pos (starEach [] X.env)).any (·.1) = false := by rfl) :
    PS X (.Raise (some (.Call (.Name c p) [e] [] pos)) none pos2) (fun _ σ H => tRX C f ta σ H fun cls d H' => W cls d σ H') := by
  obtain ⟨fI, fd, iC, tI, F1, hb, _⟩ := T.ini
  exact ps_raise hc tk (pmk_x T.T T.no iC tI F1 hr hb hg T.hm ha hdb he hpl)
end
end Vx
/-! ## G27 -/
set_option Elab.async false
set_option linter.all false
set_option maxRecDepth 100000
set_option maxHeartbeats 5000000
namespace Vx
open PySem PySem.Spec PyProof.Rows L2 He
open PySem.W (keepIn findIn subIn typeIn hasDictIn mroIn specialIn takesIn)
/-! ### try: .. except x as n: .. except y as n: .. -/
abbrev Clause := Value × (Addr → Value → Option Addr → TS)
/-- behind a suite its name stands for nothing -/
def goneEnds (i : Nat) (D : Ends) : Ends := { nx := fun τ K => D.nx (τ.set i none) K, rt := D.rt, bk := fun τ K => D.bk (τ.set i none) K, ct := fun τ K => D.ct (τ.set i none) K }
/-- what the clauses wish of an error of the body, from the first on; their name is in slot i -/
def wClauses (K : PySem.W.Frag) (i : Nat) (Wout : WX) (D : Ends) : List Clause → WX
  | [] => Wout
  | q :: qs => fun cls d τ H => ∃ yes, PySem.W.exmOne K cls q.1 = some yes ∧ (yes = false → wClauses K i Wout D qs cls d τ H) ∧ (yes = true → ∀ a, H a = none → q.2 a cls d (goneEnds i D) (τ.set i (some (.ref a))) H)
/-- one clause by its suite -/
structure ClauseOk (X : Cx) (n : Str) (h : ExceptHandler) (q : Clause) : Prop where
  ex : ∃ (x : Str) (first : Stmt) (more : List Stmt) (p1 p2 : Pos), h = .ExceptHandler (some (.Name x p1)) (some n) (first :: more) p2 ∧ Names X x q.1 ∧
    ∀ (a : Addr) (oe : Obj) (cls : Value) (d : Option Addr) (pn : List (Addr × Obj)), Zc cls d oe → (∃ vs, oe.data = .fields vs) → PSs (X.suite a ((a, oe) :: pn)) (first :: more) (q.2 a cls d)
section
variable {X : Cx} {pins : List (Addr × Obj)} {n : Str} {i : Nat}
/-- the error a in the air over the ground B, all else as the invariant says -/
structure Aloft (X : Cx) (pins : List (Addr × Obj)) (τ : L2.St) (H : Hp) (a : Addr) (cls : Value) (d : Option Addr) (s0 : Shared) (B : Heap) (s : Shared) : Prop where
  inv : Inv X pins τ H s0
  ground : ∀ b o, s0.heap.get? b = some o → b ∉ frs X.stack → B.get? b = some o
  fly : HandSPX.FlyingZ B (X.env :: X.outer) a (Zc cls d) s.heap
  up : s0.heap.UpToSlots s.heap
  free : H a = none
  os : s.os = s0.os
  bare : AllBare s.gens
variable {τ : L2.St} {H : Hp} {a : Addr} {cls : Value} {d : Option Addr} {s0 s : Shared} {B : Heap}
theorem Aloft.now (F : Aloft X pins τ H a cls d s0 B s) : Inv X pins τ H s := F.inv.landed F.ground F.fly.1 F.up F.os F.bare
theorem Aloft.off (F : Aloft X pins τ H a cls d s0 B s) (hf : X.env.frame = some X.env.locals) : a ≠ X.env.locals ∧ a ∉ X.fs := by
  obtain ⟨oa, va, ga, _, da⟩ := F.fly.there
  have far : a ∉ frs (X.env :: X.outer) := fun bad => by
    obtain ⟨_, ob, gb, other⟩ := F.fly.2.2.1.mem bad
    cases ga.symm.trans gb
    exact other _ da
  refine ⟨fun same => far (List.mem_filterMap.mpr ⟨X.env, List.mem_cons_self .., hf.trans (by rw [same])⟩), fun bad => ?_⟩
  obtain ⟨env, henv, q⟩ := List.mem_filterMap.mp bad
  exact far (List.mem_filterMap.mpr ⟨env, List.mem_cons_of_mem _ henv, q⟩)
/-- no clause is left: it goes on -/
theorem Aloft.onward {Wout : WX} {Q : Flow → Shared → Prop} (F : Aloft X pins τ H a cls d s0 B s) (hs : X.stack = X.env :: X.outer) (hf : X.env.frame = some X.env.locals) (tk : Takes X Wout) (w : Wout cls d τ H) :
    wpAny (model X.prog X.w) X.A (handleBy (.ref a) X.env []) Q X.xe s := by
  have fly := F.fly
  obtain ⟨_, _, _, oa, va, T, _, _, ga, _, da, at1, _⟩ := id fly
  have last : wpAny (model X.prog X.w) X.A (setFlight (.ref a) X.env.frame) (fun _ s' => wpAny (model X.prog X.w) X.A (throw (.ref a) : Sem Flow) Q X.xe s') X.xe s := by
    rw [hf]
    exact HandSPX.setFlight_upZ fly fun h' held up' => wpAny_throw (tk _ _ ⟨a, B, s0, pins, τ, H, cls, d, rfl, F.inv, F.ground, F.up.trans up', .inr (.inr (by rw [hs]; exact held)), F.free, F.os, F.bare, w⟩)
  refine wpAny_handleBy_nil ?_
  unfold PySem.passOn
  refine wpAny_bind (wpAny_field ga da at1 ?_)
  have some_ : ¬ ((Value.ref T == Value.none) = true) := by simp
  rw [if_neg some_]
  first
    | exact wpAny_bind last
    | exact wpAny_bind (wpAny_pure (wpAny_bind last))
theorem Aloft.suite (F : Aloft X pins τ H a cls d s0 B s) (hf : X.env.frame = some X.env.locals) : ∃ oa, Zc cls d oa ∧ (∃ vs, oa.data = .fields vs) ∧ Inv (X.suite a ((a, oa) :: (X.pn ++ pins))) [] τ H s := by
  obtain ⟨oa, va, ga, za, da⟩ := F.fly.there
  obtain ⟨f1, f2⟩ := F.off hf
  exact ⟨oa, za, ⟨va, da⟩, F.now.suite ga da F.free f1 f2⟩
/-- the clauses, one after the other -/
theorem Aloft.clauses {Wout : WX} {D : Ends} (hs : X.stack = X.env :: X.outer) (hf : X.env.frame = some X.env.locals) (nd : X.N.Nodup) (hi : X.N[i]? = some n) (ln : X.env.kindOf n = some .local) (tk : Takes X Wout) :
    ∀ {hds : List ExceptHandler} {qs : List Clause}, Paired (ClauseOk X n) hds qs → Aloft X pins τ H a cls d s0 B s → wClauses X.K i Wout D qs cls d τ H →
      wpAny (model X.prog X.w) X.A (handleBy (.ref a) X.env hds) (SP X pins D) X.xe s
  | _, _, .nil, F, w => F.onward hs hf tk w
  | _, _, .cons (b := q) ok rest, F, w => by
    obtain ⟨x, first, more, p1, p2, rfl, nm, run⟩ := ok.ex
    obtain ⟨yes, hyes, wno, wyes⟩ := w
    obtain ⟨oa, za, fa, S⟩ := F.suite hf
    have good := F.inv.ok
    have ask : ∀ {Q' : Value → Shared → Prop} {E' : Value → Shared → Prop}, Q' q.1 s → wpAny (model X.prog X.w) (X.A.mark (some (.ref a))) (eval (.Name x p1) X.env) Q' E' s := fun {Q' E'} hq => by
      obtain ⟨g1, g2, g3 | ⟨g3, g4, g5⟩⟩ := nm
      · exact ld_glob (X := X.suite a ((a, oa) :: (X.pn ++ pins))) S g1 g3 hq g2
      · exact ld_blt (X := X.suite a ((a, oa) :: (X.pn ++ pins))) S g1 g3 g4 hq g5 g2
    have tyA : PySem.W.Looks (model X.prog X.w) s.heap (typeOf (.ref a)) cls := fun A' Q' E' s' keep hq => by
      obtain ⟨o', _, g', z', _⟩ := F.fly.there
      exact wpAny_typeOf_ref (keep _ _ g') (by rw [z'.1]; exact hq)
    refine wpAny_handleBy_cons (codeAny_handlers_test (ask ((PySem.W.exm_one F.now.kIn tyA hyes).here ?_))) (fun z => nomatch z)
    cases yes with
    | false => exact Aloft.clauses hs hf nd hi ln tk rest F (wno rfl)
    | true =>
      refine codeAny_handlers_suite_as (HandSPX.lands_againZ F.fly fun h' fly' up' => ?_)
      have F' : Aloft X pins τ H a cls d s0 B { s with heap := h' } := ⟨F.inv, F.ground, fly', F.up.trans up', F.free, F.os, F.bare⟩
      obtain ⟨ob, zb, fb, S'⟩ := F'.suite hf
      refine store_ok (X := X.suite a ((a, ob) :: (X.pn ++ pins))) (v := .ref a) S' nd hi (.inl ln) rfl (fun s1 S1 => ?_) (.inr ln)
      refine wpAny_mono ((run a ob cls d (X.pn ++ pins) zb fb).run [] s1 _ H _ S1 (wyes rfl a F.free)) (fun fl s2 out => ?_) (fun _ _ bad => bad.elim)
      have leave : ∀ {τ2 : L2.St} {H2 : Hp} {R : Shared → Prop}, Inv (X.suite a ((a, ob) :: (X.pn ++ pins))) [] τ2 H2 s2 → (∀ s3, Inv X pins (τ2.set i none) H2 s3 → R s3) →
          wpAny (model X.prog X.w) X.A (do bindName X.env n .none; unbindBehindTheSuite X.env n p2) (fun _ s3 => R s3) X.xe s2 := fun S2 r => gone_ok (S2.unsuite good) nd hi ln r
      rcases fl with _ | _ | _ | u
      · obtain ⟨τ2, H2, S2, q2⟩ := out
        exact leave S2 fun s3 J => ⟨_, _, J, q2⟩
      · obtain ⟨τ2, H2, S2, q2⟩ := out
        exact leave S2 fun s3 J => ⟨_, _, J, q2⟩
      · obtain ⟨τ2, H2, S2, q2⟩ := out
        exact leave S2 fun s3 J => ⟨_, _, J, q2⟩
      · obtain ⟨v2, τ2, H2, S2, r2, q2⟩ := out
        exact leave S2 fun s3 J => ⟨_, _, _, J, r2, q2⟩
/-- the whole statement -/
theorem ps_clauses {body : List Stmt} {h₀ : ExceptHandler} {hds : List ExceptHandler} {qs : List Clause} {pos : Pos} {tb : WX → TS} {Wout : WX} (hs : X.stack = X.env :: X.outer) (hf : X.env.frame = some X.env.locals) (nd : X.N.Nodup)
    (hi : X.N[i]? = some n) (ln : X.env.kindOf n = some .local) (tk : Takes X Wout)
    (hb : ∀ (W : WX) (pn : List (Addr × Obj)) (xe : Value → Shared → Prop), Takes (X.tr pn xe) W → PassesOwn (model X.prog X.w) X.A X.env xe → PSs (X.tr pn xe) body (tb W))
    (cl : Paired (ClauseOk X n) (h₀ :: hds) qs) : PS X (.Try body (h₀ :: hds) [] [] pos) (fun D σ H => tb (wClauses X.K i Wout D qs) D σ H) := by
  refine ⟨fun pins s σ H D I q => ?_⟩
  have good := I.ok
  have frames : X.A.frames = some (X.env :: X.outer) := good.frames.trans (congrArg some hs)
  let seen : Value → Shared → Prop := fun e s₁ => wpAny (model X.prog X.w) X.A (noteFrame e X.env) (fun _ s₂ => wpAny (model X.prog X.w) X.A (setFlight e none) (fun _ s₃ => wpAny (model X.prog X.w) X.A (handleBy e X.env (h₀ :: hds)) (SP X pins D) X.xe s₃) X.xe s₂) X.xe s₁
  have takes : Takes (X.tr (X.pn ++ pins) seen) (wClauses X.K i Wout D qs) := fun u s' air => by
    obtain ⟨a, B, s0, pins', τ, H', cls, d, rfl, J, ground, up, sky, free, os, bare, w⟩ := air
    have sky2 : Sky B (X.env :: X.outer) a (Zc cls d) X.env.locals s'.heap := hs ▸ sky
    exact Sky.land Zc.steady frames hf sky2 fun h' fly up' => Aloft.clauses hs hf nd hi ln tk cl ⟨J.ofTry good, ground, fly, up.trans up', free, os, bare⟩ w
  refine wpAny_Try_except (wpAny_mono ((hb _ _ seen takes PassesOwn.looking).run [] s σ H D (I.toTry _) q) (fun fl s1 out => ?_) fun _ _ z => z)
  rcases fl with _ | _ | _ | u
  · obtain ⟨τ, H', J, r⟩ := out
    exact wpAny_execs_nil ⟨τ, H', J.ofTry good, r⟩
  · obtain ⟨τ, H', J, r⟩ := out
    exact ⟨τ, H', J.ofTry good, r⟩
  · obtain ⟨τ, H', J, r⟩ := out
    exact ⟨τ, H', J.ofTry good, r⟩
  · obtain ⟨v, τ, H', J, rv, r⟩ := out
    exact ⟨v, τ, H', J.ofTry good, rv, r⟩
end

/-! ### the caught error's field, its kind -/
/-- the reading of e.f: the error at a, caught -/
def tXsf (a : Addr) (cls : Value) (d : Option Addr) (K : PySem.W.Frag) (f : Str) (te : TE) : TE := fun σ H Q => te σ H fun x H1 => x = .ref a ∧ ∃ (b : XB) (C dd : Addr) (fs : List (Str × V)) (v : V), cls = .ref C ∧ XcC b K C ∧ findIn K (.ref C) f = some none ∧ d = some dd ∧ H1 dd = some (.xd fs) ∧ fs.lookup f = some v ∧ Q v H1
section
variable {X : Cx} {a : Addr} {oe : Obj} {cls : Value} {d : Option Addr} {pn : List (Addr × Obj)}
theorem suite_inst {pins : List (Addr × Obj)} {σ : L2.St} {H : Hp} {s : Shared} {C dd : Addr} {fs : List (Str × V)} (I : Inv (X.suite a ((a, oe) :: pn)) pins σ H s) (hz : Zc (.ref C) (some dd) oe) (hf : ∃ vs, oe.data = .fields vs) (ea : H dd = some (.xd fs)) :
    ∃ (od : Obj) (mA : Str → Option Value), PySem.W.InstAt s.heap a oe C (some od) ∧ (∀ n, PySem.W.lookIn n od = some (mA n)) ∧ ∀ g, RelO (fs.lookup g) (mA g) := by
  obtain ⟨vs, hv⟩ := hf
  obtain ⟨mA, ns, rel⟩ : ∃ mA, s.heap.Ns1 dd mA ∧ ∀ g, RelO (fs.lookup g) (mA g) := I.hok dd _ ea
  obtain ⟨od, hod, look⟩ := lookIn_ns ns
  refine ⟨od, mA, ⟨(I.pin (a, oe) (List.mem_append_left _ (List.mem_cons_self ..))).1, hz.1, ?_, ?_⟩, look, rel⟩
  · unfold PySem.W.notCls
    rw [hv] <;> rfl
  · rw [hz.2]
    exact hod
theorem pe_xsf {e : Expr} {te : TE} {pos : Pos} {n : Str} (hz : Zc cls d oe) (hf : ∃ vs, oe.data = .fields vs) (he : PE (X.suite a ((a, oe) :: pn)) e te) (hb : attributeBase e n X.env (eval e X.env) = eval e X.env := by rfl) :
    PE (X.suite a ((a, oe) :: pn)) (.Attribute e n pos) (tXsf a cls d X.K n te) := by
  refine ⟨fun pins s σ H Q I q => attr_of hb (thn (he.run pins s σ H _ I q) fun u s1 out => ?_)⟩
  obtain ⟨x, H1, I1, rx, ex, b, C, dd, fs, v, ec, T, no, ed, ea, lk, q1⟩ := out
  subst ex ec ed
  cases rx
  obtain ⟨od, mA, J, look, rel⟩ := suite_inst I1 hz hf ea
  obtain ⟨u, hu, ru⟩ := RelO.some_of (v := v) (o := mA n) (by rw [← lk]; exact rel n)
  exact HandSPX.exc_get I1.kIn J T.ga T.gg T.exC (PySem.W.findObj_own T.hdC no rfl (by rw [look, hu])) (handed_of ru) ⟨v, H1, I1.tok _, ru, q1⟩
/-- isinstance(e, c), e the caught error -/
def rIsS (a : Addr) (cls : Value) (d : Option Addr) (K : PySem.W.Frag) : List V → Hp → VK → Prop := fun xs H Q => ∃ (b : XB) (C dd : Addr) (fs : List (Str × V)) (c : V) (cv : Value) (r : Bool), xs = [.ref a, c] ∧ cls = .ref C ∧ XcC b K C ∧ d = some dd ∧ H dd = some (.xd fs) ∧ (∀ u, RelV c u → u = cv) ∧
  PySem.W.kitOne K (.ref C) cv = some r ∧ Q (.bl r) H
theorem call_isS (G : XcG X.K) (hz : Zc cls d oe) (hf : ∃ vs, oe.data = .fields vs) : CallR (X.suite a ((a, oe) :: pn)) (.builtin "isinstance") (rIsS a cls d X.K) := by
  intro pins s σ H xs us Q I rel q
  obtain ⟨b, C, dd, fs, c, cv, ans, ex, ec, T, ed, ea, only, kit, q⟩ := q
  subst ex ec ed
  obtain ⟨u, u2, rfl, r1, r2⟩ := vals2 rel
  cases r1
  obtain rfl := only _ r2
  obtain ⟨od, _, J, _, _⟩ := suite_inst I hz hf ea
  exact PySem.W.kia_one (xkit G T) I.kIn J kit (fun z => nomatch z) fun tk => ⟨.bl ans, H, I.kept (t' := tk) fun _ _ z => z, rfl, q⟩
end
end Vx
/-! ## G28 -/
set_option Elab.async false
set_option linter.all false
set_option maxRecDepth 100000
set_option maxHeartbeats 4000000
namespace Vx
open PySem PySem.Spec PyProof.Rows L2 He
/-! ### sorted of data -/
theorem each_of {α β : Type} {R : α → β → Prop} : ∀ {as : List α} {bs : List β}, Paired R as bs → PySem.W.EachIs R as bs
  | _, _, .nil => .nil
  | _, _, .cons h r => .cons h (each_of r)
theorem of_each {α β : Type} {R : α → β → Prop} : ∀ {as : List α} {bs : List β}, PySem.W.EachIs R as bs → Paired R as bs
  | _, _, .nil => .nil
  | _, _, .cons h r => .cons h (of_each r)
theorem each_vals {β : Type} {val : β → V} : ∀ {bs : List β} {us : List Value}, Vals (bs.map val) us → PySem.W.EachIs (fun v b => RelV (val b) v) us bs
  | [], _, .nil => .nil
  | _ :: _, _, .cons h r => .cons h (each_vals r)
theorem vals_each {β : Type} {val : β → V} : ∀ {bs : List β} {us : List Value}, PySem.W.EachIs (fun v b => RelV (val b) v) us bs → Vals (bs.map val) us
  | _, _, .nil => .nil
  | _, _, .cons h r => .cons h (vals_each r)
/-- sorted(xs), xs a list of data: the new list, told by what its items are -/
def rSortB (K : PySem.W.Frag) : List V → Hp → VK → Prop := fun vs H Q => ∃ (a : Addr) (β : Type) (bs : List β) (enc : β → PyData) (val : β → V), vs = [V.ref a] ∧ SqL K H a (bs.map val) ∧ (∀ b ∈ bs, Da K H (val b) (enc b)) ∧
  PySem.W.AllAlike (bs.map enc) ∧ PySem.W.Sortable (bs.map enc) ∧ (∀ b ∈ bs, (enc b).depth ≤ 20) ∧ ∀ p, H p = none → Q (.ref p) (upd H p (.lst ((bs.mergeSort (PySem.W.dataLe false enc)).map val)))
theorem cr_sortB {X : Cx} (hu : X.A.units + 64 < cLine) : CallR X (.builtin "sorted") (rSortB X.K) := by
  intro pins s σ H vs us Q I r h
  obtain ⟨a, β, bs, enc, val, rfl, hs, hd, hal, hk, hdp, q⟩ := h
  obtain ⟨its, rv, hl, hz⟩ := I.list hs
  obtain ⟨u, rfl, ru⟩ := vals1 r
  obtain rfl : u = Value.ref a := ru
  have ev := each_vals rv
  have er : ∀ {bs : List β} {us : List Value}, (∀ b ∈ bs, Da X.K H (val b) (enc b)) → PySem.W.EachIs (fun v b => RelV (val b) v) us bs → PySem.W.EachIs (fun v b => ∃ as, Reads s.heap v (enc b) as) us bs := by
    intro bs us h e
    induction e with
    | nil => exact .nil
    | cons h1 _ ih => exact .cons (Da.reads I (h _ (List.mem_cons_self ..)) h1) (ih fun b hb => h b (List.mem_cons_of_mem _ hb))
  have hlen : bs.length ≤ sizeLine := by rw [List.length_map] at hz; exact hz
  refine PySem.W.sorted_data (R := fun v b => RelV (val b) v) hl.isList ev (er hd ev) hal hk hlen (fun b hb => ?_) fun out ho he => ?_
  · have := hdp b hb
    omega
  · obtain ⟨ep, he'⟩ := PyProof.Rows.sortedAll_at s.heap its out.toArray
    refine ⟨.ref _, upd H (s.heap.objs.size + 1) (.lst ((bs.mergeSort (PySem.W.dataLe false enc)).map val)), I.laid (t' := s.toks) (fun _ _ => PyProof.Rows.sortedAll_old) (Nat.le_succ _) ⟨?_, out, ep, vals_each he, he'⟩, rfl, q _ (I.hok.fresh (Nat.le_succ _))⟩
    rw [List.length_map, (List.mergeSort_perm _ _).length_eq]
    exact hlen

/-! ### enumerate of a tuple -/
theorem enumT_made (l : Addr) (items : Array Value) (n : Nat) (dct : Option Addr) (sl : Array (Option Value)) :
    Meets (Builtin.«enumerate.__new__» ⟨[.type "enumerate", .ref l], []⟩) (fun _ R s => s.heap.get? l = some { cls := .type "tuple", dict := dct, data := .seq items n, slots := sl } ∧
      R (.ok (.ret (.ref (s.heap.push { cls := .type "tuple_iterator", data := .fields #[.ref l, .int 0 0] }).objs.size)))
        { s with heap := (s.heap.push { cls := .type "tuple_iterator", data := .fields #[.ref l, .int 0 0] }).push { cls := .type "enumerate", data := .fields #[.none, .bool false, .ref s.heap.objs.size, rawInt 0, .none, .none] } }) :=
  .of_wp fun prog w A R s ⟨at_, q⟩ => by
    obtain ⟨hp, gs, dr, tk, os⟩ := s
    have sub1 := sub_enumerate
    have isT : Heap.IsTuple (Shared.heap ⟨hp, gs, dr, tk, os⟩) l items := ⟨_, at_, rfl, n, rfl⟩
    wp_walk using AutoSeq1.wpAny_loadPart' at_
    refine wpAny_stack_any fun _ => wpAny_pure ?_
    split
    · rename_i c' _ _ _ _ _
      generalize (c' == Value.type "enumerate") = same
      cases same <;> (wp_walk using AutoSeq1.wpAny_loadPart' at_, wpAny_pyIter_tuple isT; exact ⟨_, rfl, q⟩)
    · wp_walk using AutoSeq1.wpAny_loadPart' at_, wpAny_pyIter_tuple isT
      exact ⟨_, rfl, q⟩
/-- the tuple at a, as xs, each item in a new pair -/
def Itet (K : PySem.W.Frag) (a : Addr) (xs : List V) : It :=
  ⟨fun i H => SqT K H a xs ∧ i < xs.length, fun i H v H' => ∃ T x, v = .ref T ∧ H T = none ∧ H' = upd H T (.tup [.int (i : Nat), x]) ∧ xs[i]? = some x, fun i H => SqT K H a xs ∧ xs.length ≤ i⟩
structure EnT (a e it : Addr) (i : Nat) (h : Heap) : Prop where
  en : ∃ old, IsEnum h e it (i : Int) old
  ti : h.IsTupleIter it a i
  n1 : e ≠ it
  n2 : a ≠ it
  n3 : a ≠ e
theorem EnT.lt {a e it : Addr} {i : Nat} {h : Heap} (q : EnT a e it i h) : e < h.objs.size ∧ it < h.objs.size := by
  obtain ⟨old, z⟩ := q.en
  obtain ⟨_, y, _⟩ := q.ti
  exact ⟨Heap.lt_size z, Heap.lt_size y⟩
theorem turn_enT {P : Program} {w : World} {K : PySem.W.Frag} {elts : List Expr} {kk : Nat} {tpos : Pos} (a e it : Addr) (xs : List V) : Turn P w K (.Tuple elts kk tpos) (Itet K a xs) [e, it] e (EnT a e it) where
  mem := List.mem_cons_self ..
  obj := fun i h st b hb => by
    rcases List.mem_cons.mp hb with rfl | hb
    · obtain ⟨old, z⟩ := st.en
      exact ⟨_, z, fun _ bad => nomatch bad⟩
    · cases List.mem_singleton.mp hb
      obtain ⟨o, z, _, dt⟩ := st.ti
      exact ⟨o, z, fun _ bad => by rw [dt] at bad; cases bad⟩
  keep := fun i h h' st k => by
    obtain ⟨old, z⟩ := st.en
    obtain ⟨o, y, r⟩ := st.ti
    exact ⟨⟨old, k _ (List.mem_cons_self ..) _ z⟩, ⟨o, k _ (List.mem_cons_of_mem _ (List.mem_cons_self ..)) _ y, r⟩, st.n1, st.n2, st.n3⟩
  item := by
    rintro X rfl rfl rfl calm i pins s σ H E I fp st ⟨sq, lt⟩
    obtain ⟨old, en⟩ := st.en
    obtain ⟨its, rel, isT, _⟩ := I.tuple sq
    obtain ⟨u, atU, ru⟩ := rel.get (List.getElem?_eq_getElem lt)
    have isT' : s.heap.IsTuple a its.toArray := isT
    have small : i < its.toArray.size := by
      rw [List.size_toArray, ← rel.length]
      exact lt
    refine wpAny_pyNext_enum_itemD (Draws.tuple (A := X.A.in1) (show X.A.in1.handled = none from I.ok.hd calm) it a st.n2 its.toArray) en ⟨st.ti, isT'⟩ small st.n1 (fun bad => ?_) fun u' h1 tk pu out next pair size rest => ?_
    · rcases List.mem_cons.mp bad with z | z
      · exact st.n1 z
      · exact st.n3 (List.mem_singleton.mp z).symm
    have same : u' = u := by
      have z : its.toArray[i]? = some u := by simpa using atU
      exact Option.some.inj (pu.symm.trans z)
    subst same
    refine ⟨_, rfl, wpAny_letOwnedTupleGo_enum (s := { s with heap := h1, toks := tk + 1 }) out fun h2 en2 but => ?_⟩
    have fresh : H s.heap.objs.size = none := I.hok.fresh (Nat.le_refl _)
    have old2 : ∀ b o, b ∉ [e, it] → s.heap.get? b = some o → h2.get? b = some o := fun b o hb z => by
      have b1 : b ≠ e := fun y => hb (y ▸ List.mem_cons_self ..)
      have b2 : b ≠ it := fun y => hb (y ▸ List.mem_cons_of_mem _ (List.mem_cons_self ..))
      exact (but.2 b b1).trans (rest b o b1 b2 z)
    have pair2 : h2.get? s.heap.objs.size = some { cls := .type "tuple", data := .seq #[.int i tk, u'] } := (but.2 _ (Nat.ne_of_gt st.lt.1)).trans pair
    have J := I.turnedNew (ch := [e, it]) (t' := tk + 1) (h' := h2) (ob := .tup [.int (i : Nat), xs[i]]) old2 fp (Nat.le_refl _) ⟨by show 2 ≤ sizeLine; decide, [.int i tk, u'], .cons ⟨_, rfl⟩ (.cons ru .nil), ⟨_, pair2, rfl, _, rfl⟩⟩
    refine ⟨.ref s.heap.objs.size, _, J, rfl, ⟨_, xs[i], rfl, fresh, rfl, List.getElem?_eq_getElem lt⟩, ⟨⟨u', ?_⟩, ?_, st.n1, st.n2, st.n3⟩, fun b hb => ?_⟩
    · rw [Int.natCast_succ]
      exact en2
    · obtain ⟨o, y, r⟩ := next.1
      exact ⟨o, (but.2 it st.n1.symm).trans y, r⟩
    · have low : b < s.heap.objs.size := by
        rcases List.mem_cons.mp hb with rfl | hb
        · exact st.lt.1
        · cases List.mem_singleton.mp hb
          exact st.lt.2
      rw [upd_ne (Nat.ne_of_lt low)]
      exact (fp b hb).1
  done := by
    rintro X rfl rfl rfl calm i pins s σ H E I fp st ⟨sq, le⟩
    obtain ⟨old, en⟩ := st.en
    obtain ⟨its, rel, isT, _⟩ := I.tuple sq
    have isT' : s.heap.IsTuple a its.toArray := isT
    have over : its.toArray[i]? = none := by
      rw [Array.getElem?_eq_none_iff, List.size_toArray, ← rel.length]
      exact le
    obtain ⟨g0, g1, g2, g3, g4, g5⟩ := fp it (List.mem_cons_of_mem _ (List.mem_cons_self ..))
    have ty : s.TypeIs (.ref e) "enumerate" := ⟨_, en, rfl⟩
    unfold pyNext
    refine wpAny_bind (wpAny_attempt (wpAny_callSpecial?_slot (name := Str.ofString "__next__") ty F.slot_enumerate_next (wpAny_call_entry F.slot_enumerate_next ty F.entry_enumerate_next ?_ (F.args_enumerate_next_1 _))))
    show wpAny _ _ (field (.ref e) 2 >>= _) _ _ _
    refine wpAny_bind (wpAny_field en rfl (x := .ref it) rfl (wpAny_bind (wpAny_nextOf_tuple_end (I.ok.hd calm) st.ti isT' over fun h' x but ⟨o, z, c⟩ => ?_)))
    exact wpAny_bind (wpAny_isInstance (T := "StopIteration") (b := true) ⟨o, z, c⟩ isSubtype_stop (wpAny_pure ⟨rfl, I.turned (t' := s.toks) (fun b o hb y => but b o hb y) g0 g1 g3 g4 g5⟩))
  self := fun A i s Q E st q => by
    obtain ⟨old, en⟩ := st.en
    exact wpAny_pyIter_enum en q
/-- enumerate(e), e a list or a tuple -/
def iEnS (K : PySem.W.Frag) (ta : TA) : TI := fun σ H R => ta σ H fun vs H1 => ∃ a xs, vs = [.ref a] ∧ ((SqL K H1 a xs ∧ R (Ite K a) H1) ∨ (SqT K H1 a xs ∧ R (Itet K a xs) H1))
theorem pi_enS {X : Cx} {e : Expr} {ta : TA} {p pos tpos : Pos} {elts : List Expr} {kk : Nat} (hg : Gl X "enumerate") (hm : X.mg "enumerate" = none) (ha : PA X [e] ta) (st : starEach [e] X.env = [(false, eval e X.env)] := by rfl) :
    PI X (.Tuple elts kk tpos) (.Call (.Name "enumerate" p) [e] [] pos) (iEnS X.K ta) := by
  refine ⟨fun pins s σ H R I q => ?_⟩
  refine Call_ (ld_blt I hg hm boot_enumerate (PyProof.Rows.callWith_type1 (thn (ha.run pos pins s σ H _ I q) fun us s1 out => ?_) st rfl))
  obtain ⟨vs, H1, I1, rel, a, xs, rfl, q⟩ := out
  obtain ⟨u, rfl, ru⟩ := vals1 rel
  cases ru
  have far : s1.heap.objs.size ≤ s1.heap.objs.size + 1 := Nat.le_succ _
  have fp : ∀ (h' : Heap) (J : Inv X pins σ H1 { s1 with heap := h' }), ∀ b ∈ [s1.heap.objs.size + 1, s1.heap.objs.size], FpOk X pins H1 b := fun h' J b hb => by
    have low : s1.heap.objs.size ≤ b := by
      rcases List.mem_cons.mp hb with rfl | hb
      · exact far
      · exact Nat.le_of_eq (List.mem_singleton.mp hb).symm
    exact I1.fpOk low (I1.hok.fresh low)
  rcases q with ⟨sq, q⟩ | ⟨sq, q⟩
  · obtain ⟨its, rv, isL, _⟩ := I1.list sq
    refine call_enumerate_list isL.isList fun h' en it size keep => wpAny_pyIter_enum en ?_
    have J : Inv X pins σ H1 { s1 with heap := h' } := I1.kept (t' := s1.toks) keep
    exact ⟨_, _, _, _, H1, rfl, J, turn_enum a _ _, ⟨⟨.none, en⟩, it, Nat.succ_ne_self _⟩, fp h' J, q⟩
  · obtain ⟨its, rv, ⟨⟨c, dct, dt, sl⟩, at_, hc, n, hd⟩, _⟩ := I1.tuple sq
    cases (show c = .type "tuple" from hc)
    cases (show dt = .seq its.toArray n from hd)
    have low : a < s1.heap.objs.size := Heap.lt_size at_
    refine callType_new F.called_enumerate (by decide) (F.typeCall_enumerate_1 _) (F.newCall_enumerate_1 _) (fun obj => F.args_object_init_2 obj _) F.entry_enumerate_new (enumT_made a _ n dct sl) ⟨at_, ?_⟩
    have size : (s1.heap.push { cls := .type "tuple_iterator", data := .fields #[.ref a, .int 0 0] }).objs.size = s1.heap.objs.size + 1 := Heap.size_push ..
    show _ ∧ _
    rw [size]
    have en := Heap.get?_push_size (s1.heap.push { cls := .type "tuple_iterator", data := .fields #[.ref a, .int 0 0] }) (o := { cls := .type "enumerate", data := .fields #[.none, .bool false, .ref s1.heap.objs.size, rawInt 0, .none, .none] }) rfl
    rw [size] at en
    refine ⟨⟨_, en, rfl⟩, wpAny_pyIter_enum en ?_⟩
    have J := I1.kept (t' := s1.toks) (h' := (s1.heap.push { cls := .type "tuple_iterator", data := .fields #[.ref a, .int 0 0] }).push { cls := .type "enumerate", data := .fields #[.none, .bool false, .ref s1.heap.objs.size, rawInt 0, .none, .none] }) fun b o z => Heap.get?_push_of_some _ (Heap.get?_push_of_some _ z)
    exact ⟨_, _, _, _, H1, rfl, J, turn_enT a _ _ xs, ⟨⟨.none, en⟩, ⟨_, Heap.get?_push_of_some _ (Heap.get?_push_size _ rfl), rfl, rfl⟩, Nat.succ_ne_self _, Nat.ne_of_lt low, Nat.ne_of_lt (Nat.lt_succ_of_lt low)⟩, fp _ J, q⟩
end Vx
/-! ## K11h -/
set_option Elab.async false
set_option linter.all false
set_option maxRecDepth 100000
set_option maxHeartbeats 4000000
namespace K11
open PySem PySem.Spec PyProof.Rows L2 He Vx
def top (i : Nat) : Stmt := PySem.Challenge.pw_aheadbehind_k11_boxes_refused.main.body.getD i (.Pass ⟨0, 0, 0, 0⟩)
def clsB : Stmt → List Stmt
  | .ClassDef _ _ _ b _ _ _ _ _ _ _ => b
  | _ => []
def met (i j : Nat) : Stmt := (clsB (top i)).getD j (.Pass ⟨0, 0, 0, 0⟩)
abbrev s_wall : Stmt := top 0
theorem sc_wall : FnScope ["k"] ["k"] (defScope s_wall) := ⟨rfl, rfl, rfl, by decide +kernel, rfl, by decide +kernel, by decide +kernel⟩
abbrev s_is_integer : Stmt := top 2
theorem sc_is_integer : FnScope ["value"] ["value"] (defScope s_is_integer) := ⟨rfl, rfl, rfl, by decide +kernel, rfl, by decide +kernel, by decide +kernel⟩
abbrev s_is_name : Stmt := top 3
theorem sc_is_name : FnScope ["value"] ["value"] (defScope s_is_name) := ⟨rfl, rfl, rfl, by decide +kernel, rfl, by decide +kernel, by decide +kernel⟩
abbrev s_is_list : Stmt := top 4
theorem sc_is_list : FnScope ["value"] ["value"] (defScope s_is_list) := ⟨rfl, rfl, rfl, by decide +kernel, rfl, by decide +kernel, by decide +kernel⟩
abbrev s_is_state : Stmt := top 5
theorem sc_is_state : FnScope ["states", "value"] ["states", "value"] (defScope s_is_state) := ⟨rfl, rfl, rfl, by decide +kernel, rfl, by decide +kernel, by decide +kernel⟩
abbrev s_first_wrong : Stmt := top 16
theorem sc_first_wrong : FnScope ["values", "right", "seen", "position", "value"] ["values", "right"] (defScope s_first_wrong) := ⟨rfl, rfl, rfl, by decide +kernel, rfl, by decide +kernel, by decide +kernel⟩
abbrev s_check_state : Stmt := top 17
theorem sc_check_state : FnScope ["states", "state"] ["states", "state"] (defScope s_check_state) := ⟨rfl, rfl, rfl, by decide +kernel, rfl, by decide +kernel, by decide +kernel⟩
abbrev s_check_parts : Stmt := top 20
theorem sc_check_parts : FnScope ["states", "starts", "steps"] ["states", "starts", "steps"] (defScope s_check_parts) := ⟨rfl, rfl, rfl, by decide +kernel, rfl, by decide +kernel, by decide +kernel⟩
abbrev s_check_limits : Stmt := top 21
theorem sc_check_limits : FnScope ["states", "steps"] ["states", "steps"] (defScope s_check_limits) := ⟨rfl, rfl, rfl, by decide +kernel, rfl, by decide +kernel, by decide +kernel⟩
abbrev s_check_starts : Stmt := top 22
theorem sc_check_starts : FnScope ["states", "starts", "position", "start"] ["states", "starts"] (defScope s_check_starts) := ⟨rfl, rfl, rfl, by decide +kernel, rfl, by decide +kernel, by decide +kernel⟩
abbrev s_check_steps : Stmt := top 23
theorem sc_check_steps : FnScope ["states", "steps", "position", "step"] ["states", "steps"] (defScope s_check_steps) := ⟨rfl, rfl, rfl, by decide +kernel, rfl, by decide +kernel, by decide +kernel⟩
abbrev s_made_box : Stmt := top 24
theorem sc_made_box : FnScope ["states", "starts", "steps", "box"] ["states", "starts", "steps"] (defScope s_made_box) := ⟨rfl, rfl, rfl, by decide +kernel, rfl, by decide +kernel, by decide +kernel⟩
abbrev s_law_pot : Stmt := top 26
theorem sc_law_pot : FnScope ["_law_script", "_law_k", "_law_cell"] ["_law_script", "_law_k"] (defScope s_law_pot) := ⟨rfl, rfl, rfl, by decide +kernel, rfl, by decide +kernel, by decide +kernel⟩
abbrev s_law_draw : Stmt := top 27
theorem sc_law_draw : FnScope ["_law_pot_here", "_law_many", "_law_digit"] ["_law_pot_here", "_law_many"] (defScope s_law_draw) := ⟨rfl, rfl, rfl, by decide +kernel, rfl, by decide +kernel, by decide +kernel⟩
abbrev s_law_pick : Stmt := top 28
theorem sc_law_pick : FnScope ["_law_pot_here", "_law_menu_here"] ["_law_pot_here", "_law_menu_here"] (defScope s_law_pick) := ⟨rfl, rfl, rfl, by decide +kernel, rfl, by decide +kernel, by decide +kernel⟩
abbrev s_law_mixed : Stmt := top 29
theorem sc_law_mixed : FnScope ["_law_pot_here", "_law_menu_here", "_law_pack", "_law_turn"] ["_law_pot_here", "_law_menu_here"] (defScope s_law_mixed) := ⟨rfl, rfl, rfl, by decide +kernel, rfl, by decide +kernel, by decide +kernel⟩
abbrev s_law_menu : Stmt := top 30
theorem sc_law_menu : FnScope ["_law_pot_here", "_law_menu_here", "_law_first"] ["_law_pot_here"] (defScope s_law_menu) := ⟨rfl, rfl, rfl, by decide +kernel, rfl, by decide +kernel, by decide +kernel⟩
abbrev s_law_deal : Stmt := top 31
theorem sc_law_deal : FnScope ["_law_pot_here", "_law_most", "_law_wide", "_law_menu_here", "_law_many", "_law_moves", "_law_turn", "_law_call", "_law_answer", "_law_move", "_law_firsts"] ["_law_pot_here", "_law_most", "_law_wide"] (defScope s_law_deal) := ⟨rfl, rfl, rfl, by decide +kernel, rfl, by decide +kernel, by decide +kernel⟩
abbrev s_law_heard : Stmt := top 32
theorem sc_law_heard : FnScope ["_law_call", "_law_heard_here", "e"] ["_law_call"] (defScope s_law_heard) := ⟨rfl, rfl, rfl, by decide +kernel, rfl, by decide +kernel, by decide +kernel⟩
abbrev s_law_odd_many : Stmt := top 33
theorem sc_law_odd_many : FnScope ["_law_pot_here"] ["_law_pot_here"] (defScope s_law_odd_many) := ⟨rfl, rfl, rfl, by decide +kernel, rfl, by decide +kernel, by decide +kernel⟩
abbrev s_law_odd_firsts : Stmt := top 34
theorem sc_law_odd_firsts : FnScope ["_law_pot_here", "_law_deal_here", "_law_many", "_law_good", "_law_bad", "_law_made"] ["_law_pot_here", "_law_deal_here"] (defScope s_law_odd_firsts) := ⟨rfl, rfl, rfl, by decide +kernel, rfl, by decide +kernel, by decide +kernel⟩
abbrev s_law_odd_moves : Stmt := top 35
theorem sc_law_odd_moves : FnScope ["_law_pot_here", "_law_deal_here", "_law_many", "_law_good", "_law_bad", "_law_made"] ["_law_pot_here", "_law_deal_here"] (defScope s_law_odd_moves) := ⟨rfl, rfl, rfl, by decide +kernel, rfl, by decide +kernel, by decide +kernel⟩
abbrev s_law_let_right : Stmt := top 36
theorem sc_law_let_right : FnScope ["_law_pot_here", "_law_deal_here", "_law_firsts", "_law_moves", "_law_heard_here"] ["_law_pot_here", "_law_deal_here"] (defScope s_law_let_right) := ⟨rfl, rfl, rfl, by decide +kernel, rfl, by decide +kernel, by decide +kernel⟩
abbrev s_law_right : Stmt := top 37
theorem sc_law_right : FnScope ["_law_pot_here", "_law_deal_here", "_law_many", "_law_shown", "_law_turn", "_law_odd", "_law_firsts", "_law_moves", "_law_kept", "_law_heard_here"] ["_law_pot_here"] (defScope s_law_right) := ⟨rfl, rfl, rfl, by decide +kernel, rfl, by decide +kernel, by decide +kernel⟩
abbrev s_law : Stmt := top 38
theorem sc_law : FnScope ["_law_script", "_law_k"] ["_law_script"] (defScope s_law) := ⟨rfl, rfl, rfl, by decide +kernel, rfl, by decide +kernel, by decide +kernel⟩
abbrev s_Box___init__ : Stmt := met 19 2
theorem sc_Box___init__ : FnScope ["self", "states", "starts", "steps"] ["self", "states", "starts", "steps"] (defScope s_Box___init__) := ⟨rfl, rfl, rfl, by decide +kernel, rfl, by decide +kernel, by decide +kernel⟩
abbrev s_Box_is_step : Stmt := met 19 3
theorem sc_Box_is_step : FnScope ["states", "value", "state", "call", "answer", "to"] ["states", "value"] (defScope s_Box_is_step) := ⟨rfl, rfl, rfl, by decide +kernel, rfl, by decide +kernel, by decide +kernel⟩
end K11
/-! ## HD12 -/
set_option Elab.async false
set_option linter.all false
set_option maxRecDepth 100000
set_option maxHeartbeats 0
namespace K11
open PySem PySem.Spec PyProof.Rows L2 He Vx
open PySem.W (exmOne kitOne findCls readsIn specialIn keepIn codeHdIn)
abbrev R : PySem.W.OpenRow := PySem.W.OpenLaw.row PySem.Challenge.rw_aheadbehind_k11_boxes_refused
abbrev qv : Program := PySem.W.view R.prog [38]
def dD (x : Str) (st : Stmt) : He.DefD := ⟨(x, none), x, x, defArgs st, defBody st, defScope st, [], []⟩
def dM (c q : Str) (st : Stmt) : He.DefD := ⟨(c, some "__init__"), "__init__", q, defArgs st, defBody st, defScope st, [], []⟩
def namesA : List PySem.Str := ["_wall", "__name__", "is_integer", "is_name", "is_list", "is_state", "BoxError", "InvalidStates", "InvalidStarts", "InvalidSteps", "InvalidStep", "InvalidState", "LimitError", "TooMany", "first_wrong", "check_state", "Box", "check_parts", "check_limits", "check_starts"]
def namesB : List PySem.Str := ["check_steps", "made_box", "_law_pot", "_law_draw", "_law_pick", "_law_mixed", "_law_menu", "_law_deal", "_law_heard", "_law_odd_many", "_law_odd_firsts", "_law_odd_moves", "_law_let_right", "_law_right"]
def names : List PySem.Str := namesA ++ namesB
def ecs : List EC := [⟨"InvalidStates", xVal, "value", ""⟩, ⟨"InvalidStarts", xVal, "position", ""⟩, ⟨"InvalidSteps", xVal, "position", ""⟩, ⟨"InvalidStep", xVal, "value", ""⟩, ⟨"InvalidState", xVal, "value", ""⟩, ⟨"TooMany", xAri, "what", "limit"⟩]
def ec0 : List EC := [⟨"BoxError", xVal, "", ""⟩, ⟨"LimitError", xAri, "", ""⟩]
def e0K : PySem.W.Frag → Addr := dflAt ("Box", some "__init__") 0
def dBox : He.DefD := ⟨("Box", some "__init__"), "__init__", "Box.__init__", defArgs s_Box___init__, defBody s_Box___init__, defScope s_Box___init__, [.adr e0K], []⟩
def dStep : He.DefD := ⟨("Box", some "is_step"), "is_step", "Box.is_step", defArgs s_Box_is_step, defBody s_Box_is_step, defScope s_Box_is_step, [], []⟩
def fnA : List He.DefD := [dD "is_integer" s_is_integer, dD "is_name" s_is_name, dD "is_list" s_is_list, dD "is_state" s_is_state, dD "first_wrong" s_first_wrong, dD "check_parts" s_check_parts, dD "check_limits" s_check_limits, dD "check_starts" s_check_starts, dD "check_steps" s_check_steps, dD "_law_pot" s_law_pot, dD "_law_draw" s_law_draw, dD "_law_pick" s_law_pick, dD "_law_mixed" s_law_mixed, dD "_law_menu" s_law_menu, dD "_law_deal" s_law_deal, dD "_law_heard" s_law_heard, dD "_law_odd_many" s_law_odd_many, dD "_law_odd_firsts" s_law_odd_firsts, dD "_law_odd_moves" s_law_odd_moves, dD "_law_let_right" s_law_let_right, dD "_law_right" s_law_right, dD "law" s_law]
def fnB : List He.DefD := [dM "InvalidStates" "InvalidStates.__init__" (met 8 0), dM "InvalidStarts" "InvalidStarts.__init__" (met 9 0), dM "InvalidSteps" "InvalidSteps.__init__" (met 10 0), dM "InvalidStep" "InvalidStep.__init__" (met 11 0), dM "InvalidState" "InvalidState.__init__" (met 12 0), dM "TooMany" "TooMany.__init__" (met 14 0), dBox]
def fnK : List He.DefD := fnA ++ fnB
def faD : List He.Fa := [.glo "is_integer", .glo "is_name", .glo "is_list", .glo "is_state", .glo "first_wrong", .glo "check_parts", .glo "check_limits", .glo "check_starts", .glo "check_steps", .glo "_law_pot", .glo "_law_draw", .glo "_law_pick", .glo "_law_mixed", .glo "_law_menu", .glo "_law_deal", .glo "_law_heard", .glo "_law_odd_many", .glo "_law_odd_firsts", .glo "_law_odd_moves", .glo "_law_let_right", .glo "_law_right", .glo "law", .glo "Box", .cls "Box", .noat "Box" "_states", .noat "Box" "_starts", .noat "Box" "_steps", .mkr "Box"]
def faK : List He.Fa := biFa ++ faD
/-- the function in the record of Box.is_step -/
def sgK (K : PySem.W.Frag) : Addr := He5.wf K (ga K "Box") "staticmethod" "is_step"
def fnAt (K : PySem.W.Frag) (g : Addr) : FnW := match K.lookup g with
  | some ⟨_, _, .func fd, _⟩ => some (fd.name, fd.qualname, fd.params, fd.body, fd.scope, fd.globals, fd.closure, fd.builtins)
  | _ => none
def okAt (K : PySem.W.Frag) (g : Addr) (d : DefD) : Bool := keepIn K (.ref g) && (match K.lookup g with
  | some ⟨_, _, .func fd, _⟩ => PySem.W.codeIn K fd.code d.qual && (dflB K fd.defaults (d.dvs K) && kwdB K fd.kwdefaults (d.kws K))
  | _ => false)
def valB (K : PySem.W.Frag) (f : Str) (i : Int) : Bool := match findCls K (.ref (ga K "Box")) (.type "type") f with
  | some (.val (.int j _)) => decide (j = i)
  | _ => false
def tup0B (K : PySem.W.Frag) (a : Addr) : Bool := match K.lookup a with
  | some ⟨.type c, _, .seq its _, _⟩ => decide (c = "tuple") && its.toList.isEmpty
  | _ => false
def three : List Str := ["InvalidStates", "InvalidStarts", "InvalidSteps"]
def heardB (K : PySem.W.Frag) : Bool := (three.all fun x => three.all fun y => decide (exmOne K (.ref (ga K x)) (.ref (ga K y)) = some (decide (x = y)))) && three.all fun x => decide (kitOne K (.ref (ga K x)) (.ref (ga K "BoxError")) = some true)
def boxB (K : PySem.W.Frag) : Bool := readsIn K (ga K "Box") (.type "type") && (He5.wrapB K (ga K "Box") "staticmethod" "staticmethod.__get__" "is_step" && (okAt K (sgK K) dStep && (valB K "MOST_STATES" 6 && (valB K "MOST_STEPS" 24 && tup0B K (e0K K)))))
def codeV (K : PySem.W.Frag) (x : Str) : Value := match K.lookup (ga K x) with
  | some ⟨_, _, .func fd, _⟩ => fd.code
  | _ => .none
/-- the two defs with lambdas: their code objects, their tables -/
def tfK : List Defn := [("_law_let_right", none), ("_law_right", none)]
def tabK (g : Addr → Option Obj) (K : PySem.W.Frag) : Bool := tabsB g tfK K && (decide ((cT K ("_law_let_right", none)).2 ≠ (cT K ("_law_right", none)).2) && (decide (codeV K "_law_let_right" = .ref (cT K ("_law_let_right", none)).1) && decide (codeV K "_law_right" = .ref (cT K ("_law_right", none)).1)))
def xbK (K : PySem.W.Frag) : Bool := xgB K && (ecs.all (fun c => c.ok K) && (ec0.all (fun c => c.ok0 K) && (heardB K && boxB K)))
def refA (g : Addr → Option Obj) (a : Addr) : List Addr := (match g a with
  | some o => refsD o
  | none => []).filter fun b => b != mainGlobals && b != builtinsNs
def asK (ns : List Str) (g : Addr → Option Obj) : List Addr :=
  let l := mainGlobals :: cStatics :: (ns.map (ga (frG g [mainGlobals])) ++ ((ns.map (ga (frG g [mainGlobals]))).flatMap fun a => refA g a ++ (refA g a).flatMap fun b => refA g b ++ (refA g b).flatMap fun c => refA g c))
  let K := frG g l
  l ++ ([ma K (ga K "Box") "__init__", sgK K].flatMap fun a => a :: (refA g a ++ (refA g a).flatMap fun b => refA g b))
def nsK : List Str := "Box" :: ((ecs.map EC.x ++ ec0.map EC.x) ++ fnA.map fun d => d.name)
abbrev AlT2 : Type := Bool × AlD × FnW
def obsK (g : Addr → Option Obj) (K : PySem.W.Frag) : AlT2 := (xbK K && tabK g K, obsD faK fnK K, fnAt K (sgK K))
def valK : AlT2 := (true, valD fnK, dStep.val)
structure SaysK (h : Heap) (K : PySem.W.Frag) : Prop where
  xb : xbK K = true
  d : SaysD faK fnK K
  st : fnAt K (sgK K) = dStep.val
  hd : ∀ p ∈ tfK, codeHdIn K (cT K p).1 (cT K p).2 = true
  out : ∀ p ∈ tfK, K.lookup (cT K p).2 = none
  empty : ∀ p ∈ tfK, h.get? (cT K p).2 = some { cls := .none, data := .fields #[] }
  ne : (cT K ("_law_let_right", none)).2 ≠ (cT K ("_law_right", none)).2
  c1 : codeV K "_law_let_right" = .ref (cT K ("_law_let_right", none)).1
  c2 : codeV K "_law_right" = .ref (cT K ("_law_right", none)).1
theorem says_of {h : Heap} {as : List Addr} (e : obsK h.get? (frT h.get? as) = valK) : SaysK h (frT h.get? as) := by
  have e1 : (xbK (frT h.get? as) && tabK h.get? (frT h.get? as)) = true := congrArg (fun z : AlT2 => z.1) e
  have e2 : obsD faK fnK (frT h.get? as) = valD fnK := congrArg (fun z : AlT2 => z.2.1) e
  have e3 : fnAt (frT h.get? as) (sgK (frT h.get? as)) = dStep.val := congrArg (fun z : AlT2 => z.2.2) e
  obtain ⟨h1, h2⟩ := ba e1
  obtain ⟨h3, h4⟩ := ba h2
  obtain ⟨h5, h6⟩ := ba h4
  obtain ⟨h7, h8⟩ := ba h6
  have key : ∀ p ∈ tfK, codeHdIn (frT h.get? as) (cT (frT h.get? as) p).1 (cT (frT h.get? as) p).2 = true ∧ ∃ o, h.get? (cT (frT h.get? as) p).2 = some o ∧ emptyTab o = true := fun p hp => by
    obtain ⟨k3, k4⟩ := ba (List.all_eq_true.mp h3 p hp)
    refine ⟨k3, ?_⟩
    cases q : h.get? (cT (frT h.get? as) p).2 with
    | none =>
      rw [q] at k4
      cases k4
    | some o =>
      rw [q] at k4
      exact ⟨o, rfl, k4⟩
  refine ⟨h1, e2, e3, fun p hp => (key p hp).1, fun p hp => ?_, fun p hp => ?_, of_decide_eq_true h5, of_decide_eq_true h7, of_decide_eq_true h8⟩
  · obtain ⟨_, o, q, z⟩ := key p hp
    exact frT_none q z
  · obtain ⟨_, o, q, z⟩ := key p hp
    rw [q, emptyTab_eq z]
def hk : PySem.W.Hook where
  α := AlT2
  obs := fun s => obsK s.heap.get? (frT s.heap.get? (asK nsK s.heap.get?))
  val := fun _ => valK
  says := fun _ h => ∃ K : PySem.W.Frag, K.In h ∧ SaysK h K
  of := fun _ _ e => ⟨_, frT_in, says_of e⟩
  keeps := fun _ _ _ ⟨K, hK, c⟩ k => ⟨K, PySem.W.Frag.In.keeps hK k, ⟨c.xb, c.d, c.st, c.hd, c.out, fun p hp => k _ _ (c.empty p hp), c.ne, c.c1, c.c2⟩⟩
def ob (s : PySem.W.SharedT) : AlT2 := obsK (HandSHeadRun.getT s) (frT (HandSHeadRun.getT s) (asK nsK (HandSHeadRun.getT s)))
theorem ob_eq (s : PySem.W.SharedT) : ob s = hk.obs s.abs := by
  have e : HandSHeadRun.getT s = s.abs.heap.get? := funext fun a => HandSHeadRun.getT_eq s a
  unfold ob
  rw [e]
  rfl
noncomputable abbrev endK (w : World) (os : PySem.OsState) := HandSHeadRun.endF (HandSHeadRun.stepQ (HandSHeadRun.denQ HandSHeadRun.tabQ) R.prog w) 20000 R.prog w os
end K11
/-! ## HR12 -/
set_option Elab.async false
set_option linter.all false
set_option maxRecDepth 100000
set_option maxHeartbeats 0
namespace K11
open PySem PySem.Spec PyProof.Rows L2 He Vx
theorem run (w : World) : HandSHeadRun.RunEq R qv hk ob 20000 names w := by
  intro os
  kernel_rfl
end K11
/-! ## K11b -/
set_option Elab.async false
set_option linter.all false
set_option maxRecDepth 100000
set_option maxHeartbeats 4000000
namespace K11
open PySem PySem.Spec PyProof.Rows L2 He Vx
section
variable {P : Program} {w : World} {K : PySem.W.Frag} {mg : Str → Option Value} {base : Heap}
theorem cd_draw (F : At K mg "_law_draw" s_law_draw) (T : BI mg) : Cd P w K mg base 1 "_law_draw" ["_law_pot_here", "_law_many"] spDraw := by
  refine cd_mk F sc_law_draw (fun vs H Q E h => ?_) (fun _ _ _ _ _ _ us hl => match us, hl with | [_, _], _ => rfl) (fun f cdv A outer s H vs Q E hr hG h => ?_)
  · obtain ⟨p, n, rfl, _⟩ := h
    rfl
  · obtain ⟨p, n, rfl, ⟨a, b, hp, ha, hb0, hb1⟩, hn, hn2, k⟩ := h
    refine ⟨_, (pss_cons (ps_if (pt_cmpR op_gt (pe_ix ix_list (pv 0) pe_int (fun _ _ => rfl)) pe_int (nomark _)) (pss_cons (ps_asg (pe_callB call_divmodW (by rfl) T.divmod bt_divmod (pa_cons (pe_ix ix_list (pv 0) pe_int (fun _ _ => rfl)) (pa_cons (pv 1) pa_nil))) (pg_tup (by rfl) (pgs_cons (pg_sub (pv 0) pe_int set_list) (pgs_cons (pg_name (i := 2) sc_law_draw.nd rfl (Or.inl rfl)) pgs_nil))))
  (pss_one (ps_ret (pv 2)))) pss_nil)
  (pss_cons (ps_asg (pe_op op_mod (pe_callTy call_int1 (by rfl) T.int bt_int (pa_cons (pe_op op_add (pe_op op_mul (pe_ix ix_list (pv 0) pe_int (fun _ _ => rfl)) pe_int) pe_int) pa_nil)) pe_int) (pg_sub (pv 0) pe_int set_list))
  (pss_one (ps_ret (pe_op op_mod (pe_callTy call_int1 (by rfl) T.int bt_int (pa_cons (pe_op op_fdiv (pe_op op_mod (pe_callTy call_int1 (by rfl) T.int bt_int (pa_cons (pe_op op_mul (pe_ix ix_list (pv 0) pe_int (fun _ _ => rfl)) (pe_ix ix_list (pv 0) pe_int (fun _ _ => rfl))) pa_nil)) pe_int) pe_int) pa_nil)) (pv 1)))))), ?_⟩
    refine ⟨_, rfl, p, _, 0, _, rfl, rfl, SqL.of hp, rfl, _, _, rfl, rfl, _, rfl, ?_⟩
    refine ite2 (fun h => ?_) (fun h => ?_)
    · have h := of_decide_eq_true h
      refine ⟨_, rfl, p, _, 0, _, rfl, rfl, SqL.of hp, rfl, _, rfl, a, n, rfl, ⟨by omega, PyProof.noPylong_of_log2 (log2_small hn hn2)⟩, fun q hq => ?_⟩
      have npq : p ≠ q := ne_of_none hp hq
      refine ⟨q, _, rfl, SqT.of upd_same, rfl, _, _, rfl, _, rfl, p, _, 0, 0, rfl, rfl, (upd_ne npq).trans hp, rfl, _, _, rfl, rfl, _, rfl, ?_⟩
      exact k _ _ (Stp.put (same_off (same_new hq)) (Int.ediv_nonneg ha (by omega)) hb0 hb1) (Int.emod_nonneg _ (by omega)) (Int.emod_lt_of_pos _ (by omega))
    · have e1 : (0 : Int) ≤ (b * 48271 + 8053) % 2147483587 := Int.emod_nonneg _ (by decide)
      have e2 : (b * 48271 + 8053) % 2147483587 < 2147483587 := Int.emod_lt_of_pos _ (by decide)
      refine ⟨_, rfl, p, _, 1, _, rfl, rfl, SqL.of hp, rfl, _, _, rfl, rfl, .inl ⟨by omega, by omega⟩, _, _, rfl, rfl, .inl ⟨_, rfl, _, _, rfl, rfl, (by show (0 : Int) < 2147483587; decide), _, rfl, p, _, 1, 1, rfl, rfl, hp, rfl, ?_⟩⟩
      refine ⟨_, rfl, p, _, 1, _, rfl, rfl, SqL.of upd_same, rfl, _, rfl, p, _, 1, _, rfl, rfl, SqL.of upd_same, rfl, _, _, rfl, rfl, .inl ⟨by omega, by omega⟩, .inl ⟨_, rfl, _, _, rfl, rfl, (by show (0 : Int) < 2147483629; decide),
        _, _, rfl, rfl, ⟨by decide, by decide⟩, .inl ⟨_, rfl, _, rfl, _, _, rfl, rfl, (by show (0 : Int) < n; omega), ?_⟩⟩⟩
      exact k _ _ (Stp.put (Same.refl _) ha e1 (by omega)) (Int.emod_nonneg _ (by omega)) (Int.emod_lt_of_pos _ (by omega))
theorem cd_pick (F : At K mg "_law_pick" s_law_pick) (T : BI mg) (c__law_draw : Cd P w K mg base 1 "_law_draw" ["_law_pot_here", "_law_many"] spDraw) : Cd P w K mg base 2 "_law_pick" ["_law_pot_here", "_law_menu_here"] (spPick K) := by
  refine cd_mk F sc_law_pick (fun vs H Q E h => ?_) (fun _ _ _ _ _ _ us hl => match us, hl with | [_, _], _ => rfl) (fun f cdv A outer s H vs Q E hr hG h => ?_)
  · obtain ⟨p, m, xs, rfl, _⟩ := h
    rfl
  · obtain ⟨p, m, xs, rfl, hP, hm, h1, h2, k⟩ := h
    refine ⟨_, (pss_one (ps_ret (pe_ix ix_list (pv 1) (pe_cd c__law_draw (hr.mono (by decide)) hG (by rfl) (pa_cons (pv 0) (pa_cons (pe_callB call_len_seq (by rfl) T.len PySem.boot_len (pa_cons (pv 1) pa_nil)) pa_nil))) (fun _ _ => rfl)))), ?_⟩
    refine ⟨_, rfl, _, rfl, _, rfl, m, _, rfl, .inl (off_same.seq hm), p, _, rfl, hP, by omega, by omega, fun d H' st d0 d1 => ?_⟩
    obtain ⟨x, hx⟩ : ∃ x, xs[d.toNat]? = some x := ⟨xs[d.toNat]'(by omega), List.getElem?_eq_getElem _⟩
    refine ⟨m, xs, d, x, rfl, rfl, off_same.seq (st.k.seq hm), ?_, k x H' st (List.mem_of_getElem? hx)⟩
    have q := atI_nat hx
    rw [Int.toNat_of_nonneg d0] at q
    exact q
theorem cd_pot (F : At K mg "_law_pot" s_law_pot) (T : BI mg) : Cd P w K mg base 1 "_law_pot" ["_law_script", "_law_k"] (spPot K) := by
  refine cd_mk F sc_law_pot (fun vs H Q E h => ?_) (fun _ _ _ _ _ _ us hl => match us, hl with | [_, _], _ => rfl) (fun f cdv A outer s H vs Q E hr hG h => ?_)
  · obtain ⟨a, k, ns, rfl, _⟩ := h
    rfl
  · obtain ⟨a, i, ns, rfl, hS, h0, h1, h2, k⟩ := h
    -- the pot, whatever the cell
    have fin : ∀ (c : Int) (b : Int), 0 ≤ b → b < 2147483549 → ∀ p, H p = none → Q (.ref p) (upd H p (.lst [.int (if c - 10 ^ 18 > 0 then c - 10 ^ 18 else 0), .int (b + 1)])) := fun c b hb0 hb1 p hp =>
      k p _ hp (same_new hp) ⟨_, _, upd_same, by split <;> omega, by omega, by omega⟩
    refine ⟨_, (pss_cons (ps_set (i := 2) sc_law_pot.nd rfl (Or.inl rfl) (pe_op op_add (pe_op op_mul pe_int (pv 1)) pe_int))
  (pss_cons (ps_if (pt_cmpR op_lt (pv 1) (pe_callB call_len_seq (by rfl) T.len PySem.boot_len (pa_cons (pv 0) pa_nil)) (nomark _)) (pss_one (ps_set (i := 2) sc_law_pot.nd rfl (Or.inl rfl) (pe_callB call_abs (by rfl) T.abs bt_abs (pa_cons (pe_ix ix_list (pv 0) (pv 1) (fun _ _ => rfl)) pa_nil)))) pss_nil)
  (pss_one (ps_ret (pe_lst (pa_cons (pe_callB (call_max2 rfl) (by rfl) T.max bt_max (pa_cons pe_int (pa_cons (pe_op op_sub (pv 2) (pe_op op_pow pe_int pe_int)) pa_nil))) (pa_cons (pe_op op_add (pe_op op_mod (pe_callTy call_int1 (by rfl) T.int bt_int (pa_cons (pe_op op_add (pe_op op_add (pe_op op_mul (pe_op op_mod (pe_callTy call_int1 (by rfl) T.int bt_int (pa_cons (pv 2) pa_nil)) pe_int) pe_int) (pe_op op_mul pe_int (pv 1))) pe_int) pa_nil)) pe_int) pe_int) pa_nil))))))), ?_⟩
    refine ⟨_, rfl, _, _, rfl, rfl, .inl ⟨by omega, by omega⟩, _, _, rfl, rfl, _, rfl, _, rfl, a, _, rfl, .inl hS, _, _, rfl, rfl, _, rfl, ?_⟩
    refine ite2 (fun h => ?_) (fun h => ?_)
    · have h := of_decide_eq_true h
      rw [List.length_map] at h
      obtain ⟨z, hz⟩ : ∃ z, ns[i.toNat]? = some z := ⟨ns[i.toNat]'(by omega), List.getElem?_eq_getElem _⟩
      have q := atI_nat (xs := ns.map V.int) (j := i.toNat) (v := .int z) (by rw [List.getElem?_map, hz]; rfl)
      rw [Int.toNat_of_nonneg h0] at q
      refine ⟨_, rfl, _, rfl, a, _, i, _, rfl, rfl, hS, q, _, rfl, ?_⟩
      have b1 : (0 : Int) ≤ (if z < 0 then -z else z) % 2147483563 := Int.emod_nonneg _ (by decide)
      have b2 : (if z < 0 then -z else z) % 2147483563 < 2147483563 := Int.emod_lt_of_pos _ (by decide)
      refine ⟨_, rfl, _, _, rfl, rfl, ⟨by decide, by decide, by decide⟩, _, _, rfl, rfl, _, _, rfl, _, rfl, .inl ⟨_, rfl, _, _, rfl, rfl, (by show (0 : Int) < 2147483563; decide), _, _, rfl, rfl, .inl ⟨by omega, by omega⟩, _, rfl, _, _, rfl, rfl, .inl ⟨by decide, by decide⟩, _, _, rfl, rfl, _, _, rfl, rfl, .inl ⟨_, rfl, _, _, rfl, rfl, (by show (0 : Int) < 2147483549; decide), _, _, rfl, rfl, (by show 2 ≤ sizeLine; decide), fun p hp => ?_⟩⟩⟩
      exact fin _ _ (Int.emod_nonneg _ (by decide)) (Int.emod_lt_of_pos _ (by decide)) p hp
    · have b1 : (0 : Int) ≤ (43 * i + 17) % 2147483563 := Int.emod_nonneg _ (by decide)
      have b2 : (43 * i + 17) % 2147483563 < 2147483563 := Int.emod_lt_of_pos _ (by decide)
      refine ⟨_, rfl, _, _, rfl, rfl, ⟨by decide, by decide, by decide⟩, _, _, rfl, rfl, _, _, rfl, _, rfl, .inl ⟨_, rfl, _, _, rfl, rfl, (by show (0 : Int) < 2147483563; decide), _, _, rfl, rfl, .inl ⟨by omega, by omega⟩, _, rfl, _, _, rfl, rfl, .inl ⟨by decide, by decide⟩, _, _, rfl, rfl, _, _, rfl, rfl, .inl ⟨_, rfl, _, _, rfl, rfl, (by show (0 : Int) < 2147483549; decide), _, _, rfl, rfl, (by show 2 ≤ sizeLine; decide), fun p hp => ?_⟩⟩⟩
      exact fin _ _ (Int.emod_nonneg _ (by decide)) (Int.emod_lt_of_pos _ (by decide)) p hp
end
end K11
/-! ## K11p -/
set_option Elab.async false
set_option linter.all false
set_option maxRecDepth 100000
set_option maxHeartbeats 4000000
namespace K11
open PySem PySem.Spec PyProof.Rows L2 He Vx

/-- one of n states -/
def stateD (n : Int) : PyData → Bool
  | .int i => decide (0 ≤ i) && decide (i < n)
  | _ => false
def stepL (n : Int) : List PyData → Bool
  | [a, b, c, d] => stateD n a && (nameD b && (nameD c && stateD n d))
  | _ => false
def stepD (n : Int) : PyData → Bool
  | .tuple ds => stepL n ds
  | _ => false
/-- a def that asks of one value of data beside the number of states -/
def spS (K : PySem.W.Frag) (g : Int → PyData → Bool) : Sp := fun vs H Q _ => ∃ n x d, vs = [.int n, x] ∧ Da K H x d ∧ okD d = true ∧ ∀ H', Same H H' → Q (.bl (g n d)) H'
section
variable {P : Program} {w : World} {K : PySem.W.Frag} {mg : Str → Option Value} {base : Heap}
theorem co_is_integer (F : At K mg "is_integer" s_is_integer) (T : BI mg) : Co P w K mg base CX0 1 "is_integer" ["value"] (spP K numD) := by
  refine co_mk F sc_is_integer (fun vs H Q E h => ?_) (fun _ _ _ _ _ _ us hl => match us, hl with | [_], _ => rfl) (fun f cdv A outer s H vs Q E hr h => ?_)
  · obtain ⟨x, d, rfl, _⟩ := h
    rfl
  · obtain ⟨x, d, rfl, hd, ok, k⟩ := h
    refine ⟨_, (pss_one (ps_ret (pe_and (pe_callB (call_isD (K := K) rfl) (by rfl) T.isinstance bt_isinstance (pa_cons (pv 0) (pa_cons (pe_bltn (v := .ty "int") (by rfl) T.int bt_int rfl) pa_nil))) (pe_one (pe_not (pe_callB (call_isD (K := K) rfl) (by rfl) T.isinstance bt_isinstance (pa_cons (pv 0) (pa_cons (pe_bltn (v := .ty "bool") (by rfl) T.bool bt_bool rfl) pa_nil)))))))), ?_⟩
    refine ⟨_, rfl, x, d, _, rfl, hd, by decide, _, rfl, ?_⟩
    rw [isI]
    have k' := k H (Same.refl H)
    cases e : numD d || boolD d with
    | false =>
      refine iteF ?_
      rw [show numD d = false by cases d <;> first | rfl | cases e] at k'
      exact k'
    | true =>
      refine iteT ⟨_, rfl, x, d, _, rfl, hd, by decide, _, rfl, ?_⟩
      rw [isBo]
      rw [show numD d = !boolD d by cases d <;> first | rfl | cases e] at k'
      exact k'
theorem co_is_list (F : At K mg "is_list" s_is_list) (T : BI mg) : Co P w K mg base CX0 1 "is_list" ["value"] (spP K seqD) := by
  refine co_mk F sc_is_list (fun vs H Q E h => ?_) (fun _ _ _ _ _ _ us hl => match us, hl with | [_], _ => rfl) (fun f cdv A outer s H vs Q E hr h => ?_)
  · obtain ⟨x, d, rfl, _⟩ := h
    rfl
  · obtain ⟨x, d, rfl, hd, ok, k⟩ := h
    refine ⟨_, (pss_one (ps_ret (pe_callB (call_isDT (K := K) rfl) (by rfl) T.isinstance bt_isinstance (pa_cons (pv 0) (pa_cons (pe_tup (pa_cons (pe_bltn (v := .ty "list") (by rfl) T.list bt_list rfl) (pa_cons (pe_bltn (v := .ty "tuple") (by rfl) T.tuple bt_tuple rfl) pa_nil))) pa_nil))))), ?_⟩
    refine ⟨_, rfl, by show 2 ≤ sizeLine; decide, fun p1 n1 => ?_⟩
    generalize g1 : upd H p1 _ = H1
    have s1 : Same H H1 := g1 ▸ same_new n1
    have e1 := g1 ▸ upd_same (H := H) (a := p1)
    clear g1
    refine ⟨x, d, p1, rfl, e1, hd.mono s1, ?_⟩
    rw [isLT]
    exact k H1 s1
theorem co_is_name (F : At K mg "is_name" s_is_name) (T : BI mg) : Co P w K mg base CX0 1 "is_name" ["value"] (spP K nameD) := by
  refine co_mk F sc_is_name (fun vs H Q E h => ?_) (fun _ _ _ _ _ _ us hl => match us, hl with | [_], _ => rfl) (fun f cdv A outer s H vs Q E hr h => ?_)
  · obtain ⟨x, d, rfl, _⟩ := h
    rfl
  · obtain ⟨x, d, rfl, hd, ok, k⟩ := h
    refine ⟨_, (pss_cons (ps_if (PW.pt (pw_or (pt_not (pt_val (pe_callB (call_isD (K := K) rfl) (by rfl) T.isinstance bt_isinstance (pa_cons (pv 0) (pa_cons (pe_bltn (v := .ty "str") (by rfl) T.str bt_str rfl) pa_nil))))) (pw_or1 (pt_not (pt_chain op_le op_le pe_int (pe_callB call_len_str (by rfl) T.len PySem.boot_len (pa_cons (pv 0) pa_nil)) pe_int))))) (pss_one (ps_ret pe_bl)) pss_nil)
  (pss_one (ps_ret (pe_and (pe_bm0 PySem.F.plainAttrs_str PySem.F.slot_str_isascii PySem.F.type_str_isascii mt_isascii (pv 0)) (pe_and (pe_bm0 PySem.F.plainAttrs_str PySem.F.slot_str_isalpha PySem.F.type_str_isalpha mt_isalpha (pv 0)) (pe_one (pe_bm0 PySem.F.plainAttrs_str PySem.F.slot_str_islower PySem.F.type_str_islower mt_islower (pv 0)))))))), ?_⟩
    have k' := k H (Same.refl H)
    refine ⟨_, rfl, x, d, _, rfl, hd, by decide, _, rfl, ?_⟩
    rw [isS]
    cases hd with
    | int i => exact iteT (iteT k')
    | non => exact iteT (iteT k')
    | bl _ => exact iteT (iteT k')
    | lst _ _ => exact iteT (iteT k')
    | tup _ _ => exact iteT (iteT k')
    | dK _ _ => exact iteT (iteT k')
    | dT _ _ => exact iteT (iteT k')
    | str z =>
      have hz : z.length ≤ sizeLine := Nat.le_trans (okStr ok) (by show 100 ≤ sizeLine; decide)
      refine iteF ⟨_, rfl, z, rfl, hz, _, _, rfl, rfl, _, rfl, ?_⟩
      have k2 : Q (.bl (nm z)) H := k'
      unfold nm at k2
      by_cases h1 : 1 ≤ z.length
      · rw [decide_eq_true h1, Bool.true_and] at k2
        rw [decide_eq_true (show (1 : Int) ≤ (z.length : Int) by omega)]
        refine iteT ⟨_, _, rfl, rfl, _, rfl, ?_⟩
        by_cases h2 : z.length ≤ 8
        · rw [decide_eq_true h2, Bool.true_and, ← name_eq h1] at k2
          rw [decide_eq_true (show (z.length : Int) ≤ (8 : Int) by omega)]
          refine iteF ⟨_, rfl, rfl, z, rfl, rfl, trivial, _, rfl, ?_⟩
          cases e1 : Txt.isascii z with
          | false =>
            rw [e1] at k2
            exact iteF k2
          | true =>
            rw [e1, Bool.true_and] at k2
            refine iteT ⟨_, rfl, rfl, z, rfl, rfl, trivial, _, rfl, ?_⟩
            cases e2 : Txt.isalpha z with
            | false =>
              rw [e2] at k2
              exact iteF k2
            | true =>
              rw [e2, Bool.true_and] at k2
              exact iteT ⟨_, rfl, rfl, z, rfl, rfl, trivial, k2⟩
        · rw [decide_eq_false h2, Bool.false_and] at k2
          rw [decide_eq_false (show ¬ (z.length : Int) ≤ (8 : Int) by omega)]
          exact iteT k2
      · rw [decide_eq_false h1, Bool.false_and] at k2
        rw [decide_eq_false (show ¬ (1 : Int) ≤ (z.length : Int) by omega)]
        exact iteF ⟨false, rfl, iteT k2⟩
theorem and_b {a c : Bool} {Q : VK} {te : TE} {σ : L2.St} {H H' : Hp} (s : Same H H') (hk : ∀ H', Same H H' → Q (.bl (a && c)) H') (ht : (∀ H'', Same H' H'' → Q (.bl c) H'') → te σ H' Q) : ∃ b, V.bl a = .bl b ∧ if b = true then te σ H' Q else Q (.bl false) H' := by
  refine ⟨a, rfl, ?_⟩
  cases a with
  | false => exact iteF (hk H' s)
  | true => exact iteT (ht fun H'' s2 => by have q := hk H'' (s.trans s2); rwa [Bool.true_and] at q)
/-- f(states, x) and .. -/
theorem and_S {g : Int → PyData → Bool} {n : Int} {i : Nat} {x : V} {d : PyData} {c : Bool} {Q : VK} {te : TE} {σ : L2.St} {H : Hp} (h0 : σ[0]? = some (some (.int n))) (hi : σ[i]? = some (some x)) (hd : Da K H x d) (ok : okD d = true)
    (hk : ∀ H', Same H H' → Q (.bl (g n d && c)) H') (ht : ∀ H', Same H H' → (∀ H'', Same H' H'' → Q (.bl c) H'') → te σ H' Q) : tAndV (tCall (spS K g) [] E0 (tCons (tVar 0) (tCons (tVar i) tNil))) te σ H Q :=
  ⟨_, h0, _, hi, n, x, d, rfl, hd, ok, fun H' s => and_b s hk (ht H' s)⟩
/-- f(x) and .. -/
theorem and_P {g : PyData → Bool} {i : Nat} {x : V} {d : PyData} {c : Bool} {Q : VK} {te : TE} {σ : L2.St} {H : Hp} (hi : σ[i]? = some (some x)) (hd : Da K H x d) (ok : okD d = true)
    (hk : ∀ H', Same H H' → Q (.bl (g d && c)) H') (ht : ∀ H', Same H H' → (∀ H'', Same H' H'' → Q (.bl c) H'') → te σ H' Q) : tAndV (tCall (spP K g) [] E0 (tCons (tVar i) tNil)) te σ H Q :=
  ⟨_, hi, x, d, rfl, hd, ok, fun H' s => and_b s hk (ht H' s)⟩
theorem co_is_state (F : At K mg "is_state" s_is_state) (c_is_integer : Co P w K mg base CX0 1 "is_integer" ["value"] (spP K numD)) : Co P w K mg base CX0 2 "is_state" ["states", "value"] (spS K stateD) := by
  refine co_mk F sc_is_state (fun vs H Q E h => ?_) (fun _ _ _ _ _ _ us hl => match us, hl with | [_, _], _ => rfl) (fun f cdv A outer s H vs Q E hr h => ?_)
  · obtain ⟨n, x, d, rfl, _⟩ := h
    rfl
  · obtain ⟨n, x, d, rfl, hd, ok, k⟩ := h
    refine ⟨_, (pss_one (ps_ret (pe_and (pe_co c_is_integer (hr.mono (by decide)) (by rfl) (pa_cons (pv 1) pa_nil)) (pe_one (pe_chain op_le op_lt pe_int (pv 1) (pv 0)))))), ?_⟩
    refine ⟨_, rfl, x, d, rfl, hd, ok, fun H1 s1 => ⟨_, rfl, ?_⟩⟩
    have k' := k H1 s1
    cases hd with
    | int i =>
      have k2 : Q (.bl (decide (0 ≤ i) && decide (i < n))) H1 := k'
      refine iteT ⟨_, rfl, _, _, rfl, rfl, _, rfl, ?_⟩
      by_cases h1 : 0 ≤ i
      · rw [decide_eq_true h1, Bool.true_and] at k2
        rw [decide_eq_true h1]
        exact iteT ⟨_, rfl, _, _, rfl, rfl, k2⟩
      · rw [decide_eq_false h1, Bool.false_and] at k2
        rw [decide_eq_false h1]
        exact iteF k2
    | non => exact iteF k'
    | bl _ => exact iteF k'
    | str _ => exact iteF k'
    | lst _ _ => exact iteF k'
    | tup _ _ => exact iteF k'
    | dK _ _ => exact iteF k'
    | dT _ _ => exact iteF k'
theorem four_of {α : Type} : ∀ {xs : List α}, xs.length = 4 → ∃ a b c d, xs = [a, b, c, d]
  | [a, b, c, d], _ => ⟨a, b, c, d, rfl⟩
theorem das_four {H : Hp} {x1 x2 x3 x4 : V} {ds : List PyData} (r : Das K H [x1, x2, x3, x4] ds) : ∃ d1 d2 d3 d4, Da K H x1 d1 ∧ Da K H x2 d2 ∧ Da K H x3 d3 ∧ Da K H x4 d4 ∧ ds = [d1, d2, d3, d4] := by
  cases r with
  | cons r1 r =>
  cases r with
  | cons r2 r =>
  cases r with
  | cons r3 r =>
  cases r with
  | cons r4 r =>
  cases r
  exact ⟨_, _, _, _, r1, r2, r3, r4, rfl⟩
theorem stepL_len {n : Int} {ds : List PyData} (h : ds.length ≠ 4) : stepL n ds = false := by
  match ds, h with
  | [], _ => rfl
  | [_], _ => rfl
  | [_, _], _ => rfl
  | [_, _, _], _ => rfl
  | [_, _, _, _], h => exact absurd rfl h
  | _ :: _ :: _ :: _ :: _ :: _, _ => rfl
theorem ok_is_step {f : Addr} {fd : FuncData} (F : Fun K "is_step" "Box.is_step" s_Box_is_step f fd) (T : BI mg) (c_is_state : Co P w K mg base CX0 2 "is_state" ["states", "value"] (spS K stateD)) (c_is_name : Co P w K mg base CX0 1 "is_name" ["value"] (spP K nameD)) :
    FnOk P w K mg base CX0 3 f fd ["states", "value"] (spS K stepD) := by
  refine F.ok sc_Box_is_step (fun vs H Q E h => ?_) (fun cdv A outer s H vs Q E hr h => ?_)
  · obtain ⟨n, x, d, rfl, _⟩ := h
    rfl
  · obtain ⟨n, x, d, rfl, hd, ok, k⟩ := h
    refine ⟨_, (pss_cons (ps_if (PW.pt (pw_or (pt_not (pt_val (pe_callB (call_isD (K := K) rfl) (by rfl) T.isinstance bt_isinstance (pa_cons (pv 1) (pa_cons (pe_bltn (v := .ty "tuple") (by rfl) T.tuple bt_tuple rfl) pa_nil))))) (pw_or1 (pt_cmpR op_ne (pe_callB call_len_seq (by rfl) T.len PySem.boot_len (pa_cons (pv 1) pa_nil)) pe_int (nomark _))))) (pss_one (ps_ret pe_bl)) pss_nil)
  (pss_cons (ps_asg (pv 1) (pg_tup (by rfl) (pgs_cons (pg_name (i := 2) sc_Box_is_step.nd rfl (Or.inl rfl)) (pgs_cons (pg_name (i := 3) sc_Box_is_step.nd rfl (Or.inl rfl)) (pgs_cons (pg_name (i := 4) sc_Box_is_step.nd rfl (Or.inl rfl)) (pgs_cons (pg_name (i := 5) sc_Box_is_step.nd rfl (Or.inl rfl)) pgs_nil))))))
  (pss_one (ps_ret (pe_and (pe_co c_is_state (hr.mono (by decide)) (by rfl) (pa_cons (pv 0) (pa_cons (pv 2) pa_nil))) (pe_and (pe_co c_is_name (hr.mono (by decide)) (by rfl) (pa_cons (pv 3) pa_nil)) (pe_and (pe_co c_is_name (hr.mono (by decide)) (by rfl) (pa_cons (pv 4) pa_nil)) (pe_one (pe_co c_is_state (hr.mono (by decide)) (by rfl) (pa_cons (pv 0) (pa_cons (pv 5) pa_nil))))))))))), ?_⟩
    have k' := k H (Same.refl H)
    refine ⟨_, rfl, x, d, _, rfl, hd, by decide, _, rfl, ?_⟩
    rw [isTu]
    cases hd with
    | int i => exact iteT (iteT k')
    | non => exact iteT (iteT k')
    | bl _ => exact iteT (iteT k')
    | str _ => exact iteT (iteT k')
    | lst _ _ => exact iteT (iteT k')
    | dK _ _ => exact iteT (iteT k')
    | dT _ _ => exact iteT (iteT k')
    | @tup a xs ds hp r =>
      refine iteF ⟨_, rfl, a, xs, rfl, .inr hp, rfl, _, rfl, ?_⟩
      rw [dec_int]
      by_cases h4 : xs.length = 4
      · obtain ⟨x1, x2, x3, x4, rfl⟩ := four_of h4
        obtain ⟨d1, d2, d3, d4, r1, r2, r3, r4, rfl⟩ := das_four r
        have ok1 : okD d1 = true := okAll_at (i := 0) (okTup ok).2 rfl
        have ok2 : okD d2 = true := okAll_at (i := 1) (okTup ok).2 rfl
        have ok3 : okD d3 = true := okAll_at (i := 2) (okTup ok).2 rfl
        have ok4 : okD d4 = true := okAll_at (i := 3) (okTup ok).2 rfl
        refine iteF ⟨_, rfl, a, _, rfl, hp, rfl, ?_⟩
        refine ⟨_, _, rfl, _, _, rfl, _, _, rfl, _, _, rfl, rfl, ?_⟩
        have k2 : ∀ H', Same H H' → Q (.bl (stateD n d1 && (nameD d2 && (nameD d3 && stateD n d4)))) H' := k
        refine in_ret (and_S rfl rfl r1 ok1 k2 fun H1 s1 k3 => ?_)
        refine and_P rfl (r2.mono s1) ok2 k3 fun H2 s2 k4 => ?_
        refine and_P rfl (r3.mono (s1.trans s2)) ok3 k4 fun H3 s3 k5 => ?_
        exact ⟨_, rfl, _, rfl, n, x4, d4, rfl, r4.mono ((s1.trans s2).trans s3), ok4, k5⟩
      · have e : stepL n ds = false := stepL_len (by rw [← r.len]; exact h4)
        have k2 : Q (.bl (stepL n ds)) H := k'
        rw [e] at k2
        rw [show ((xs.length : Int) == 4) = false by rw [beq_eq_false_iff_ne]; omega]
        exact iteT k2
end
end K11
/-! ## K11q -/
set_option Elab.async false
set_option linter.all false
set_option maxRecDepth 100000
set_option maxHeartbeats 4000000
namespace K11
open PySem PySem.Spec PyProof.Rows L2 He Vx

/-- the first place that is not right, or told already -/
def fwk {κ : Type} [DecidableEq κ] : List κ → List (Option κ) → Nat → Option Nat
  | _, [], _ => none
  | _, none :: _, i => some i
  | seen, some k :: r, i => if k ∈ seen then some i else fwk (seen ++ [k]) r (i + 1)
def posV : Option Nat → V
  | none => .non
  | some i => .int (i : Int)
theorem walk_enT {K : PySem.W.Frag} {a : Addr} {xs : List V} : Walk (Itet K a xs) xs.length (fun H => SqT K H a xs) (YPair (fun i => some (.int (i : Nat))) (fun i => xs[i]?)) :=
  ⟨fun i _ hi q => ⟨q, hi⟩, fun _ q => ⟨q, Nat.le_refl _⟩, fun i H v H' _ q y => by
    obtain ⟨T, x, h1, h2, h3, h4⟩ := y
    exact ⟨T, .int (i : Nat), x, h1, h2, h3, rfl, h4⟩⟩
/-- the keys of the right ones, all ints, all tuples -/
def spFW (K : PySem.W.Frag) : Sp := fun vs H Q _ => ∃ (a r : Addr) (xs : List V), vs = [.ref a, .ref r] ∧ (SqL K H a xs ∨ SqT K H a xs) ∧ xs.length ≤ 1000 ∧
  ((∃ ks : List (Option L2.Key), SqL K H r (ks.map fun k => V.bl k.isSome) ∧ ks.length = xs.length ∧ (∀ (i : Nat) (k : L2.Key), ks[i]? = some (some k) → xs[i]? = some (kV k)) ∧ ∀ H', Same H H' → Q (posV (fwk [] ks 0)) H') ∨
   (∃ ks : List (Option (List L2.Key)), SqL K H r (ks.map fun k => V.bl k.isSome) ∧ ks.length = xs.length ∧ (∀ (i : Nat) (k : List L2.Key), ks[i]? = some (some k) → ∃ b : Addr, xs[i]? = some (V.ref b) ∧ H b = some (.tup (k.map kV))) ∧ ∀ H', Same H H' → Q (posV (fwk [] ks 0)) H'))
theorem valV_seen {κ : Type} [DecidableEq κ] (k : κ) (v : V) : ∀ seen : List κ, (L2.valV (seen.map fun z => (z, v)) k).isSome = decide (k ∈ seen)
  | [] => rfl
  | z :: r => by
    rw [List.map_cons]
    by_cases e : z = k
    · rw [L2.valV_pos (p := (z, v)) e, decide_eq_true (by rw [e]; exact List.mem_cons_self ..)]
      rfl
    · rw [L2.valV_neg (p := (z, v)) e, valV_seen k v r]
      refine decide_eq_decide.mpr ⟨List.mem_cons_of_mem _, fun h => ?_⟩
      rcases List.mem_cons.mp h with h | h
      · exact absurd h.symm e
      · exact h
section
variable {K : PySem.W.Frag}
theorem fw_loop {κ : Type} [DecidableEq κ] {J : It} {G : Hp → Prop} {mkD : List (κ × V) → HO} {rep : Hp → κ → V → Prop} {xs : List V} {ks : List (Option κ)} {H : Hp} {a r d : Addr} {D : Ends} {o3 o4 : Option V}
    (w : Walk J xs.length G (YPair (fun i => some (.int (i : Nat))) (fun i => xs[i]?))) (hG : ∀ H', Same H H' → G H') (hr : SqL K H r (ks.map fun k => V.bl k.isSome)) (hl : ks.length = xs.length) (hx : xs.length ≤ 1000)
    (hk : ∀ (i : Nat) (k : κ), ks[i]? = some (some k) → ∃ x, xs[i]? = some x ∧ rep H k x) (rm : ∀ H' k x, Same H H' → rep H k x → rep H' k x) (get : ∀ H' kvs k x, H' d = some (mkD kvs) → rep H' k x → DGet H' d x (L2.valV kvs k))
    (put : ∀ H' kvs k x v, H' d = some (mkD kvs) → rep H' k x → kvs.length < sizeLine → DPut H' d x v (upd H' d (mkD (putK kvs k v)))) (hd : H d = none)
    (q1 : ∀ (i : Nat) H', Same H H' → fwk [] ks 0 = some i → D.rt (.int (i : Nat)) H') (q2 : ∀ σ' H', Same H H' → fwk [] ks 0 = none → D.nx σ' H') :
    ∃ W : Nat → Nat → L2.St → Hp → Prop, (∃ m, W 0 m [some (.ref a), some (.ref r), some (.ref d), o3, o4] (upd H d (mkD []))) ∧ ∀ i m σ H, W i m σ H →
      (J.stop i H ∧ D.nx σ H) ∨ (J.go i H ∧ ∃ N : L2.St → Hp → Prop, (∀ σ' H', N σ' H' → ∃ m', m' < m ∧ W (i + 1) m' σ' H') ∧ ∀ x H', J.yld i H x H' → gTup K 2 (gCons (gName 3) (gCons (gName 4) gNil)) x σ H' fun σ2 H2 =>
        tSeq (tIfS (tOr (tNot (tB (tOp (rIxL K) (tVar 1) (tVar 3)))) (tB (tDIn (tVar 4) (tVar 2)))) (tRet (tVar 3)) tNext) (sDPut (tVar 2) (tVar 4) (tC (V.bl true))) { D with nx := N, ct := N, bk := D.nx } σ2 H2) := by
  refine for_it w (fun i σ H' => ∃ (p3 p4 : Option V) (seen : List κ), σ = [some (.ref a), some (.ref r), some (.ref d), p3, p4] ∧ Same H H' ∧ H' d = some (mkD (seen.map fun z => (z, V.bl true))) ∧ seen.length ≤ i ∧ fwk seen (ks.drop i) i = fwk [] ks 0)
    ⟨o3, o4, [], rfl, same_new hd, upd_same, Nat.le_refl _, rfl⟩ (fun i σ H' _ z => ?_) (fun i x σ H1 H2 hi z y => ?_) (fun σ H' z => ?_)
  · obtain ⟨_, _, _, _, s, _⟩ := z
    exact hG H' s
  · obtain ⟨p3, p4, seen, rfl, s1, ed, ls, ef⟩ := z
    obtain ⟨T, x1, x2, rfl, nT, rfl, e1, e2⟩ := y
    cases e1
    have s2 : Same H1 (upd H1 T (.tup [.int (i : Nat), x2])) := same_new nT
    have s12 := s1.trans s2
    have ed2 := s2 _ _ ed
    refine ⟨T, _, rfl, SqT.of upd_same, rfl, _, _, rfl, _, _, rfl, rfl, ?_⟩
    have hi2 : i < ks.length := by rw [hl]; exact hi
    obtain ⟨o, ho⟩ : ∃ o, ks[i]? = some o := ⟨ks[i], List.getElem?_eq_getElem hi2⟩
    have hdr : ks.drop i = o :: ks.drop (i + 1) := by
      rw [List.drop_eq_getElem_cons hi2]
      rw [List.getElem?_eq_getElem hi2] at ho
      rw [Option.some.inj ho]
    rw [hdr] at ef
    have hat := atI_nat (xs := ks.map fun k => V.bl k.isSome) (j := i) (v := .bl o.isSome) (by rw [List.getElem?_map, ho]; rfl)
    refine ⟨_, rfl, _, rfl, r, _, (i : Int), _, rfl, rfl, s12.seq hr, hat, _, rfl, ?_⟩
    cases o with
    | none => exact iteT (iteT ⟨_, rfl, q1 i _ s12 ef.symm⟩)
    | some k =>
      obtain ⟨y, hy, rp⟩ := hk i k ho
      cases e2.symm.trans hy
      have rp2 := rm _ _ _ s12 rp
      refine iteF ⟨_, rfl, _, rfl, d, _, rfl, get _ _ k _ ed2 rp2, _, rfl, ?_⟩
      rw [valV_seen]
      by_cases hm : k ∈ seen
      · rw [decide_eq_true hm]
        refine iteT ⟨_, rfl, q1 i _ s12 ?_⟩
        rw [← ef, fwk, if_pos hm]
      · rw [decide_eq_false hm]
        refine iteF ⟨_, rfl, _, rfl, d, _, rfl, put _ _ k _ _ ed2 rp2 ?_, ?_⟩
        · rw [List.length_map]
          exact small1000 (by omega)
        · have hn : L2.valV (seen.map fun z => (z, V.bl true)) k = none := by
            have q := valV_seen k (V.bl true) seen
            rw [decide_eq_false hm] at q
            exact Option.isSome_eq_false_iff.mp q |> Option.isNone_iff_eq_none.mp
          refine ⟨_, _, seen ++ [k], rfl, fun c u e => ?_, ?_, by rw [List.length_append]; show seen.length + 1 ≤ i + 1; omega, ?_⟩
          · rw [upd_ne (ne_of_none e hd)]
            exact s12 c u e
          · rw [upd_same, putK_new _ hn, List.map_append]
            rfl
          · rw [← ef, fwk, if_neg hm]
  · obtain ⟨_, _, seen, rfl, s, _, _, ef⟩ := z
    refine q2 _ H' s ?_
    rw [← ef, ← hl, List.drop_length]
    rfl
end
section
variable {P : Program} {w : World} {K : PySem.W.Frag} {mg : Str → Option Value} {base : Heap}
theorem co_first_wrong (F : At K mg "first_wrong" s_first_wrong) (T : BI mg) : Co P w K mg base CX0 1 "first_wrong" ["values", "right"] (spFW K) := by
  refine co_mk F sc_first_wrong (fun vs H Q E h => ?_) (fun _ _ _ _ _ _ us hl => match us, hl with | [_, _], _ => rfl) (fun f cdv A outer s H vs Q E hr h => ?_)
  · obtain ⟨a, r, xs, rfl, _⟩ := h
    rfl
  · obtain ⟨a, r, xs, rfl, hs, hl, h⟩ := h
    rcases h with ⟨ks, hr1, hl1, hk, q⟩ | ⟨ks, hr1, hl1, hk, q⟩
    · refine ⟨_, (pss_cons (ps_set (i := 2) sc_first_wrong.nd rfl (Or.inl rfl) pe_dnewK)
  (pss_cons (ps_for PassesOwn.never rfl (pi_enS (by rfl) T.enumerate (pa_cons (pv 0) pa_nil)) (pg_tup (by rfl) (pgs_cons (pg_name (i := 3) sc_first_wrong.nd rfl (Or.inl rfl)) (pgs_cons (pg_name (i := 4) sc_first_wrong.nd rfl (Or.inl rfl)) pgs_nil))) (pss_cons (ps_if (PW.pt (pw_or (pt_not (pt_val (pe_ix ix_list (pv 1) (pv 3) (fun _ _ => rfl)))) (pw_or1 (pt_cmp (pc_din (hu_of hr) (pv 4) (pv 2)))))) (pss_one (ps_ret (pv 3))) pss_nil)
  (pss_one (ps_dput (hu_of hr) (pv 2) (pv 4) pe_bl rfl))))
  (pss_one (ps_ret pe_non)))), ?_⟩
      refine fun d hd => ?_
      have st := fun (J : It) (G : Hp → Prop) w hG => fw_loop (K := K) (κ := L2.Key) (J := J) (G := G) (mkD := HO.dK) (rep := fun _ k x => x = kV k) (xs := xs) (ks := ks) (H := H) (a := a) (r := r) (d := d) (D := { nx := fun σ' H' => tRet (tC .non) { nx := fun _ H' => Q .non H', rt := Q } σ' H', rt := Q }) (o3 := none) (o4 := none)
        w hG hr1 hl1 hl (fun i k e => ⟨_, hk i k e, rfl⟩) (fun _ _ _ _ e => e) (fun H' kvs k x e1 e2 => by subst e2; exact DGet.k e1) (fun H' kvs k x v e1 e2 e3 => by subst e2; exact DPut.k e1 e3) hd
        (fun i H' s e => by have z := q H' s; rw [e] at z; exact z) (fun σ' H' s e => by have z := q H' s; rw [e] at z; exact z)
      refine ⟨_, rfl, a, xs, rfl, ?_⟩
      rcases hs with hs | hs
      · exact .inl ⟨(same_new hd).seq hs, st _ _ walk_enum fun H' s => s.seq hs⟩
      · exact .inr ⟨Vx.seqT (same_new hd) hs, st _ _ walk_enT fun H' s => Vx.seqT s hs⟩
    · refine ⟨_, (pss_cons (ps_set (i := 2) sc_first_wrong.nd rfl (Or.inl rfl) pe_dnewT)
  (pss_cons (ps_for PassesOwn.never rfl (pi_enS (by rfl) T.enumerate (pa_cons (pv 0) pa_nil)) (pg_tup (by rfl) (pgs_cons (pg_name (i := 3) sc_first_wrong.nd rfl (Or.inl rfl)) (pgs_cons (pg_name (i := 4) sc_first_wrong.nd rfl (Or.inl rfl)) pgs_nil))) (pss_cons (ps_if (PW.pt (pw_or (pt_not (pt_val (pe_ix ix_list (pv 1) (pv 3) (fun _ _ => rfl)))) (pw_or1 (pt_cmp (pc_din (hu_of hr) (pv 4) (pv 2)))))) (pss_one (ps_ret (pv 3))) pss_nil)
  (pss_one (ps_dput (hu_of hr) (pv 2) (pv 4) pe_bl rfl))))
  (pss_one (ps_ret pe_non)))), ?_⟩
      refine fun d hd => ?_
      have st := fun (J : It) (G : Hp → Prop) w hG => fw_loop (K := K) (κ := List L2.Key) (J := J) (G := G) (mkD := HO.dT) (rep := fun H' k x => ∃ b : Addr, x = V.ref b ∧ H' b = some (.tup (k.map kV))) (xs := xs) (ks := ks) (H := H) (a := a) (r := r) (d := d) (D := { nx := fun σ' H' => tRet (tC .non) { nx := fun _ H' => Q .non H', rt := Q } σ' H', rt := Q }) (o3 := none) (o4 := none)
        w hG hr1 hl1 hl (fun i k e => by obtain ⟨b, h1, h2⟩ := hk i k e; exact ⟨_, h1, b, rfl, h2⟩) (fun H' k x s e => by obtain ⟨b, h1, h2⟩ := e; exact ⟨b, h1, s _ _ h2⟩)
        (fun H' kvs k x e1 e2 => by obtain ⟨b, rfl, h2⟩ := e2; exact DGet.t e1 h2) (fun H' kvs k x v e1 e2 e3 => by obtain ⟨b, rfl, h2⟩ := e2; exact DPut.t e1 h2 e3) hd
        (fun i H' s e => by have z := q H' s; rw [e] at z; exact z) (fun σ' H' s e => by have z := q H' s; rw [e] at z; exact z)
      refine ⟨_, rfl, a, xs, rfl, ?_⟩
      rcases hs with hs | hs
      · exact .inl ⟨(same_new hd).seq hs, st _ _ walk_enum fun H' s => s.seq hs⟩
      · exact .inr ⟨Vx.seqT (same_new hd) hs, st _ _ walk_enT fun H' s => Vx.seqT s hs⟩
end
end K11
/-! ## K11r -/
set_option Elab.async false
set_option linter.all false
set_option maxRecDepth 100000
set_option maxHeartbeats 4000000
namespace K11
open PySem PySem.Spec PyProof.Rows L2 He Vx

/-- the error classes of the text -/
structure ErrSet (P : Program) (w : World) (K : PySem.W.Frag) (mg : Str → Option Value) (base : Heap) : Prop where
  BoxError : Err0 K mg xVal "BoxError" (ga K "BoxError")
  InvalidStates : ErrC P w K mg base xVal "InvalidStates" "value" (ga K "InvalidStates")
  InvalidStarts : ErrC P w K mg base xVal "InvalidStarts" "position" (ga K "InvalidStarts")
  InvalidSteps : ErrC P w K mg base xVal "InvalidSteps" "position" (ga K "InvalidSteps")
  InvalidStep : ErrC P w K mg base xVal "InvalidStep" "value" (ga K "InvalidStep")
  InvalidState : ErrC P w K mg base xVal "InvalidState" "value" (ga K "InvalidState")
  LimitError : Err0 K mg xAri "LimitError" (ga K "LimitError")
  TooMany : ErrC2 P w K mg base xAri "TooMany" "what" "limit" (ga K "TooMany")
def keyI (n : Int) : PyData → Option L2.Key
  | .int i => if stateD n (.int i) = true then some (.inl i) else none
  | _ => none
theorem keyI_some (n : Int) (d : PyData) : (keyI n d).isSome = stateD n d := by
  cases d with
  | int i =>
    show (if stateD n (.int i) = true then some (Sum.inl i) else none : Option L2.Key).isSome = stateD n (.int i)
    cases stateD n (.int i) <;> rfl
  | _ => rfl
theorem keyI_at {K : PySem.W.Frag} {H : Hp} {n : Int} {v : V} {d : PyData} {k : L2.Key} (h : Da K H v d) (e : keyI n d = some k) : v = kV k := by
  cases h with
  | int i =>
    have e2 : (if stateD n (.int i) = true then some (Sum.inl i) else none : Option L2.Key) = some k := e
    split at e2
    · rw [← Option.some.inj e2]
      rfl
    · cases e2
  | _ => cases e
theorem seq_of {K : PySem.W.Frag} {H : Hp} {x : V} {d : PyData} (h : Da K H x d) (e : seqD d = true) : ∃ a xs ds, x = .ref a ∧ ((SqL K H a xs ∧ d = .list ds) ∨ (SqT K H a xs ∧ d = .tuple ds)) ∧ Das K H xs ds := by
  cases h with
  | lst h r => exact ⟨_, _, _, rfl, .inl ⟨h, rfl⟩, r⟩
  | tup h r => exact ⟨_, _, _, rfl, .inr ⟨h, rfl⟩, r⟩
  | _ => cases e
theorem das_at {K : PySem.W.Frag} {H : Hp} : ∀ {vs : List V} {ds : List PyData} {i : Nat} {d : PyData}, Das K H vs ds → ds[i]? = some d → ∃ v, vs[i]? = some v ∧ Da K H v d
  | _, _, _, _, .nil, e => by simp at e
  | _, _, 0, _, .cons a b, e => by
    simp at e
    subst e
    exact ⟨_, rfl, a⟩
  | _, _, i + 1, _, .cons a b, e => by
    obtain ⟨v, h1, h2⟩ := das_at (i := i) b (by simpa using e)
    exact ⟨v, by simpa using h1, h2⟩
theorem ok_seq {d : PyData} {ds : List PyData} (ok : okD d = true) (h : d = .list ds ∨ d = .tuple ds) : ds.length ≤ 100 ∧ okAll ds = true := by
  rcases h with rfl | rfl
  · exact okLst ok
  · exact okTup ok
/-- what is wrong of the starts: none, something without a place, the place -/
def startsL (n : Int) : List PyData → Option (Option Nat)
  | [] => some none
  | d :: ds => (fwk [] ((d :: ds).map (keyI n)) 0).map some
def startsD (n : Int) : PyData → Option (Option Nat)
  | .list ds => startsL n ds
  | .tuple ds => startsL n ds
  | _ => some none
/-- a def that looks at data beside the number of states, and raises C with the place -/
def Looks (C : Addr) (H : Hp) (Q : VK) (E : XK) (r : Option (Option Nat)) : Prop :=
  (r = none → ∀ H', Same H H' → Q .non H') ∧ ∀ o, r = some o → ∀ dd H', Same H H' → H' dd = some (.xd [("position", posV o)]) → E (.ref C) (some dd) H'
def spStarts (K : PySem.W.Frag) : Sp := fun vs H Q E => ∃ n x d, vs = [.int n, x] ∧ Da K H x d ∧ okD d = true ∧ Looks (ga K "InvalidStarts") H Q E (startsD n d)
section
variable {P : Program} {w : World} {K : PySem.W.Frag} {mg : Str → Option Value} {base : Heap}
theorem co_check_starts (F : At K mg "check_starts" s_check_starts) (T : BI mg) (ES : ErrSet P w K mg base) (c_is_list : Co P w K mg base CX0 1 "is_list" ["value"] (spP K seqD)) (c_is_state : Co P w K mg base CX0 2 "is_state" ["states", "value"] (spS K stateD))
    (c_first_wrong : Co P w K mg base CX0 1 "first_wrong" ["values", "right"] (spFW K)) : Co P w K mg base (L2.CX P w) 3 "check_starts" ["states", "starts"] (spStarts K) := by
  refine co_mkX F sc_check_starts (fun vs H Q E h => ?_) (fun _ _ _ _ _ _ us hl => match us, hl with | [_, _], _ => rfl) (fun f cdv A outer s H vs Q E hr h => ?_)
  · obtain ⟨n, x, d, rfl, _⟩ := h
    rfl
  · obtain ⟨n, x, d, rfl, hd, ok, k1, k2⟩ := h
    refine ⟨_, (pss_cons (ps_if (PW.pt (pw_or (pt_not (pt_val (pe_co c_is_list (hr.mono (by decide)) (by rfl) (pa_cons (pv 1) pa_nil)))) (pw_or1 (pt_cmpR op_eq (pe_callB call_len_seq (by rfl) T.len PySem.boot_len (pa_cons (pv 1) pa_nil)) pe_int (nomark _))))) (pss_one (ps_rx ES.InvalidStarts (hr.mono (by decide)) rfl (takes_of rfl rfl rfl rfl) (by rfl) (pa_cons pe_non pa_nil))) pss_nil)
  (pss_cons (ps_set (i := 2) sc_check_starts.nd rfl (Or.inl rfl) (pe_co c_first_wrong (hr.mono (by decide)) (by rfl) (pa_cons (pv 1) (pa_cons (pe_lc (own := [("start", 3)]) (g := gName 3) (tt := tYes) (by rfl) sc_check_starts.nd (pi_seqK (K := K) rfl (pv 1)) (blkOk_by (own := [("start", 3)]) (N := ["states", "starts", "position", "start"]) (sc := defScope s_check_starts) (by decide +kernel)) (fun _ _ _ _ _ => pg_name (i := 3) sc_check_starts.nd rfl (Or.inl rfl)) (fun _ _ _ _ _ => pts_nil) (fun _ _ _ _ _ => (pe_co c_is_state (hr.mono (by decide)) (by rfl) (pa_cons (pv 0) (pa_cons (pv 3) pa_nil))))) pa_nil))))
  (pss_one (ps_if (pt_cmpR op_notN (pv 2) pe_non (nomark _)) (pss_one (ps_rx ES.InvalidStarts (hr.mono (by decide)) rfl (takes_of rfl rfl rfl rfl) (by rfl) (pa_cons (pv 2) pa_nil))) pss_nil)))), ?_⟩
    have bad : ∀ o H1, startsD n d = some o → Same H H1 → ∀ dd, H1 dd = none → E (.ref (ga K "InvalidStarts")) (some dd) (upd H1 dd (.xd [("position", posV o)])) := fun o H1 eo s1 dd nd => k2 o eo dd _ (s1.trans (same_new nd)) upd_same
    refine ⟨_, rfl, x, d, rfl, hd, ok, fun H1 s1 => ⟨_, rfl, ?_⟩⟩
    cases e : seqD d with
    | false =>
      have eo : startsD n d = some none := by cases d <;> first | rfl | cases e
      exact iteT (iteT ⟨_, rfl, fun dd nd => bad none H1 eo s1 dd nd⟩)
    | true =>
      obtain ⟨a, xs, ds, rfl, hs, das⟩ := seq_of hd e
      have ed : d = .list ds ∨ d = .tuple ds := hs.imp And.right And.right
      have es : startsD n d = startsL n ds := by rcases ed with rfl | rfl <;> rfl
      have hs1 : SqL K H1 a xs ∨ SqT K H1 a xs := hs.imp (fun h => s1.seq h.1) fun h => Vx.seqT s1 h.1
      refine iteF ⟨_, rfl, a, xs, rfl, hs1, rfl, _, rfl, ?_⟩
      rw [dec_int]
      cases das with
      | nil => exact iteT ⟨_, rfl, fun dd nd => bad none H1 es s1 dd nd⟩
      | @cons x1 xs d1 ds r1 rs =>
      rw [show ((((x1 :: xs).length : Nat) : Int) == 0) = false by rw [beq_eq_false_iff_ne, List.length_cons]; omega]
      refine iteF ⟨_, rfl, da_lcS (K := K) (stateD n) (fun R q => ⟨_, rfl, q⟩) (hd.mono s1) ok e (fun v d H1 R hv hok q => ⟨_, rfl, _, rfl, n, v, d, rfl, hv, hok, q⟩) (fun _ => by rfl) fun D H2 ds2 n2 s2 ed2 e2 => ?_⟩
      have ee : ds2 = d1 :: ds := by
        rcases ed with rfl | rfl <;> rcases ed2 with ed2 | ed2 <;> first | cases ed2; rfl | cases ed2
      subst ee
      have s12 := s1.trans s2
      refine ⟨a, D, x1 :: xs, rfl, hs1.imp (fun h => s2.seq h) (fun h => Vx.seqT s2 h), ?_, .inl ⟨(d1 :: ds).map (keyI n), ?_, ?_, fun i k hk => ?_, fun H3 s3 => ?_⟩⟩
      · have q := (ok_seq ok ed).1
        rw [Das.len (.cons r1 rs)]
        omega
      · refine SqL.of (e2.trans ?_)
        rw [List.map_map, List.map_map]
        refine congrArg (fun z => some (HO.lst z)) (List.map_congr_left fun z _ => ?_)
        show V.bl (stateD n z) = V.bl (keyI n z).isSome
        rw [keyI_some]
      · rw [List.length_map, Das.len (.cons r1 rs)]
      · rw [List.getElem?_map] at hk
        obtain ⟨z, hz, ek⟩ := Option.map_eq_some_iff.mp hk
        obtain ⟨v, hv, hda⟩ := das_at (Das.cons r1 rs) hz
        rw [hv, keyI_at hda ek]
      · have s13 := s12.trans s3
        have es2 : startsD n d = (fwk [] ((d1 :: ds).map (keyI n)) 0).map some := es
        refine ⟨_, rfl, rfl, _, rfl, ?_⟩
        cases ef : fwk [] ((d1 :: ds).map (keyI n)) 0 with
        | none =>
          rw [ef] at es2
          exact iteF (k1 es2 H3 s13)
        | some i =>
          rw [ef] at es2
          exact iteT ⟨_, rfl, _, rfl, fun dd nd => bad (some i) H3 es2 s13 dd nd⟩
end
end K11
/-! ## K11s -/
set_option Elab.async false
set_option linter.all false
set_option maxRecDepth 100000
set_option maxHeartbeats 4000000
namespace K11
open PySem PySem.Spec PyProof.Rows L2 He Vx

/-- what the text must have of Box -/
structure BoxC (P : Program) (w : World) (K : PySem.W.Frag) (mg : Str → Option Value) (base : Heap) (C : Addr) : Prop where
  hm : mg "Box" = some (.ref C)
  ex : ∃ (mc : Value) (q g : Addr) (fd : FuncData), ClX.CRead K C mc ∧ CSta K C mc "is_step" q g ∧ FnOk P w K mg base CX0 3 g fd ["states", "value"] (spS K stepD) ∧ Binds K fd ["states", "value"] [] ∧
    (∃ u, ClX.CVal K C mc "MOST_STATES" (.int 6) u) ∧ ∃ u, ClX.CVal K C mc "MOST_STEPS" (.int 24) u
  cls : Cls K C
  n1 : NoAttr K C "_states"
  n2 : NoAttr K C "_starts"
  n3 : NoAttr K C "_steps"
def keyM (n : Int) : PyData → Option (List L2.Key)
  | .tuple [.int s, .str c, .str a, .int t] => if stepL n [.int s, .str c, .str a, .int t] = true then some [.inl s, .inr c, .inr a, .inl t] else none
  | _ => none
theorem state_int {n : Int} {d : PyData} (h : stateD n d = true) : ∃ i, d = .int i := by
  cases d with
  | int i => exact ⟨i, rfl⟩
  | _ => cases h
theorem name_str {d : PyData} (h : nameD d = true) : ∃ z, d = .str z := by
  cases d with
  | str z => exact ⟨z, rfl⟩
  | _ => cases h
theorem step_shape {n : Int} {d : PyData} (h : stepD n d = true) : ∃ s c a t, d = .tuple [.int s, .str c, .str a, .int t] := by
  cases d with
  | tuple ds =>
    have h : stepL n ds = true := h
    by_cases l : ds.length = 4
    · obtain ⟨d1, d2, d3, d4, rfl⟩ := four_of l
      have h : (stateD n d1 && (nameD d2 && (nameD d3 && stateD n d4))) = true := h
      obtain ⟨h1, h⟩ := ba h
      obtain ⟨h2, h⟩ := ba h
      obtain ⟨h3, h4⟩ := ba h
      obtain ⟨s, rfl⟩ := state_int h1
      obtain ⟨c, rfl⟩ := name_str h2
      obtain ⟨a, rfl⟩ := name_str h3
      obtain ⟨t, rfl⟩ := state_int h4
      exact ⟨s, c, a, t, rfl⟩
    · rw [stepL_len l] at h
      cases h
  | _ => cases h
theorem keyM_some (n : Int) (d : PyData) : (keyM n d).isSome = stepD n d := by
  cases e : stepD n d with
  | true =>
    obtain ⟨s, c, a, t, rfl⟩ := step_shape e
    have e : stepL n [.int s, .str c, .str a, .int t] = true := e
    show (if stepL n [.int s, .str c, .str a, .int t] = true then some _ else none : Option (List L2.Key)).isSome = true
    rw [if_pos e]
    rfl
  | false =>
    unfold keyM
    split
    · rename_i s c a t
      have e : stepL n [.int s, .str c, .str a, .int t] = false := e
      rw [if_neg (by rw [e]; exact Bool.false_ne_true)]
      rfl
    · rfl
theorem keyM_shape {n : Int} {d : PyData} {k : List L2.Key} (e : keyM n d = some k) : ∃ s c a t, d = .tuple [.int s, .str c, .str a, .int t] ∧ k = [.inl s, .inr c, .inr a, .inl t] := by
  have h : stepD n d = true := by rw [← keyM_some, e]; rfl
  obtain ⟨s, c, a, t, rfl⟩ := step_shape h
  refine ⟨s, c, a, t, rfl, ?_⟩
  have e : (if stepL n [.int s, .str c, .str a, .int t] = true then some [.inl s, .inr c, .inr a, .inl t] else none : Option (List L2.Key)) = some k := e
  split at e
  · exact (Option.some.inj e).symm
  · cases e
/-- what is wrong of the steps -/
def stepsD (n : Int) : PyData → Option (Option Nat)
  | .list ds => (fwk [] (ds.map (keyM n)) 0).map some
  | .tuple ds => (fwk [] (ds.map (keyM n)) 0).map some
  | _ => some none
/-- the tuples of a list or tuple stand as they are -/
def Tups (K : PySem.W.Frag) (H : Hp) (x : V) (d : PyData) : Prop := seqD d = true → ∃ a xs ds, x = .ref a ∧ ((SqL K H a xs ∧ d = .list ds) ∨ (SqT K H a xs ∧ d = .tuple ds)) ∧ Das K H xs ds ∧
  ∀ (i : Nat) (s t : Int) (c z : Str), ds[i]? = some (.tuple [.int s, .str c, .str z, .int t]) → ∃ b : Addr, xs[i]? = some (V.ref b) ∧ H b = some (.tup [.int s, .str c, .str z, .int t])
theorem Tups.mono {K : PySem.W.Frag} {H H' : Hp} {x : V} {d : PyData} (h : Tups K H x d) (s : Same H H') : Tups K H' x d := fun e => by
  obtain ⟨a, xs, ds, h1, h2, h3, h4⟩ := h e
  refine ⟨a, xs, ds, h1, h2.imp (fun z => ⟨s.seq z.1, z.2⟩) (fun z => ⟨Vx.seqT s z.1, z.2⟩), h3.mono s, fun i sa t c z q => ?_⟩
  obtain ⟨b, e1, e2⟩ := h4 i sa t c z q
  exact ⟨b, e1, s _ _ e2⟩
def spSteps (K : PySem.W.Frag) : Sp := fun vs H Q E => ∃ n x d, vs = [.int n, x] ∧ Da K H x d ∧ Tups K H x d ∧ okD d = true ∧ Looks (ga K "InvalidSteps") H Q E (stepsD n d)
section
variable {P : Program} {w : World} {K : PySem.W.Frag} {mg : Str → Option Value} {base : Heap}
theorem co_check_steps {C : Addr} (F : At K mg "check_steps" s_check_steps) (T : BI mg) (ES : ErrSet P w K mg base) (CB : BoxC P w K mg base C) (c_is_list : Co P w K mg base CX0 1 "is_list" ["value"] (spP K seqD))
    (c_first_wrong : Co P w K mg base CX0 1 "first_wrong" ["values", "right"] (spFW K)) : Co P w K mg base (L2.CX P w) 4 "check_steps" ["states", "steps"] (spSteps K) := by
  obtain ⟨mc, qq, gg, fdS, rd, sta, ok_, bs, _⟩ := CB.ex
  refine co_mkX F sc_check_steps (fun vs H Q E h => ?_) (fun _ _ _ _ _ _ us hl => match us, hl with | [_, _], _ => rfl) (fun f cdv A outer s H vs Q E hr h => ?_)
  · obtain ⟨n, x, d, rfl, _⟩ := h
    rfl
  · obtain ⟨n, x, d, rfl, hd, hT, ok, k1, k2⟩ := h
    refine ⟨_, (pss_cons (ps_if (pt_not (pt_val (pe_co c_is_list (hr.mono (by decide)) (by rfl) (pa_cons (pv 1) pa_nil)))) (pss_one (ps_rx ES.InvalidSteps (hr.mono (by decide)) rfl (takes_of rfl rfl rfl rfl) (by rfl) (pa_cons pe_non pa_nil))) pss_nil)
  (pss_cons (ps_set (i := 2) sc_check_steps.nd rfl (Or.inl rfl) (pe_co c_first_wrong (hr.mono (by decide)) (by rfl) (pa_cons (pv 1) (pa_cons (pe_lc (own := [("step", 3)]) (g := gName 3) (tt := tYes) (by rfl) sc_check_steps.nd (pi_seqK (K := K) rfl (pv 1)) (blkOk_by (own := [("step", 3)]) (N := ["states", "steps", "position", "step"]) (sc := defScope s_check_steps) (by decide +kernel)) (fun _ _ _ _ _ => pg_name (i := 3) sc_check_steps.nd rfl (Or.inl rfl)) (fun _ _ _ _ _ => pts_nil) (fun _ _ _ _ _ => (pe_sta (pe_glob (v := .ref _) (by rfl) CB.hm rfl) rd sta ok_ bs pass0 (hr.mono (by decide)) (pa_cons (pv 0) (pa_cons (pv 3) pa_nil))))) pa_nil))))
  (pss_one (ps_if (pt_cmpR op_notN (pv 2) pe_non (nomark _)) (pss_one (ps_rx ES.InvalidSteps (hr.mono (by decide)) rfl (takes_of rfl rfl rfl rfl) (by rfl) (pa_cons (pv 2) pa_nil))) pss_nil)))), ?_⟩
    have bad : ∀ o H1, stepsD n d = some o → Same H H1 → ∀ dd, H1 dd = none → E (.ref (ga K "InvalidSteps")) (some dd) (upd H1 dd (.xd [("position", posV o)])) := fun o H1 eo s1 dd nd => k2 o eo dd _ (s1.trans (same_new nd)) upd_same
    refine ⟨_, rfl, x, d, rfl, hd, ok, fun H1 s1 => ⟨_, rfl, ?_⟩⟩
    cases e : seqD d with
    | false =>
      have eo : stepsD n d = some none := by cases d <;> first | rfl | cases e
      exact iteT ⟨_, rfl, fun dd nd => bad none H1 eo s1 dd nd⟩
    | true =>
      obtain ⟨a, xs, ds, rfl, hs, das, tp⟩ := hT e
      have ed : d = .list ds ∨ d = .tuple ds := hs.imp And.right And.right
      have es : stepsD n d = (fwk [] (ds.map (keyM n)) 0).map some := by rcases ed with rfl | rfl <;> rfl
      have hs1 : SqL K H1 a xs ∨ SqT K H1 a xs := hs.imp (fun h => s1.seq h.1) fun h => Vx.seqT s1 h.1
      refine iteF ⟨_, rfl, da_lcS (K := K) (stepD n) (fun R q => ⟨_, rfl, q⟩) (hd.mono s1) ok e (fun v d H1 R hv hok q => ⟨rfl, _, rfl, _, rfl, n, v, d, rfl, hv, hok, q⟩) (fun _ => by rfl) fun D H2 ds2 n2 s2 ed2 e2 => ?_⟩
      have ee : ds2 = ds := by
        rcases ed with rfl | rfl <;> rcases ed2 with ed2 | ed2 <;> first | cases ed2; rfl | cases ed2
      subst ee
      have s12 := s1.trans s2
      refine ⟨a, D, xs, rfl, hs1.imp (fun h => s2.seq h) (fun h => Vx.seqT s2 h), ?_, .inr ⟨ds2.map (keyM n), ?_, ?_, fun i k hk => ?_, fun H3 s3 => ?_⟩⟩
      · have q := (ok_seq ok ed).1
        rw [das.len]
        omega
      · refine SqL.of (e2.trans ?_)
        rw [List.map_map, List.map_map]
        refine congrArg (fun z => some (HO.lst z)) (List.map_congr_left fun z _ => ?_)
        show V.bl (stepD n z) = V.bl (keyM n z).isSome
        rw [keyM_some]
      · rw [List.length_map, das.len]
      · rw [List.getElem?_map] at hk
        obtain ⟨z, hz, ek⟩ := Option.map_eq_some_iff.mp hk
        obtain ⟨sa, c, an, t, rfl, rfl⟩ := keyM_shape ek
        obtain ⟨b, e3, e4⟩ := tp i sa t c an hz
        exact ⟨b, e3, s12 _ _ e4⟩
      · have s13 := s12.trans s3
        refine ⟨_, rfl, rfl, _, rfl, ?_⟩
        cases ef : fwk [] (ds2.map (keyM n)) 0 with
        | none =>
          rw [ef] at es
          exact iteF (k1 es H3 s13)
        | some i =>
          rw [ef] at es
          exact iteT ⟨_, rfl, _, rfl, fun dd nd => bad (some i) H3 es s13 dd nd⟩
end
end K11
/-! ## G29 -/
set_option Elab.async false
set_option linter.all false
set_option maxRecDepth 100000
set_option maxHeartbeats 4000000
namespace Vx
open PySem PySem.Spec PyProof.Rows PySem.Calls L2 He
/-! ### sorted of a list or a tuple of data -/
def rSortS (K : PySem.W.Frag) : List V → Hp → VK → Prop := fun vs H Q => ∃ (a : Addr) (β : Type) (bs : List β) (enc : β → PyData) (val : β → V), vs = [V.ref a] ∧ (SqL K H a (bs.map val) ∨ SqT K H a (bs.map val)) ∧ (∀ b ∈ bs, Da K H (val b) (enc b)) ∧
  PySem.W.AllAlike (bs.map enc) ∧ PySem.W.Sortable (bs.map enc) ∧ (∀ b ∈ bs, (enc b).depth ≤ 20) ∧ ∀ p, H p = none → Q (.ref p) (upd H p (.lst ((bs.mergeSort (PySem.W.dataLe false enc)).map val)))
theorem cr_sortS {X : Cx} (hu : X.A.units + 64 < cLine) : CallR X (.builtin "sorted") (rSortS X.K) := by
  intro pins s σ H vs us Q I r h
  obtain ⟨a, β, bs, enc, val, rfl, sq, good, al, srt, dep, q⟩ := h
  rcases sq with sq | sq
  · exact cr_sortB hu pins s σ H _ us Q I r ⟨a, β, bs, enc, val, rfl, sq, good, al, srt, dep, q⟩
  obtain ⟨u, rfl, ru⟩ := vals1 r
  obtain rfl : u = Value.ref a := ru
  obtain ⟨its, rel, ⟨o, at_, cl, n, dt⟩, small⟩ := I.tuple sq
  rw [List.length_map] at small
  have count : its.length = bs.length := by rw [← rel.length, List.length_map]
  refine call_function_entry kind_sorted plain_sorted entry_sorted (args_sorted1 _) ?_
  unfold Builtin.«sorted»
  refine wpAny_bind (m := checkCount "sorted" 1 1 _) (wpAny_pure ?_)
  refine wpAny_bind (wpAny_collect_seq a (.inr rfl) at_ cl dt (fun h1 old => ?_) (by rw [List.size_toArray, count]; exact small))
  have same : its.toArray.toList = its := by simp
  rw [same]
  refine wpAny_bind (wpAny_newList ?_ (by rw [count]; exact small))
  have old2 : ∀ b ob, s.heap.get? b = some ob → (h1.push (seqObj "list" its.toArray 0)).get? b = some ob := fun b ob z => Heap.get?_push_of_some _ (old b ob z)
  have I1 : Inv X pins σ H { s with heap := h1 } := I.kept (t' := s.toks) old
  have new : (h1.push (seqObj "list" its.toArray 0)).get? h1.objs.size = some (seqObj "list" its.toArray 0) := Heap.get?_push_size _ rfl
  have reads : ∀ {bs : List β} {us : List Value}, (∀ b ∈ bs, Da X.K H (val b) (enc b)) → Vals (bs.map val) us → PySem.W.EachIs (fun v b => ∃ as, Reads (h1.push (seqObj "list" its.toArray 0)) v (enc b) as ∧ h1.objs.size ∉ as) us bs := by
    intro bs
    induction bs with
    | nil =>
      intro us _ rv
      cases rv
      exact .nil
    | cons b bs ih =>
      intro us hb rv
      cases rv with
      | cons r1 r2 =>
        obtain ⟨as, rd⟩ := Da.reads I (hb b (List.mem_cons_self ..)) r1
        refine .cons ⟨as, PyProof.Rows.Reads.keeps old2 rd, fun bad => ?_⟩ (ih (fun c hc => hb c (List.mem_cons_of_mem _ hc)) r2)
        obtain ⟨ob, z⟩ := PyProof.On.reads_mem_get (PyProof.Rows.Reads.keeps old rd) _ bad
        exact Nat.lt_irrefl _ (Heap.lt_size z)
  refine wpAny_bind (wpAny_holding ?_)
  refine PySem.W.list_sort_data (R := fun v b => RelV (val b) v) (vs := its) (bs := bs) (enc := enc) (n := 0) new (each_vals rel) (reads good rel) al srt small (fun b hb => ?_) fun out len each => ?_
  · have z := dep b hb
    show X.A.in1.units + 1 + (enc b).depth < cLine
    show X.A.units + 1 + 1 + (enc b).depth < cLine
    omega
  · obtain ⟨ep, fin⟩ := PyProof.Rows.sortedHeap_at (vs := its) (out := out.toArray) new
    refine wpAny_pure ⟨_, rfl, .ref h1.objs.size, upd H h1.objs.size (.lst ((bs.mergeSort (PySem.W.dataLe false enc)).map val)), I1.laid (t' := s.toks) (fun b ob z => ?_) (Nat.le_refl _) ⟨?_, out, ep, vals_each each, fin⟩, rfl, q _ (I1.hok.fresh (Nat.le_refl _))⟩
    · have y : (h1.push (seqObj "list" its.toArray 0)).get? b = some ob := Heap.get?_push_of_some _ z
      exact (PyProof.Rows.sortedHeap_old (Nat.ne_of_lt (Heap.lt_size z)) (Heap.lt_size y)).trans y
    · rw [List.length_map, (List.mergeSort_perm _ _).length_eq]
      exact small
end Vx
/-! ## K11t -/
set_option Elab.async false
set_option linter.all false
set_option maxRecDepth 100000
set_option maxHeartbeats 4000000
namespace K11
open PySem PySem.Spec PyProof.Rows L2 He Vx

/-- a number of states that is one -/
def manyD : PyData → Option Int
  | .int i => if 1 ≤ i then some i else none
  | _ => none
def lenD : PyData → Nat
  | .list ds => ds.length
  | .tuple ds => ds.length
  | _ => 0
/-- what an instance's making leaves: all but the instance -/
def But (o : Addr) (H H' : Hp) : Prop := ∀ a u, a ≠ o → H a = some u → H' a = some u
def spBox (K : PySem.W.Frag) : Sp := fun vs H Q E => ∃ (o C dx : Addr) (x y z : V) (d e f : PyData), vs = [.ref o, x, y, z] ∧ C = ga K "Box" ∧ H o = some (.ins C dx []) ∧ Da K H x d ∧ Da K H y e ∧ Da K H z f ∧ Tups K H z f ∧ okD d = true ∧ okD e = true ∧ okD f = true ∧
  ((manyD d = none ∧ ∀ dd H', Same H H' → H' dd = some (.xd [("value", x)]) → E (.ref (ga K "InvalidStates")) (some dd) H') ∨
   ∃ n, manyD d = some n ∧ ((∃ r, startsD n e = some r ∧ ∀ dd H', Same H H' → H' dd = some (.xd [("position", posV r)]) → E (.ref (ga K "InvalidStarts")) (some dd) H') ∨
     (startsD n e = none ∧ ((∃ r, stepsD n f = some r ∧ ∀ dd H', Same H H' → H' dd = some (.xd [("position", posV r)]) → E (.ref (ga K "InvalidSteps")) (some dd) H') ∨
      (stepsD n f = none ∧ n ≤ 6 ∧ lenD f ≤ 24 ∧ ∀ H', But o H H' → Q .non H')))))
theorem but_of {o : Addr} {H H' : Hp} (s : Same H H') : But o H H' := fun a u _ e => s a u e
theorem but_same {o : Addr} {H H1 H2 : Hp} (b : But o H H1) (s : Same H1 H2) : But o H H2 := fun a u n e => s a u (b a u n e)
theorem putF_len (f : Str) (v : V) : ∀ fs : List (Str × V), (putF f v fs).length ≤ fs.length + 1
  | [] => Nat.le_refl _
  | (g, x) :: r => by
    unfold putF
    split
    · exact Nat.le_succ _
    · rw [List.length_cons, List.length_cons]
      exact Nat.succ_le_succ (putF_len f v r)
/-- sorted of a list or a tuple, as its items read in another heap -/
theorem sort_step {K : PySem.W.Frag} {H : Hp} {a : Addr} {xs : List V} {ds : List PyData} {Q : VK} (hs : SqL K H a xs ∨ SqT K H a xs) (hl : xs.length = ds.length) (hd : ∀ q ∈ xs.zip ds, Da K H q.1 q.2) (al : PySem.W.AllAlike ds) (sb : PySem.W.Sortable ds) (dp : ∀ d ∈ ds, d.depth ≤ 20)
    (q : ∀ ys p, H p = none → Q (.ref p) (upd H p (.lst ys))) : rSortS K [.ref a] H Q := by
  have e1 : (xs.zip ds).map Prod.fst = xs := List.map_fst_zip (Nat.le_of_eq hl)
  have e2 : (xs.zip ds).map Prod.snd = ds := List.map_snd_zip (Nat.le_of_eq hl.symm)
  refine ⟨a, V × PyData, xs.zip ds, Prod.snd, Prod.fst, rfl, by rw [e1]; exact hs, hd, by rw [e2]; exact al, by rw [e2]; exact sb, fun b hb => dp _ ?_, fun p hp => q _ p hp⟩
  rw [← e2]
  exact List.mem_map_of_mem hb
theorem seq_but {K : PySem.W.Frag} {H H' : Hp} {o a C dx : Addr} {fs : List (Str × V)} {xs : List V} (ho : H o = some (.ins C dx fs)) (b : But o H H') (h : SqL K H a xs ∨ SqT K H a xs) : SqL K H' a xs ∨ SqT K H' a xs := by
  have ne : ∀ u, H a = some u → (∀ C dx fs, u ≠ .ins C dx fs) → a ≠ o := fun u e n z => by
    rw [z, ho] at e
    exact n _ _ _ (Option.some.inj e).symm
  rcases h with ((h | ⟨u, h⟩) | h) | ((h | ⟨u, h⟩) | h)
  · exact .inl (.inl (.inl (b _ _ (ne _ h fun _ _ _ z => by cases z) h)))
  · exact .inl (.inl (.inr ⟨u, b _ _ (ne _ h fun _ _ _ z => by cases z) h⟩))
  · exact .inl (.inr h)
  · exact .inr (.inl (.inl (b _ _ (ne _ h fun _ _ _ z => by cases z) h)))
  · exact .inr (.inl (.inr ⟨u, b _ _ (ne _ h fun _ _ _ z => by cases z) h⟩))
  · exact .inr (.inr h)
theorem fwk_right {κ : Type} [DecidableEq κ] : ∀ {ks : List (Option κ)} {seen : List κ} {i : Nat}, fwk seen ks i = none → ∀ k ∈ ks, k.isSome = true
  | [], _, _, _, k, hk => nomatch hk
  | none :: _, _, _, e, _, _ => by
    rw [fwk] at e
    cases e
  | some z :: r, seen, i, e, k, hk => by
    rw [fwk] at e
    split at e
    · cases e
    · rcases List.mem_cons.mp hk with rfl | hk
      · rfl
      · exact fwk_right e k hk
theorem zip_at {α β : Type} {as : List α} {bs : List β} {q : α × β} (h : q ∈ as.zip bs) : ∃ i : Nat, as[i]? = some q.1 ∧ bs[i]? = some q.2 := by
  obtain ⟨i, hi⟩ := List.getElem?_of_mem h
  rw [List.getElem?_zip_eq_some] at hi
  exact ⟨i, hi⟩
/-- right starts are ints -/
theorem starts_ok {n : Int} {e : PyData} (h : startsD n e = none) : ∃ ds, (e = .list ds ∨ e = .tuple ds) ∧ ∀ d ∈ ds, stateD n d = true := by
  have go : ∀ ds, startsL n ds = none → ∀ d ∈ ds, stateD n d = true := fun ds h d hd => by
    cases ds with
    | nil => cases h
    | cons a as =>
      have h2 : (fwk [] ((a :: as).map (keyI n)) 0).map some = none := h
      rw [Option.map_eq_none_iff] at h2
      rw [← keyI_some]
      exact fwk_right h2 _ (List.mem_map_of_mem hd)
  cases e with
  | list ds => exact ⟨ds, .inl rfl, go ds h⟩
  | tuple ds => exact ⟨ds, .inr rfl, go ds h⟩
  | _ => cases h
theorem steps_ok {n : Int} {e : PyData} (h : stepsD n e = none) : ∃ ds, (e = .list ds ∨ e = .tuple ds) ∧ ∀ d ∈ ds, stepD n d = true := by
  have go : ∀ ds : List PyData, (fwk [] (ds.map (keyM n)) 0).map some = none → ∀ d ∈ ds, stepD n d = true := fun ds h d hd => by
    rw [Option.map_eq_none_iff] at h
    rw [← keyM_some]
    exact fwk_right h _ (List.mem_map_of_mem hd)
  cases e with
  | list ds => exact ⟨ds, .inl rfl, go ds h⟩
  | tuple ds => exact ⟨ds, .inr rfl, go ds h⟩
  | _ => cases h
theorem many_some {d : PyData} {n : Int} (h : manyD d = some n) : d = .int n ∧ 1 ≤ n := by
  cases d with
  | int i =>
    have h : (if 1 ≤ i then some i else none) = some n := h
    split at h
    · cases h
      exact ⟨rfl, by assumption⟩
    · cases h
  | _ => cases h
/-- the parts of a box, judged -/
def spParts (K : PySem.W.Frag) : Sp := fun vs H Q E => ∃ (x y z : V) (d e f : PyData), vs = [x, y, z] ∧ Da K H x d ∧ Da K H y e ∧ Da K H z f ∧ Tups K H z f ∧ okD d = true ∧ okD e = true ∧ okD f = true ∧
  ((manyD d = none ∧ ∀ dd H', Same H H' → H' dd = some (.xd [("value", x)]) → E (.ref (ga K "InvalidStates")) (some dd) H') ∨
   ∃ n, manyD d = some n ∧ ((∃ r, startsD n e = some r ∧ ∀ dd H', Same H H' → H' dd = some (.xd [("position", posV r)]) → E (.ref (ga K "InvalidStarts")) (some dd) H') ∨
     (startsD n e = none ∧ ((∃ r, stepsD n f = some r ∧ ∀ dd H', Same H H' → H' dd = some (.xd [("position", posV r)]) → E (.ref (ga K "InvalidSteps")) (some dd) H') ∨
      (stepsD n f = none ∧ ∀ H', Same H H' → Q .non H')))))
def spLimits (K : PySem.W.Frag) : Sp := fun vs H Q _ => ∃ (n : Int) (a : Addr) (xs : List V), vs = [.int n, .ref a] ∧ n ≤ 6 ∧ (SqL K H a xs ∨ SqT K H a xs) ∧ xs.length ≤ 24 ∧ Q .non H
section
variable {P : Program} {w : World} {K : PySem.W.Frag} {mg : Str → Option Value} {base : Heap}
theorem co_check_parts (F : At K mg "check_parts" s_check_parts) (T : BI mg) (ES : ErrSet P w K mg base) (c_is_integer : Co P w K mg base CX0 1 "is_integer" ["value"] (spP K numD))
    (c_check_starts : Co P w K mg base (L2.CX P w) 3 "check_starts" ["states", "starts"] (spStarts K)) (c_check_steps : Co P w K mg base (L2.CX P w) 4 "check_steps" ["states", "steps"] (spSteps K)) :
    Co P w K mg base (L2.CX P w) 5 "check_parts" ["states", "starts", "steps"] (spParts K) := by
  refine co_mkX F sc_check_parts (fun vs H Q E h => ?_) (fun _ _ _ _ _ _ us hl => match us, hl with | [_, _, _], _ => rfl) (fun f cdv A outer s H vs Q E hr h => ?_)
  · obtain ⟨x, y, z, d, e, g, rfl, _⟩ := h
    rfl
  · obtain ⟨x, y, z, d, e, g, rfl, hd, he, hg, hT, okd, oke, okg, h⟩ := h
    refine ⟨_, (pss_cons (ps_if (PW.pt (pw_or (pt_not (pt_val (pe_co c_is_integer (hr.mono (by decide)) (by rfl) (pa_cons (pv 0) pa_nil)))) (pw_or1 (pt_cmpR op_lt (pv 0) pe_int (nomark _))))) (pss_one (ps_rx ES.InvalidStates (hr.mono (by decide)) rfl (takes_of rfl rfl rfl rfl) (by rfl) (pa_cons (pv 0) pa_nil))) pss_nil)
  (pss_cons (ps_expr (pe_coX c_check_starts (passes_call (takes_of rfl rfl rfl rfl) (fun _ _ _ _ h => h)) (hr.mono (by decide)) (by rfl) (pa_cons (pv 0) (pa_cons (pv 1) pa_nil))))
  (pss_one (ps_expr (pe_coX c_check_steps (passes_call (takes_of rfl rfl rfl rfl) (fun _ _ _ _ h => h)) (hr.mono (by decide)) (by rfl) (pa_cons (pv 0) (pa_cons (pv 2) pa_nil))))))), ?_⟩
    refine ⟨_, rfl, x, d, rfl, hd, okd, fun H1 s1 => ⟨_, rfl, ?_⟩⟩
    rcases h with ⟨hm, k⟩ | ⟨n, hm, h⟩
    · -- no number of states
      have bad : ∀ dd, H1 dd = none → E (.ref (ga K "InvalidStates")) (some dd) (upd H1 dd (.xd [("value", x)])) := fun dd nd => k dd _ (s1.trans (same_new nd)) upd_same
      cases hd with
      | int i =>
        have lt : i < 1 := by
          have hm : (if 1 ≤ i then some i else none) = none := hm
          split at hm
          · cases hm
          · omega
        refine iteF ⟨_, rfl, i, 1, rfl, rfl, _, rfl, ?_⟩
        rw [decide_eq_true lt]
        exact iteT ⟨_, rfl, _, rfl, bad⟩
      | non => exact iteT (iteT ⟨_, rfl, _, rfl, bad⟩)
      | bl _ => exact iteT (iteT ⟨_, rfl, _, rfl, bad⟩)
      | str _ => exact iteT (iteT ⟨_, rfl, _, rfl, bad⟩)
      | lst _ _ => exact iteT (iteT ⟨_, rfl, _, rfl, bad⟩)
      | tup _ _ => exact iteT (iteT ⟨_, rfl, _, rfl, bad⟩)
      | dK _ _ => exact iteT (iteT ⟨_, rfl, _, rfl, bad⟩)
      | dT _ _ => exact iteT (iteT ⟨_, rfl, _, rfl, bad⟩)
    · obtain ⟨rfl, n1⟩ := many_some hm
      cases hd
      refine iteF ⟨_, rfl, n, 1, rfl, rfl, _, rfl, ?_⟩
      rw [decide_eq_false (by omega)]
      refine iteF ⟨_, rfl, _, rfl, n, y, e, rfl, he.mono s1, oke, ?_⟩
      rcases h with ⟨r, hr1, k⟩ | ⟨h1, h⟩
      · exact ⟨fun z => (by rw [hr1] at z; cases z), fun o eo dd H' s' hx => (by rw [hr1] at eo; cases eo; exact k dd H' (s1.trans s') hx)⟩
      refine ⟨fun _ H2 s2 => ?_, fun o eo => (by rw [h1] at eo; cases eo)⟩
      have s12 := s1.trans s2
      refine ⟨_, rfl, _, rfl, n, z, g, rfl, hg.mono s12, hT.mono s12, okg, ?_⟩
      rcases h with ⟨r, hr1, k⟩ | ⟨h2, k⟩
      · exact ⟨fun z => (by rw [hr1] at z; cases z), fun o eo dd H' s' hx => (by rw [hr1] at eo; cases eo; exact k dd H' (s12.trans s') hx)⟩
      exact ⟨fun _ H3 s3 => k H3 (s12.trans s3), fun o eo => (by rw [h2] at eo; cases eo)⟩
theorem co_check_limits (F : At K mg "check_limits" s_check_limits) (T : BI mg) (CB : BoxC P w K mg base (ga K "Box")) : Co P w K mg base CX0 1 "check_limits" ["states", "steps"] (spLimits K) := by
  refine co_mk F sc_check_limits (fun vs H Q E h => ?_) (fun _ _ _ _ _ _ us hl => match us, hl with | [_, _], _ => rfl) (fun f cdv A outer s H vs Q E hr h => ?_)
  · obtain ⟨n, a, xs, rfl, _⟩ := h
    rfl
  · obtain ⟨n, az, zs, rfl, n6, hzs1, lz, k⟩ := h
    obtain ⟨mc, qq, gg, fdS, rd, _, _, _, ⟨u1, v1⟩, ⟨u2, v2⟩⟩ := CB.ex
    refine ⟨_, (pss_cons (ps_if (pt_cmpR op_gt (pv 0) (ClX.pe_cval (pe_glob (v := .ref _) (by rfl) CB.hm rfl)) (nomark _)) (pss_one ps_never) pss_nil)
  (pss_one (ps_if (pt_cmpR op_gt (pe_callB call_len_seq (by rfl) T.len PySem.boot_len (pa_cons (pv 1) pa_nil)) (ClX.pe_cval (pe_glob (v := .ref _) (by rfl) CB.hm rfl)) (nomark _)) (pss_one ps_never) pss_nil))), ?_⟩
    refine ⟨_, rfl, _, mc, _, _, rfl, rd, v1, n, 6, rfl, rfl, _, rfl, ?_⟩
    rw [decide_eq_false (by omega)]
    refine iteF ⟨_, rfl, az, zs, rfl, hzs1, _, mc, _, _, rfl, rd, v2, _, 24, rfl, rfl, _, rfl, ?_⟩
    rw [decide_eq_false (by omega)]
    exact iteF k
theorem ok_init {f : Addr} {fd : FuncData} {dvs : List V} {kws : List (Str × V)} (F : FunD K "__init__" "Box.__init__" (defArgs s_Box___init__) (defBody s_Box___init__) (defScope s_Box___init__) dvs kws f fd) (T : BI mg) (ES : ErrSet P w K mg base) (CB : BoxC P w K mg base (ga K "Box")) 
    (c_check_parts : Co P w K mg base (L2.CX P w) 5 "check_parts" ["states", "starts", "steps"] (spParts K)) (c_check_limits : Co P w K mg base CX0 1 "check_limits" ["states", "steps"] (spLimits K)) :
    FnOk P w K mg base (L2.CX P w) 6 f fd ["self", "states", "starts", "steps"] (spBox K) := by
  refine F.ok sc_Box___init__ (fun vs H Q E h => ?_) (fun cdv A outer s H vs Q E hr h => ?_)
  · obtain ⟨o, C, dx, x, y, z, d, e, g, rfl, _⟩ := h
    rfl
  · obtain ⟨o, C, dx, x, y, z, d, e, g, rfl, rfl, ho, hd, he, hg, hT, okd, oke, okg, h⟩ := h
    refine ⟨_, (pss_cons (ps_expr (pe_coX c_check_parts (passes_call (takes_of rfl rfl rfl rfl) (fun _ _ _ _ h => h)) (hr.mono (by decide)) (by rfl) (pa_cons (pv 1) (pa_cons (pv 2) (pa_cons (pv 3) pa_nil)))))
  (pss_cons (ps_expr (pe_co c_check_limits (hr.mono (by decide)) (by rfl) (pa_cons (pv 1) (pa_cons (pv 3) pa_nil))))
  (pss_cons (ps_fld (pv 0) (pv 1) rfl)
  (pss_cons (ps_fld (pv 0) (pe_callB (cr_sortS hr.units) (by rfl) T.sorted bt_sorted (pa_cons (pv 2) pa_nil)) rfl)
  (pss_one (ps_fld (pv 0) (pe_callB (cr_sortS hr.units) (by rfl) T.sorted bt_sorted (pa_cons (pv 3) pa_nil)) rfl)))))), ?_⟩
    refine ⟨_, rfl, _, rfl, _, rfl, x, y, z, d, e, g, rfl, hd, he, hg, hT, okd, oke, okg, ?_⟩
    rcases h with ⟨hm, k⟩ | ⟨n, hm, h⟩
    · exact .inl ⟨hm, k⟩
    refine .inr ⟨n, hm, ?_⟩
    rcases h with ⟨r, hr1, k⟩ | ⟨h1, h⟩
    · exact .inl ⟨r, hr1, k⟩
    refine .inr ⟨h1, ?_⟩
    rcases h with ⟨r, hr1, k⟩ | ⟨h2, n6, l24, k⟩
    · exact .inl ⟨r, hr1, k⟩
    refine .inr ⟨h2, fun H3 s13 => ?_⟩
    obtain ⟨rfl, n1⟩ := many_some hm
    cases hd
    obtain ⟨es, ee, sok⟩ := starts_ok h1
    obtain ⟨gs, eg, gok⟩ := steps_ok h2
    have sqe : seqD e = true := by rcases ee with rfl | rfl <;> rfl
    have sqg : seqD g = true := by rcases eg with rfl | rfl <;> rfl
    obtain ⟨ay, ys, es', rfl, hys, dys⟩ := seq_of (he.mono s13) sqe
    obtain ⟨az, zs, gs', rfl, hzs, dzs, tzs⟩ := (hT.mono s13) sqg
    have e1 : es' = es := by
      rcases ee with rfl | rfl <;> rcases hys with ⟨_, z⟩ | ⟨_, z⟩ <;> first | cases z; rfl | cases z
    have e2 : gs' = gs := by
      rcases eg with rfl | rfl <;> rcases hzs with ⟨_, z⟩ | ⟨_, z⟩ <;> first | cases z; rfl | cases z
    subst e1 e2
    have hys1 : SqL K H3 ay ys ∨ SqT K H3 ay ys := hys.imp And.left And.left
    have hzs1 : SqL K H3 az zs ∨ SqT K H3 az zs := hzs.imp And.left And.left
    have lz : zs.length ≤ 24 := by
      rw [dzs.len]
      rcases eg with rfl | rfl <;> exact l24
    refine ⟨_, rfl, _, rfl, n, az, zs, rfl, n6, hzs1, lz, ?_⟩
    have ho3 := s13 _ _ ho
    refine ⟨_, rfl, _, rfl, o, _, dx, [], rfl, ho3, CB.cls, CB.n1, by decide, ?_⟩
    have b4 : But o H3 (upd H3 o (.ins (ga K "Box") dx (putF "_states" (.int n) []))) := fun c u ne z => by rw [upd_ne ne]; exact z
    have o4 := upd_same (H := H3) (a := o) (o := .ins (ga K "Box") dx (putF "_states" (.int n) []))
    generalize upd H3 o (.ins (ga K "Box") dx (putF "_states" (.int n) [])) = H4 at b4 o4 ⊢
    refine ⟨_, rfl, ?_⟩
    dsimp only [tNil]
    refine sort_step (seq_but ho3 b4 hys1) dys.len (fun q hq => ?_) (fun d1 m1 d2 m2 => ?_) (.inr fun d1 m1 => ?_) (fun d1 m1 => ?_) fun ys' p hp => ?_
    · obtain ⟨i, i1, i2⟩ := zip_at hq
      obtain ⟨v, hv, da⟩ := das_at dys i2
      obtain ⟨j, ej⟩ := state_int (sok _ (List.mem_of_getElem? i2))
      rw [ej] at da
      have hv2 : q.1 = v := Option.some.inj (i1.symm.trans hv)
      rw [hv2, ej]
      cases da
      exact .int _
    · obtain ⟨j, rfl⟩ := state_int (sok _ m1)
      obtain ⟨j, rfl⟩ := state_int (sok _ m2)
      rfl
    · obtain ⟨j, rfl⟩ := state_int (sok _ m1)
      exact ⟨fun z => (by cases z), fun _ z => (by cases z)⟩
    · obtain ⟨j, rfl⟩ := state_int (sok _ m1)
      exact Nat.zero_le _
    have po : p ≠ o := fun z => by rw [z, o4] at hp; cases hp
    have b5 : But o H3 (upd H4 p (.lst ys')) := but_same b4 (same_new hp)
    have o5 : upd H4 p (.lst ys') o = _ := (upd_ne po.symm).trans o4
    generalize upd H4 p (.lst ys') = H5 at b5 o5 ⊢
    refine ⟨_, rfl, o, _, dx, _, rfl, o5, CB.cls, CB.n2, Nat.lt_of_le_of_lt (putF_len _ _ _) (by decide : 0 + 1 < 1000), ?_⟩
    have b6 : But o H3 (upd H5 o (.ins (ga K "Box") dx (putF "_starts" (.ref p) (putF "_states" (.int n) [])))) := fun c u ne z => by rw [upd_ne ne]; exact b5 c u ne z
    have o6 := upd_same (H := H5) (a := o) (o := .ins (ga K "Box") dx (putF "_starts" (.ref p) (putF "_states" (.int n) [])))
    generalize upd H5 o (.ins (ga K "Box") dx (putF "_starts" (.ref p) (putF "_states" (.int n) []))) = H6 at b6 o6 ⊢
    refine ⟨_, rfl, ?_⟩
    dsimp only [tNil]
    refine sort_step (seq_but ho3 b6 hzs1) dzs.len (fun q hq => ?_) (fun d1 m1 d2 m2 => ?_) (.inl fun d1 m1 => ?_) (fun d1 m1 => ?_) fun zs' p2 hp2 => ?_
    · obtain ⟨i, i1, i2⟩ := zip_at hq
      obtain ⟨sa, c, an, t, ej⟩ := step_shape (gok _ (List.mem_of_getElem? i2))
      rw [ej] at i2
      obtain ⟨b, hb, hbt⟩ := tzs i sa t c an i2
      have hv2 : q.1 = .ref b := Option.some.inj (i1.symm.trans hb)
      rw [hv2, ej]
      exact .tup (SqT.of (b6 b _ (ne_of hbt ho3 fun z => by cases z) hbt)) (.cons (.int _) (.cons (.str _) (.cons (.str _) (.cons (.int _) .nil))))
    · obtain ⟨_, _, _, _, rfl⟩ := step_shape (gok _ m1)
      obtain ⟨_, _, _, _, rfl⟩ := step_shape (gok _ m2)
      simp [PySem.W.alike, PySem.W.alikeAll]
    · obtain ⟨_, _, _, _, rfl⟩ := step_shape (gok _ m1)
      exact ⟨_, _, rfl⟩
    · obtain ⟨_, _, _, _, rfl⟩ := step_shape (gok _ m1)
      simp [PyData.depth, PyData.depthAll]
    have po2 : p2 ≠ o := fun z => by rw [z, o6] at hp2; cases hp2
    have b7 : But o H3 (upd H6 p2 (.lst zs')) := but_same b6 (same_new hp2)
    have o7 : upd H6 p2 (.lst zs') o = _ := (upd_ne po2.symm).trans o6
    generalize upd H6 p2 (.lst zs') = H7 at b7 o7 ⊢
    refine ⟨_, rfl, o, _, dx, _, rfl, o7, CB.cls, CB.n3, Nat.lt_of_le_of_lt (Nat.le_trans (putF_len _ _ _) (Nat.succ_le_succ (putF_len _ _ _))) (by decide : 0 + 1 + 1 < 1000), ?_⟩
    refine k _ fun c u ne z => ?_
    rw [upd_ne ne]
    exact b7 c u ne (s13 _ _ z)
end
end K11
/-! ## K11u -/
set_option Elab.async false
set_option linter.all false
set_option maxRecDepth 100000
set_option maxHeartbeats 4000000
namespace K11
open PySem PySem.Spec PyProof.Rows L2 He Vx
open PySem.W (kitOne exmOne findIn)
/-- what is known of the three errors that are caught -/
structure HeardK (K : PySem.W.Frag) : Prop where
  same : ∀ x ∈ (["InvalidStates", "InvalidStarts", "InvalidSteps"] : List Str), ∀ y ∈ (["InvalidStates", "InvalidStarts", "InvalidSteps"] : List Str), exmOne K (.ref (ga K x)) (.ref (ga K y)) = some (decide (x = y))
  fam : ∀ x ∈ (["InvalidStates", "InvalidStarts", "InvalidSteps"] : List Str), kitOne K (.ref (ga K x)) (.ref (ga K "BoxError")) = some true
/-- the three: what is told of each, its attribute -/
def toldOf (x : Str) : Str × Str := if x = "InvalidStates" then ("states", "value") else if x = "InvalidStarts" then ("starts", "position") else ("steps", "position")
/-- what is to be done of an error that the call let out -/
def HE (K : PySem.W.Frag) (Q : VK) : XK := fun cls d H' => ∃ (x : Str) (dd : Addr) (v : V) (da : PyData), x ∈ (["InvalidStates", "InvalidStarts", "InvalidSteps"] : List Str) ∧ cls = .ref (ga K x) ∧ d = some dd ∧ H' dd = some (.xd [((toldOf x).2, v)]) ∧ Da K H' v da ∧ Show da ∧
  ∀ D, H' D = none → Q (.ref D) (upd H' D (.lst [.str (toldOf x).1, .str da.shown, .bl true]))
/-- heard: what the call tells -/
def TTh (K : PySem.W.Frag) : (XK → Hp → VK → Prop) → Hp → VK → Prop := fun tl H Q => ∀ D1, H D1 = none → tl (HE K Q) (upd H D1 (.lst [.str "let"])) fun _ H' => ∃ v, (some (some (V.ref D1)) : Option (Option V)) = some (some v) ∧ Q v H'
theorem takes_len {X : Cx} {W : WX} {n : Nat} (hn : X.N.length = n) (t : Takes X W) : Takes X fun c d σ H => σ.length = n → W c d σ H := fun u s' ⟨a, B, sI, pins, σ, H, cls, d, e, I, nb, up, sky, na, os, ag, w⟩ =>
  t u s' ⟨a, B, sI, pins, σ, H, cls, d, e, I, nb, up, sky, na, os, ag, w (I.len.trans hn)⟩
section
variable {X : Cx} {b : XB}
/-- one clause: [t, repr(e.f), isinstance(e, BoxError)] -/
def tSuite (K : PySem.W.Frag) (t f : Str) : Addr → Value → Option Addr → TS := fun a cls d =>
  tAsg (tLst (tCons (tC (.str t)) (tCons (tCB (rRepr K) (tCons (tXsf a cls d K f (tVar 2)) tNil)) (tCons (tCB (rIsS a cls d K) (tCons (tVar 2) (tCons (tC (.ref (ga K "BoxError"))) tNil))) tNil)))) (gName 1)
end
theorem suite_read {K : PySem.W.Frag} {b : XB} {x t f : Str} {a dd : Addr} {v : V} {da : PyData} {D : Ends} {τ : L2.St} {H : Hp} {Q : VK} (l : τ.length = 3) (T : XcC b K (ga K x)) (no : findIn K (.ref (ga K x)) f = some none) (fam : kitOne K (.ref (ga K x)) (.ref (ga K "BoxError")) = some true)
    (hx : H dd = some (.xd [(f, v)])) (hv : Da K H v da) (sh : Show da) (nx : ∀ p τ' H', τ'[1]? = some (some (.ref p)) → Q (.ref p) H' → D.nx τ' H') (q : ∀ p, H p = none → Q (.ref p) (upd H p (.lst [.str t, .str da.shown, .bl true]))) :
    tSuite K t f a (.ref (ga K x)) (some dd) (goneEnds 2 D) (τ.set 2 (some (.ref a))) H := by
  obtain ⟨o0, o1, o2, rfl⟩ : ∃ o0 o1 o2, τ = [o0, o1, o2] := by
    match τ, l with
    | [a, b, c], _ => exact ⟨a, b, c, rfl⟩
  refine ⟨_, rfl, rfl, b, ga K x, dd, _, v, rfl, T, no, rfl, hx, by rw [lookup_put, if_pos rfl], v, da, rfl, hv, sh.1, sh.2.1, sh.2.2, ?_⟩
  refine ⟨_, rfl, b, ga K x, dd, _, .ref (ga K "BoxError"), .ref (ga K "BoxError"), true, rfl, rfl, T, rfl, hx, fun _ r => r, fam, ?_⟩
  refine ⟨by show 3 ≤ sizeLine; decide, fun p np => ?_⟩
  exact nx p _ _ rfl (q p np)
theorem heard_gives {X : Cx} {k : Nat} {g : Addr} {cdg : Value} {q : Str} (T : BI X.mg) (ES : ErrSet X.prog X.w X.K X.mg X.base) (XG : XcG X.K) (HK : HeardK X.K) (hG : Gd X.A) (hr : Room (k + 1) X.A) :
    LamX.GivesTo X ["_law_call", "_law_heard_here", "e"] "_law_heard" (defScope s_law_heard) g cdg (defBody s_law_heard) "_law_call" q (TTh X.K) := by
  intro f c' s H Q tl act hc h
  have hr' := hr.deeper (envOfC "_law_heard" (defScope s_law_heard) s.heap.objs.size g cdg)
  let Y : Cx := (cxOf C8.CX0 X.prog X.w X.K X.mg X.base ["_law_call", "_law_heard_here", "e"] "_law_heard" (defScope s_law_heard) g cdg X.A X.stack s H C8.E0).nox
  refine ⟨_, pss_cons (ps_set (X := Y) (i := 1) sc_law_heard.nd rfl (Or.inl rfl) (pe_lst (pa_cons pe_str pa_nil)))
    (pss_cons (ps_clauses (X := Y) (n := "e") (i := 2) (qs := [(.ref (ga X.K "InvalidStates"), tSuite X.K "states" "value"), (.ref (ga X.K "InvalidStarts"), tSuite X.K "starts" "position"), (.ref (ga X.K "InvalidSteps"), tSuite X.K "steps" "position")])
      (tb := fun W D σ H => ∃ Ech : XK, (∀ cls d σ' H', Ech cls d H' → σ'.length = 3 → W cls d σ' H') ∧ σ[0]? = some (some (.ref f)) ∧ H c' = some (LamX.CodeO c' q) ∧ tl Ech H fun _ H' => D.nx σ H')
      rfl rfl sc_law_heard.nd rfl rfl LamX.takes0 (fun W pn xe tk _ => ?_)
      (.cons ⟨_, _, _, _, _, rfl, ⟨rfl, by decide, .inl ES.InvalidStates.hm⟩, fun a oe cls d pn hz hf => ?_⟩
        (.cons ⟨_, _, _, _, _, rfl, ⟨rfl, by decide, .inl ES.InvalidStarts.hm⟩, fun a oe cls d pn hz hf => ?_⟩
          (.cons ⟨_, _, _, _, _, rfl, ⟨rfl, by decide, .inl ES.InvalidSteps.hm⟩, fun a oe cls d pn hz hf => ?_⟩ .nil))))
      (pss_one (ps_ret (pv 1)))), ?_⟩
  · refine ⟨fun pins s' σ H' D I h' => ?_⟩
    obtain ⟨Ech, hW, h1, h2, h3⟩ := h'
    exact (pss_one (ps_expr (act _ pn xe Ech _ _ (takes_len (n := 3) rfl tk) hW))).run pins s' σ H' D I ⟨h1, h2, h3⟩
  · exact (pss_one (ps_set (X := Y.suite a ((a, oe) :: pn)) (i := 1) sc_law_heard.nd rfl (Or.inl rfl) (pe_lst (pa_cons pe_str (pa_cons (pe_callB (call_reprD hG hr'.units) (by rfl) T.repr bt_repr (pa_cons (pe_xsf hz hf (pv 2)) pa_nil)) (pa_cons (pe_callB (call_isS XG hz hf) (by rfl) T.isinstance bt_isinstance (pa_cons (pv 2) (pa_cons (pe_glob (v := .ref _) (by rfl) ES.BoxError.hm rfl) pa_nil))) pa_nil))))))
  · exact (pss_one (ps_set (X := Y.suite a ((a, oe) :: pn)) (i := 1) sc_law_heard.nd rfl (Or.inl rfl) (pe_lst (pa_cons pe_str (pa_cons (pe_callB (call_reprD hG hr'.units) (by rfl) T.repr bt_repr (pa_cons (pe_xsf hz hf (pv 2)) pa_nil)) (pa_cons (pe_callB (call_isS XG hz hf) (by rfl) T.isinstance bt_isinstance (pa_cons (pv 2) (pa_cons (pe_glob (v := .ref _) (by rfl) ES.BoxError.hm rfl) pa_nil))) pa_nil))))))
  · exact (pss_one (ps_set (X := Y.suite a ((a, oe) :: pn)) (i := 1) sc_law_heard.nd rfl (Or.inl rfl) (pe_lst (pa_cons pe_str (pa_cons (pe_callB (call_reprD hG hr'.units) (by rfl) T.repr bt_repr (pa_cons (pe_xsf hz hf (pv 2)) pa_nil)) (pa_cons (pe_callB (call_isS XG hz hf) (by rfl) T.isinstance bt_isinstance (pa_cons (pv 2) (pa_cons (pe_glob (v := .ref _) (by rfl) ES.BoxError.hm rfl) pa_nil))) pa_nil))))))
  · refine ⟨by show 1 ≤ sizeLine; decide, fun D1 n1 => ?_⟩
    refine ⟨HE X.K Q, fun cls d σ' H' he hl => ?_, rfl, ?_, h D1 n1⟩
    · obtain ⟨x, dd, v, da, hx, rfl, rfl, hd, hda, sh, k⟩ := he
      have nx : ∀ p τ' H', τ'[1]? = some (some (V.ref p)) → Q (.ref p) H' → tRet (tVar 1) { nx := fun _ H' => Q .non H', rt := Q } τ' H' := fun p τ' H' e z => ⟨_, e, z⟩
      rcases List.mem_cons.mp hx with rfl | hx2
      · exact ⟨true, HK.same _ hx _ hx, (fun z => nomatch z), fun _ a na => (by refine suite_read hl ES.InvalidStates.T ES.InvalidStates.no (HK.fam _ hx) hd hda sh ?_ k; exact nx)⟩
      rcases List.mem_cons.mp hx2 with rfl | hx3
      · exact ⟨false, HK.same _ hx _ (List.mem_cons_self ..), fun _ => ⟨true, HK.same _ hx _ hx, (fun z => nomatch z), fun _ a na => (by refine suite_read hl ES.InvalidStarts.T ES.InvalidStarts.no (HK.fam _ hx) hd hda sh ?_ k; exact nx)⟩, (fun z => nomatch z)⟩
      · cases List.mem_singleton.mp hx3
        exact ⟨false, HK.same _ hx _ (List.mem_cons_self ..), fun _ => ⟨false, HK.same _ hx _ (List.mem_cons_of_mem _ (List.mem_cons_self ..)), fun _ => ⟨true, HK.same _ hx _ hx, (fun z => nomatch z), fun _ a na => (by refine suite_read hl ES.InvalidSteps.T ES.InvalidSteps.no (HK.fam _ hx) hd hda sh ?_ k; exact nx)⟩, (fun z => nomatch z)⟩, (fun z => nomatch z)⟩
    · exact (same_new n1) _ _ hc
end K11
/-! ## K11v -/
set_option Elab.async false
set_option linter.all false
set_option maxRecDepth 100000
set_option maxHeartbeats 4000000
namespace K11
open PySem PySem.Spec PyProof.Rows L2 He Vx

theorem perm_erase {α : Type} : ∀ {l : List α} {i : Nat} (h : i < l.length), (l[i]'h :: l.eraseIdx i).Perm l
  | a :: l, 0, _ => List.Perm.refl _
  | a :: l, i + 1, h => (List.Perm.swap a (l[i]'(Nat.lt_of_succ_lt_succ h)) (l.eraseIdx i)).trans ((perm_erase (l := l) (Nat.lt_of_succ_lt_succ h)).cons a)
/-- o.name(e, ..), the written part named -/
theorem pe_bmK {X : Cx} {K : PySem.W.Frag} {T name id : String} {r : V → List V → Hp → VK → Prop} {o e : Expr} {es : List Expr} {to : TE} {t : TA} {apos cpos : Pos} (hK : X.K = K) (pa : PlainAttrs T) (slot : Slot T name id) (hty : typeOf (.builtin id) = pure (.type "method_descriptor")) (hm : MtR X id r) (ho : PE X o to) (ha : PA X (e :: es) t)
    (h1 : attributeBase o name X.env (eval o X.env) = eval o X.env := by rfl)
    (h2 : ((backTo cpos (starEach (e :: es) X.env)).all (fun x => !x.1) && (backToKw cpos (keywordEach [] X.env)).all (fun x => x.1.isSome) && decide ((e :: es).length + ([] : List Keyword).length + (if ([] : List Keyword).isEmpty then 0 else 1) < 30)) = true := by rfl)
    (h3 : (apos.endLine == cpos.line) = true := by rfl) (h4 : starEach (e :: es) X.env = (false, eval e X.env) :: starEach es X.env := by rfl) (h5 : (backTo cpos (starEach es X.env)).any (·.1) = false := by rfl) :
    PE X (.Call (.Attribute o name apos) (e :: es) [] cpos) (tBM K T r to t) := by
  subst hK
  exact pe_bm pa slot hty hm ho ha h1 h2 h3 h4 h5
/-- the menu in another sequence -/
def spMixed (K : PySem.W.Frag) : Sp := fun vs H Q _ => ∃ (p m : Addr) (xs : List V), vs = [.ref p, .ref m] ∧ Pot p H ∧ SqL K (off p H) m xs ∧ xs.length ≤ 1000 ∧ ∀ (D : Addr) (ys : List V) H', Stp p H H' → H D = none → D ≠ p → H' D = some (.lst ys) → ys.Perm xs → Q (.ref D) H'
section
variable {P : Program} {w : World} {K : PySem.W.Frag} {mg : Str → Option Value} {base : Heap}
theorem cd_mixed (F : At K mg "_law_mixed" s_law_mixed) (T : BI mg) (c__law_draw : Cd P w K mg base 1 "_law_draw" ["_law_pot_here", "_law_many"] spDraw) : Cd P w K mg base 2 "_law_mixed" ["_law_pot_here", "_law_menu_here"] (spMixed K) := by
  refine cd_mk F sc_law_mixed (fun vs H Q E h => ?_) (fun _ _ _ _ _ _ us hl => match us, hl with | [_, _], _ => rfl) (fun f cdv A outer s H vs Q E hr hG h => ?_)
  · obtain ⟨p, m, xs, rfl, _⟩ := h
    rfl
  · obtain ⟨p, m, xs, rfl, hP, hm, hl, k⟩ := h
    refine ⟨_, (pss_cons (ps_set (i := 2) sc_law_mixed.nd rfl (Or.inr rfl) (pe_callTy call_list_of (by rfl) T.list bt_list (pa_cons (pv 1) pa_nil)))
  (pss_one (ps_ret (pe_lc (own := [("_law_turn", 3)]) (g := gName 3) (tt := tYes) (by rfl) sc_law_mixed.nd (pi_range1 (by rfl) T.range (pa_cons (pe_callB (call_lenK (K := K) rfl) (by rfl) T.len PySem.boot_len (pa_cons (pv 1) pa_nil)) pa_nil)) (blkOk_by (own := [("_law_turn", 3)]) (N := ["_law_pot_here", "_law_menu_here", "_law_pack", "_law_turn"]) (sc := defScope s_law_mixed) (by decide +kernel)) (fun _ _ _ _ _ => pg_name (i := 3) sc_law_mixed.nd rfl (Or.inl rfl)) (fun _ _ _ _ _ => pts_nil) (fun _ _ _ _ _ => (pe_bmK (K := K) rfl PySem.F.plainAttrs_list PySem.F.slot_list_pop PySem.F.type_list_pop mt_popAt (pv 2) (pa_cons (pe_cd c__law_draw (hr.mono (by decide)) hG (by rfl) (pa_cons (pv 0) (pa_cons (pe_callB (call_lenK (K := K) rfl) (by rfl) T.len PySem.boot_len (pa_cons (pv 2) pa_nil)) pa_nil))) pa_nil))))))), ?_⟩
    refine ⟨_, rfl, m, xs, rfl, .inl (off_same.seq hm), fun a ha => ?_⟩
    have ap : a ≠ p := hP.new ha
    refine ⟨_, rfl, m, xs, rfl, .inl ((same_new ha).seq (off_same.seq hm)), (xs.length : Int), rfl, by omega, by omega, fun D hD => ?_⟩
    have HD : H D = none := (same_new ha).free hD
    have Da_ : D ≠ a := fun z => by rw [z, upd_same] at hD; cases hD
    have Dp : D ≠ p := hP.new HD
    refine lc_range (lo := 0) (n := xs.length) (fun i H' => Stp p H H' ∧ ∃ acc rest, H' a = some (.lst rest) ∧ H' D = some (.lst acc) ∧ acc.length = i ∧ (acc ++ rest).Perm xs) ⟨?_, [], xs, ?_, upd_same, rfl, List.Perm.refl _⟩ (fun i H' hi z => ⟨by rfl, ?_⟩) fun H' z => ?_
    · exact ((Stp.refl hP).putD ha ap).putD HD Dp
    · rw [upd_ne Da_.symm, upd_same]
    · obtain ⟨st, acc, rest, ea, eD, la, pm⟩ := z
      have lr : acc.length + rest.length = xs.length := by rw [← List.length_append]; exact pm.length_eq
      refine ⟨_, rfl, .inl ⟨rfl, _, SqL.of ea⟩, _, rfl, _, rfl, a, rest, rfl, .inl (SqL.of ea), p, _, rfl, st.pot, by omega, by omega, fun d H2 s2 d0 d1 => ?_⟩
      have st2 := st.trans s2
      have keep : ∀ c u, c ≠ p → H' c = some u → H2 c = some u := fun c u n e => by
        have q := s2.k c u ((off_ne n).trans e)
        rwa [off_ne n] at q
      have ea2 := keep a _ ap ea
      have eD2 := keep D _ Dp eD
      have lt : d.toNat < rest.length := by omega
      refine ⟨a, rest, d, d.toNat, rest[d.toNat], rfl, rfl, ea2, by omega, by omega, ?_, List.getElem?_eq_getElem lt, acc, ?_, ?_, ?_, ?_⟩
      · simp only [seqIndex?]
        rw [if_neg (by omega : ¬ d < 0)]
        rw [if_pos (Bool.and_eq_true_iff.mpr ⟨decide_eq_true d0, decide_eq_true d1⟩)]
      · rw [upd_ne Da_]
        exact eD2
      · exact small1000 (by omega)
      · exact (st2.putD ha ap).putD HD Dp
      · refine ⟨acc ++ [rest[d.toNat]], rest.eraseIdx d.toNat, ?_, upd_same, ?_, ?_⟩
        · rw [upd_ne Da_.symm, upd_same]
        · rw [List.length_append, la]
          rfl
        · refine List.Perm.trans ?_ pm
          rw [List.append_assoc]
          exact (perm_erase lt).append_left acc
    · obtain ⟨st, acc, rest, ea, eD, la, pm⟩ := z
      have lr : acc.length + rest.length = xs.length := by rw [← List.length_append]; exact pm.length_eq
      have e0 : rest = [] := List.eq_nil_of_length_eq_zero (by omega)
      subst e0
      rw [List.append_nil] at pm
      exact k D acc H' st HD Dp eD pm
end
end K11
/-! ## K11w -/
set_option Elab.async false
set_option linter.all false
set_option maxRecDepth 100000
set_option maxHeartbeats 4000000
namespace K11
open PySem PySem.Spec PyProof.Rows L2 He Vx

/-- a sign that is right -/
def GoodSign (H : Hp) (y : V) : Prop := ∃ (b : Addr) (c z : Str), y = .ref b ∧ H b = some (.tup [.str c, .str z]) ∧ nm c = true ∧ nm z = true
theorem GoodSign.off {p : Addr} {H : Hp} {y : V} (h : GoodSign H y) (P : Pot p H) : GoodSign (off p H) y := by
  obtain ⟨b, c, z, rfl, e, h1, h2⟩ := h
  obtain ⟨i, j, ep, _⟩ := P
  exact ⟨b, c, z, rfl, (off_ne (ne_of e ep fun z => by cases z)).trans e, h1, h2⟩
theorem GoodSign.mono {H H' : Hp} {y : V} (h : GoodSign H y) (s : Same H H') : GoodSign H' y := by
  obtain ⟨b, c, z, rfl, e, h1, h2⟩ := h
  exact ⟨b, c, z, rfl, s _ _ e, h1, h2⟩
def spMenu1 : Sp := fun vs H Q _ => ∃ p : Addr, vs = [.ref p] ∧ Pot p H ∧ ∀ (D : Addr) (ys : List V) H', Stp p H H' → off p H' D = some (.lst ys) → 1 ≤ ys.length → ys.length ≤ 6 → (∀ y ∈ ys, GoodSign (off p H') y) → Q (.ref D) H'
section
variable {P : Program} {w : World} {K : PySem.W.Frag} {mg : Str → Option Value} {base : Heap}
theorem cd_menu (F : At K mg "_law_menu" s_law_menu) (T : BI mg) (c__law_draw : Cd P w K mg base 1 "_law_draw" ["_law_pot_here", "_law_many"] spDraw) : Cd P w K mg base 2 "_law_menu" ["_law_pot_here"] spMenu1 := by
  refine cd_mk F sc_law_menu (fun vs H Q E h => ?_) (fun _ _ _ _ _ _ us hl => match us, hl with | [_], _ => rfl) (fun f cdv A outer s H vs Q E hr hG h => ?_)
  · obtain ⟨p, rfl, _⟩ := h
    rfl
  · obtain ⟨p, rfl, hP, k⟩ := h
    refine ⟨_, (pss_cons (ps_set (i := 1) sc_law_menu.nd rfl (Or.inl rfl) (pe_lst (pa_cons (pe_tup (pa_cons pe_str (pa_cons pe_str pa_nil))) (pa_cons (pe_tup (pa_cons pe_str (pa_cons pe_str pa_nil))) (pa_cons (pe_tup (pa_cons pe_str (pa_cons pe_str pa_nil))) (pa_cons (pe_tup (pa_cons pe_str (pa_cons pe_str pa_nil))) (pa_cons (pe_tup (pa_cons pe_str (pa_cons pe_str pa_nil))) (pa_cons (pe_tup (pa_cons pe_str (pa_cons pe_str pa_nil))) pa_nil))))))))
  (pss_cons (ps_set (i := 2) sc_law_menu.nd rfl (Or.inl rfl) (pe_cd c__law_draw (hr.mono (by decide)) hG (by rfl) (pa_cons (pv 0) (pa_cons pe_int pa_nil))))
  (pss_one (ps_ret (pe_slice sl_list (pe_op op_cat (pe_slice sl_list (pv 1) (po_some (pv 2)) po_none) (pe_slice sl_list (pv 1) po_none (po_some (pv 2)))) po_none (po_some (pe_op op_add pe_int (pe_cd c__law_draw (hr.mono (by decide)) hG (by rfl) (pa_cons (pv 0) (pa_cons pe_int pa_nil)))))))))), ?_⟩
    refine ⟨by show 2 ≤ sizeLine; decide, fun a1 n1 => ?_⟩
    generalize g1 : upd H a1 _ = H1
    have s1 : Same H H1 := g1 ▸ same_new n1
    have e1 := g1 ▸ upd_same (H := H) (a := a1)
    clear g1
    refine ⟨by show 2 ≤ sizeLine; decide, fun a2 n2 => ?_⟩
    generalize g2 : upd H1 a2 _ = H2
    have s2 : Same H1 H2 := g2 ▸ same_new n2
    have e2 := g2 ▸ upd_same (H := H1) (a := a2)
    clear g2
    refine ⟨by show 2 ≤ sizeLine; decide, fun a3 n3 => ?_⟩
    generalize g3 : upd H2 a3 _ = H3
    have s3 : Same H2 H3 := g3 ▸ same_new n3
    have e3 := g3 ▸ upd_same (H := H2) (a := a3)
    clear g3
    refine ⟨by show 2 ≤ sizeLine; decide, fun a4 n4 => ?_⟩
    generalize g4 : upd H3 a4 _ = H4
    have s4 : Same H3 H4 := g4 ▸ same_new n4
    have e4 := g4 ▸ upd_same (H := H3) (a := a4)
    clear g4
    refine ⟨by show 2 ≤ sizeLine; decide, fun a5 n5 => ?_⟩
    generalize g5 : upd H4 a5 _ = H5
    have s5 : Same H4 H5 := g5 ▸ same_new n5
    have e5 := g5 ▸ upd_same (H := H4) (a := a5)
    clear g5
    refine ⟨by show 2 ≤ sizeLine; decide, fun a6 n6 => ?_⟩
    generalize g6 : upd H5 a6 _ = H6
    have s6 : Same H5 H6 := g6 ▸ same_new n6
    have e6 := g6 ▸ upd_same (H := H5) (a := a6)
    clear g6
    refine ⟨by show 6 ≤ sizeLine; decide, fun a7 n7 => ?_⟩
    generalize g7 : upd H6 a7 _ = H7
    have s7 : Same H6 H7 := g7 ▸ same_new n7
    have e7 := g7 ▸ upd_same (H := H6) (a := a7)
    clear g7
    have T6 := s7
    have T5 := s6.trans T6
    have T4 := s5.trans T5
    have T3 := s4.trans T4
    have T2 := s3.trans T3
    have T1 := s2.trans T2
    have P7 := hP.keep (s1.trans T1)
    have g : ∀ y ∈ [V.ref a1, .ref a2, .ref a3, .ref a4, .ref a5, .ref a6], GoodSign H7 y := by
      intro y hy
      rcases List.mem_cons.mp hy with rfl | hy
      · exact ⟨a1, _, _, rfl, T1 _ _ e1, by decide +kernel, by decide +kernel⟩
      rcases List.mem_cons.mp hy with rfl | hy
      · exact ⟨a2, _, _, rfl, T2 _ _ e2, by decide +kernel, by decide +kernel⟩
      rcases List.mem_cons.mp hy with rfl | hy
      · exact ⟨a3, _, _, rfl, T3 _ _ e3, by decide +kernel, by decide +kernel⟩
      rcases List.mem_cons.mp hy with rfl | hy
      · exact ⟨a4, _, _, rfl, T4 _ _ e4, by decide +kernel, by decide +kernel⟩
      rcases List.mem_cons.mp hy with rfl | hy
      · exact ⟨a5, _, _, rfl, T5 _ _ e5, by decide +kernel, by decide +kernel⟩
      · cases List.mem_singleton.mp hy
        exact ⟨a6, _, _, rfl, T6 _ _ e6, by decide +kernel, by decide +kernel⟩
    have S7 := (Stp.refl hP).same (s1.trans T1)
    generalize gL : [V.ref a1, .ref a2, .ref a3, .ref a4, .ref a5, .ref a6] = L at e7 g
    have ll : L.length = 6 := by rw [← gL]; rfl
    have g' : ∀ y ∈ L, GoodSign (off p H7) y := fun y hy => (g y hy).off P7
    refine ⟨_, rfl, p, 6, rfl, P7, by decide, by decide, fun d H8 st8 d0 d6 => ?_⟩
    obtain ⟨n, rfl⟩ : ∃ n : Nat, d = (n : Int) := ⟨d.toNat, by omega⟩
    have n7p : a7 ≠ p := (hP.keep (s1.trans (s2.trans (s3.trans (s4.trans (s5.trans s6)))))).new n7
    have e8 : H8 a7 = some (.lst L) := by
      have q := st8.k a7 _ ((off_ne n7p).trans e7)
      rwa [off_ne n7p] at q
    refine ⟨_, rfl, _, rfl, _, rfl, a7, L, rfl, SqL.of e8, fun b hb => ?_⟩
    have s9 : Same H8 (upd H8 b (.lst (cutV L (some (n : Int)) none))) := same_new hb
    have e9 := upd_same (H := H8) (a := b) (o := .lst (cutV L (some (n : Int)) none))
    generalize upd H8 b (.lst (cutV L (some (n : Int)) none)) = H9 at s9 e9 ⊢
    refine ⟨_, rfl, _, rfl, _, rfl, a7, L, rfl, SqL.of (s9 _ _ e8), fun c hc => ?_⟩
    have s10 : Same H9 (upd H9 c (.lst (cutV L none (some (n : Int))))) := same_new hc
    have e10 := upd_same (H := H9) (a := c) (o := .lst (cutV L none (some (n : Int))))
    generalize upd H9 c (.lst (cutV L none (some (n : Int)))) = H10 at s10 e10 ⊢
    have cut1 : cutV L (some (n : Int)) none = L.drop n := cut_from (by omega)
    have cut2 : cutV L none (some (n : Int)) = L.take n := cut_to (by omega)
    rw [cut1] at e9
    rw [cut2] at e10
    refine ⟨b, c, _, _, rfl, rfl, s10 _ _ e9, e10, by rw [List.length_drop, List.length_take, ll]; exact Nat.le_of_lt (small1000 (by omega)), fun D hD => ?_⟩
    have s11 : Same H10 (upd H10 D (.lst (L.drop n ++ L.take n))) := same_new hD
    have e11 := upd_same (H := H10) (a := D) (o := .lst (L.drop n ++ L.take n))
    generalize upd H10 D (.lst (L.drop n ++ L.take n)) = H11 at s11 e11 ⊢
    have s811 := s9.trans (s10.trans s11)
    have P10 : Pot p H10 := st8.pot.keep (s9.trans s10)
    have Dp : D ≠ p := P10.new hD
    refine ⟨_, rfl, p, 4, rfl, st8.pot.keep s811, by decide, by decide, fun d H12 st12 d20 d24 => ?_⟩
    obtain ⟨m, rfl⟩ : ∃ m : Nat, d = (m : Int) := ⟨d.toNat, by omega⟩
    have e12 : H12 D = some (.lst (L.drop n ++ L.take n)) := by
      have q := st12.k D _ ((off_ne Dp).trans e11)
      rwa [off_ne Dp] at q
    refine ⟨1, (m : Int), rfl, rfl, _, rfl, D, _, rfl, SqL.of e12, fun D2 hD2 => ?_⟩
    have lc : (L.drop n ++ L.take n).length = 6 := by rw [List.length_append, List.length_drop, List.length_take, ll]; omega
    have cut3 : cutV (L.drop n ++ L.take n) none (some (1 + (m : Int))) = (L.drop n ++ L.take n).take (1 + m) := cut_to (k := 1 + m) (by rw [lc]; omega)
    rw [cut3]
    have st := (st8.same s811).trans st12
    have S := (S7.trans st).same (same_new hD2 (o := .lst ((L.drop n ++ L.take n).take (1 + m))))
    refine k D2 _ _ S ((off_ne (st12.pot.new hD2)).trans upd_same) ?_ ?_ fun y hy => ?_
    · rw [List.length_take, lc]
      omega
    · rw [List.length_take, lc]
      omega
    · have hy2 := List.mem_of_mem_take hy
      have hL : y ∈ L := by
        rcases List.mem_append.mp hy2 with q | q
        · exact List.mem_of_mem_drop q
        · exact List.mem_of_mem_take q
      exact (g' y hL).mono (st.same (same_new hD2)).k
end
end K11
/-! ## G30 -/
set_option Elab.async false
set_option linter.all false
set_option maxRecDepth 100000
set_option maxHeartbeats 6000000
namespace Vx
open PySem PySem.Spec PyProof.Rows L2 He
/-! ### set of a list of ints, its order known -/
/-- a new set, empty -/
abbrev set0 (w : World) : Obj := { cls := .type "set", dict := none, data := .set #[] 0 (.fresh 0 0 (!w.params.followText "set-order")) }
section
variable {P : Program} {w : World} {A : Around} {E : Value → Shared → Prop} {s : Shared}
/-- what stands behind the making of the set -/
def MadeOf (w : World) (s : Shared) (ns : List Int) (s' : Shared) : Prop := ∃ (g : Heap) (k n : Nat), s' = { s with heap := g, toks := k } ∧ SetR w g s.heap.objs.size (fun j => decide (j ∈ ns)) n ∧ n ≤ ns.length ∧ ∀ b ob, s.heap.get? b = some ob → g.get? b = some ob
/-- set.__init__ of the empty set and a list of ints -/
theorem init_of_list {l : Addr} {its : Array Value} (ns : List Int) (free : A.handled = none) (isL : s.heap.IsList l its) (zi : IntsAre its.toList ns) (few : ns.length + 1 < scanBound) :
    codeAny (model P w) A (.call (.builtin "set.__init__") ⟨[.ref s.heap.objs.size, .ref l], []⟩) (wants (fun r s' => r = .none ∧ MadeOf w s ns s') E) { s with heap := s.heap.push (set0 w) } := by
  have at0 : (s.heap.push (set0 w)).get? s.heap.objs.size = some (set0 w) := Heap.get?_push_size _ rfl
  have ty0 : Shared.TypeIs { s with heap := s.heap.push (set0 w) } (.ref s.heap.objs.size) "set" := ⟨_, at0, rfl⟩
  have size : its.size = ns.length := (Array.length_toList ..).symm.trans (IntsAre.length zi)
  refine codeAny_call_builtin PySem.F.called_set.init.plain PySem.F.entry_set_init (check_set_init_1 ty0 ?_)
  obtain ⟨⟨cl, dc, dt, sl⟩, atL, hc, n, hd⟩ := isL
  obtain rfl : cl = .type "list" := hc
  obtain rfl : dt = .seq its n := hd
  have atL' := Heap.get?_push_of_some (set0 w) atL
  have a1 := PySem.F.sub_list_set
  have a2 := PySem.F.sub_list_frozenset
  have a3 : (Value.type "list" == Value.type "dict") = false := by decide
  have isL' : (s.heap.push (set0 w)).IsList l its := ⟨_, atL', rfl, n, rfl⟩
  unfold Builtin.«set.__init__» noKeywords Builtin.Frozenset.updateFrom
  generalize it : pyIter = pit
  wp_walk
  subst it
  refine wpAny_pyIter_list isL' (wpAny_bind (wpAny_runValue ?_))
  have low : l < s.heap.objs.size := Heap.lt_size atL
  have sz : (s.heap.push (set0 w)).objs.size = s.heap.objs.size + 1 := Heap.size_push ..
  have ne1 : l ≠ (s.heap.push (set0 w)).objs.size := by
    rw [sz]
    exact Nat.ne_of_lt (Nat.lt_succ_of_lt low)
  have ne2 : s.heap.objs.size ∉ [(s.heap.push (set0 w)).objs.size, l] := by
    rw [sz]
    intro bad
    rcases List.mem_cons.mp bad with z | z
    · exact Nat.succ_ne_self _ z.symm
    · exact Nat.lt_irrefl _ (List.mem_singleton.mp z ▸ low)
  have each : ∀ (i : Nat) (v : Value), its[i]? = some v → ∃ k t, ns[i]? = some k ∧ v = .int k t := by
    intro i v hv
    have hi : i < ns.length := size ▸ (Array.getElem?_eq_some_iff.mp hv).1
    obtain ⟨t, e⟩ := IntsAre.int_at zi i v (by rw [Array.getElem?_toList]; exact hv)
    exact ⟨ns[i], t, List.getElem?_eq_getElem hi, by rw [e, List.getD_eq_getElem?_getD, List.getElem?_eq_getElem hi]; rfl⟩
  have calm : A.in1.in1.handled = none := free
  refine set_update_ints ((Walks.list calm _ l ne1 its).toS) s.heap.objs.size ne2 ns size few each (its.size - 0) 0 _ rfl (Nat.zero_le _) ⟨⟨_, Heap.get?_push_size _ rfl, rfl, rfl⟩, isL'.push _⟩ ⟨0, Nat.le_refl 0, setR_new_at (Heap.get?_push_of_some _ at0)⟩ ?_
  rintro ⟨g, gs, dr, k, os⟩ c mv hc R
  obtain rfl : gs = s.gens := mv.gens
  obtain rfl : dr = s.drawn := mv.drawn
  obtain rfl : os = s.os := mv.os
  refine wpAny_pure (wpAny_pure ⟨rfl, g, k, c, rfl, R, size ▸ hc, fun b ob e => ?_⟩)
  have hb := Heap.lt_size e
  refine mv.heap b ob (fun bad => ?_) (Heap.get?_push_of_some _ (Heap.get?_push_of_some _ e))
  rcases List.mem_cons.mp bad with z | z
  · exact Nat.lt_irrefl _ (z ▸ hb)
  · have y := List.mem_singleton.mp z
    rw [sz] at y
    exact Nat.lt_irrefl _ (Nat.lt_of_succ_lt (y ▸ hb))
/-- set(xs), xs a list of ints -/
theorem set_of_list {l : Addr} {its : Array Value} (ns : List Int) {Q : Value → Shared → Prop} (free : A.handled = none) (isL : s.heap.IsList l its) (zi : IntsAre its.toList ns) (few : ns.length + 1 < scanBound)
    (fin : ∀ s', MadeOf w s ns s' → Q (.ref s.heap.objs.size) s') : wpAny (model P w) A (call (.type "set") [.ref l]) Q E s := by
  obtain ⟨c, tl, mro⟩ := PySem.F.called_set.mro
  have b1 := PySem.F.called_set.made
  have b2 := PySem.F.called_set.sub
  have b3 := PySem.F.called_set.notType
  have b4 := PySem.F.called_set.canCreate
  have b5 := PySem.F.typeCall_set_1 (.ref l)
  refine wpAny_call (codeAny_of_tree (show wpAny _ _ (callAny (.type "set") _) _ _ _ from wpAny_pure ⟨Code.quiet_builtin _ (by decide +kernel), codeAny_builtin PySem.F.entry_type_call ?_⟩))
  rw [Around.under_plain (weight_type_call_type "set" [.ref l] []) rfl]
  repeat (any_goals (first | assumption | wp_step))
  refine codeAny_mono (code_set_led1 (.ref l) (E := E) (Q₁ := fun ob s1 => ob = .ref s.heap.objs.size ∧ s1 = { s with heap := s.heap.push (set0 w) }) ⟨rfl, rfl⟩) fun r s1 hr => ?_
  rcases r with er | fl
  · exact hr
  rcases fl with _ | _ | _ | ob
  all_goals first | exact hr.elim | skip
  obtain ⟨rfl, rfl⟩ := hr
  have at0 : (s.heap.push (set0 w)).get? s.heap.objs.size = some (set0 w) := Heap.get?_push_size _ rfl
  have ty0 : Shared.TypeIs { s with heap := s.heap.push (set0 w) } (.ref s.heap.objs.size) "set" := ⟨_, at0, rfl⟩
  have b6 := PySem.F.called_set.init.lookup
  have b7 := PySem.F.called_set.init.bind (.ref s.heap.objs.size)
  repeat (any_goals (first | assumption | wp_step))
  refine codeAny_mono (init_of_list (E := E) ns free isL zi few) fun r s2 hr => ?_
  rcases r with er | fl
  · exact hr
  rcases fl with _ | _ | _ | v
  all_goals first | exact hr.elim | skip
  obtain ⟨rfl, made⟩ := hr
  repeat (any_goals (first | assumption | wp_step))
  exact fin _ made
end
def rSetL (K : PySem.W.Frag) (w : World) : List V → Hp → VK → Prop := fun vs H Q => ∃ (a : Addr) (ns : List Int), vs = [.ref a] ∧ SqL K H a (ns.map V.int) ∧ ns.length ≤ 1000 ∧
  ∀ p n, H p = none → n ≤ ns.length → Q (.ref p) (upd H p (SetO w p (fun j => decide (j ∈ ns)) n))
theorem cr_setL {X : Cx} (hc : X.calm = true) : CallR X (.type "set") (rSetL X.K X.w) := by
  intro pins s σ H vs us Q I r h
  obtain ⟨a, ns, rfl, sq, few, q⟩ := h
  obtain ⟨u, rfl, ru⟩ := vals1 r
  obtain rfl : u = Value.ref a := ru
  obtain ⟨its, rel, pl, _⟩ := I.list sq
  refine set_of_list (its := its.toArray) ns (I.ok.hd hc) pl.isList (by simpa using rel.ints) (by unfold scanBound; omega) fun s' made => ?_
  obtain ⟨g, k, n, rfl, R, le, keep⟩ := made
  exact ⟨.ref s.heap.objs.size, _, I.laid (t' := k) keep (Nat.le_refl _) (setO_new R), rfl, q _ n (I.hok.fresh (Nat.le_refl _)) le⟩
end Vx
/-! ## K11j -/
set_option Elab.async false
set_option linter.all false
set_option maxRecDepth 100000
set_option maxHeartbeats 4000000
namespace K11
open PySem PySem.Spec PyProof.Rows L2 He Vx
def kOk : L2.Key → Prop
  | .inl _ => True
  | .inr x => PyData.strOk x = true
theorem key_lay : ∀ {k : L2.Key}, kOk k → (keyD k).canLay0 = true
  | .inl _, _ => by simp [keyD, PyData.canLay0]
  | .inr x, h => by
    have h : PyData.strOk x = true := h
    simpa [keyD, PyData.canLay0] using h
theorem keys_lay : ∀ {ks : List L2.Key}, (∀ k ∈ ks, kOk k) → PyData.canLayAll0 (ks.map keyD) = true
  | [], _ => by simp [PyData.canLayAll0]
  | k :: ks, h => by simp [PyData.canLayAll0, key_lay (h k (List.mem_cons_self ..)), keys_lay fun z hz => h z (List.mem_cons_of_mem _ hz)]
theorem keys_depth : ∀ ks : List L2.Key, PyData.depthAll (ks.map keyD) = 0
  | [] => by simp [PyData.depthAll]
  | .inl _ :: ks => by simp [PyData.depthAll, keyD, PyData.depth, keys_depth ks]
  | .inr _ :: ks => by simp [PyData.depthAll, keyD, PyData.depth, keys_depth ks]
theorem keyT_lay {k : List L2.Key} (h : ∀ z ∈ k, kOk z) : (keyT k).canLay0 = true := by simp [keyT, PyData.canLay0, keys_lay h]
theorem keyT_depth (k : List L2.Key) : (keyT k).depth = 1 := by simp [keyT, PyData.depth, keys_depth]
theorem keyT_shaped {k : List L2.Key} (h : ∀ z ∈ k, kOk z) : SeqAt.shaped (keyT k) = true := by
  show ((keyT k).canLay0 && decide ((keyT k).depth ≤ 64)) = true
  rw [keyT_lay h, keyT_depth]
  rfl
theorem keyTs_lay : ∀ {ks : List (List L2.Key)}, (∀ k ∈ ks, ∀ z ∈ k, kOk z) → PyData.canLayAll0 (ks.map keyT) = true
  | [], _ => by simp [PyData.canLayAll0]
  | k :: ks, h => by simp [PyData.canLayAll0, keyT_lay (h k (List.mem_cons_self ..)), keyTs_lay fun z hz => h z (List.mem_cons_of_mem _ hz)]
theorem keyTs_depth : ∀ ks : List (List L2.Key), PyData.depthAll (ks.map keyT) ≤ 1
  | [] => by simp [PyData.depthAll]
  | k :: ks => by
    have h1 := keyTs_depth ks
    have h2 := keyT_depth k
    simp only [List.map_cons, PyData.depthAll]
    omega
theorem keyTs_shaped {ks : List (List L2.Key)} (h : ∀ k ∈ ks, ∀ z ∈ k, kOk z) : SeqAt.shaped (.list (ks.map keyT)) = true := by
  have h1 := keyTs_depth ks
  show ((PyData.list (ks.map keyT)).canLay0 && decide ((PyData.list (ks.map keyT)).depth ≤ 64)) = true
  simp only [PyData.canLay0, PyData.depth, keyTs_lay h, Bool.true_and]
  exact decide_eq_true (by omega)
theorem keyD_eqv : ∀ k k' : L2.Key, PyData.eqv (keyD k) (keyD k') = decide (k = k')
  | .inl i, .inl j => by
    simp only [keyD, PyData.eqv]
    rw [L2.key_ll]
  | .inr x, .inr y => by
    simp only [keyD, PyData.eqv]
    rw [L2.key_rr]
    by_cases h : x = y
    · rw [decide_eq_true h, h]
      exact beq_self_eq_true y
    · rw [decide_eq_false h]
      exact beq_eq_false_iff_ne.mpr h
  | .inl _, .inr _ => by
    simp only [keyD, PyData.eqv]
    rw [L2.key_lr]
  | .inr _, .inl _ => by
    simp only [keyD, PyData.eqv]
    rw [L2.key_rl]
theorem keys_eqv : ∀ k k' : List L2.Key, PyData.eqvAll (k.map keyD) (k'.map keyD) = decide (k = k')
  | [], [] => by simp [PyData.eqvAll]
  | [], _ :: _ => by simp [PyData.eqvAll]
  | _ :: _, [] => by simp [PyData.eqvAll]
  | a :: k, b :: k' => by
    simp only [List.map_cons, PyData.eqvAll, keyD_eqv, keys_eqv k k']
    by_cases h : a = b
    · by_cases h2 : k = k'
      · rw [decide_eq_true h, decide_eq_true h2, decide_eq_true (by rw [h, h2])]
        rfl
      · rw [decide_eq_true h, decide_eq_false h2, decide_eq_false (fun z => h2 (List.cons.inj z).2)]
        rfl
    · rw [decide_eq_false h, decide_eq_false (fun z => h (List.cons.inj z).1)]
      rfl
theorem keyT_eqv (k k' : List L2.Key) : PyData.eqv (keyT k) (keyT k') = decide (k = k') := by
  simp only [keyT, PyData.eqv, keys_eqv]
theorem keyT_any (k : List L2.Key) (ks : List (List L2.Key)) : ((ks.map keyT).any fun z => PyData.eqv z (keyT k)) = true ↔ k ∈ ks := by
  rw [List.any_eq_true]
  constructor
  · rintro ⟨d, hd, e⟩
    obtain ⟨z, hz, rfl⟩ := List.mem_map.mp hd
    rw [keyT_eqv] at e
    exact of_decide_eq_true e ▸ hz
  · exact fun h => ⟨keyT k, List.mem_map_of_mem h, by rw [keyT_eqv]; exact decide_eq_true rfl⟩
theorem nm_ok {z : Str} (h : nm z = true) : PyData.strOk z = true := by
  unfold nm at h
  have q := (ba (ba h).2).2
  rw [List.all_eq_true] at q
  unfold PyData.strOk
  rw [← Array.all_toList, List.all_eq_true]
  exact fun c hc => decide_eq_true (Nat.lt_trans (small_lt c (of_decide_eq_true (q c hc))) (by decide))
theorem dp_keys {K : PySem.W.Frag} {H : Hp} : ∀ ks : List L2.Key, DpAll K H (ks.map kV) (ks.map keyD)
  | [] => .nil
  | .inl i :: ks => .cons (.int i) (dp_keys ks)
  | .inr x :: ks => .cons (.str x) (dp_keys ks)
theorem dp_key {K : PySem.W.Frag} {H : Hp} {b : Addr} {k : List L2.Key} (h : H b = some (.tup (k.map kV))) : Dp K H (.ref b) (keyT k) := .tup (SqT.of h) (dp_keys k)
theorem da_keys {K : PySem.W.Frag} {H : Hp} : ∀ ks : List L2.Key, Das K H (ks.map kV) (ks.map keyD)
  | [] => .nil
  | .inl i :: ks => .cons (.int i) (da_keys ks)
  | .inr x :: ks => .cons (.str x) (da_keys ks)
theorem da_key {K : PySem.W.Frag} {H : Hp} {b : Addr} {k : List L2.Key} (h : H b = some (.tup (k.map kV))) : Da K H (.ref b) (keyT k) := .tup (SqT.of h) (da_keys k)
/-- a right move among n states, by its key -/
def MvOk (n : Int) (k : List L2.Key) : Prop := ∃ (s t : Int) (c a : Str), k = [.inl s, .inr c, .inr a, .inl t] ∧ 0 ≤ s ∧ s < n ∧ 0 ≤ t ∧ t < n ∧ nm c = true ∧ nm a = true
theorem MvOk.ok {n : Int} {k : List L2.Key} (h : MvOk n k) : ∀ z ∈ k, kOk z := by
  obtain ⟨s, t, c, a, rfl, _, _, _, _, hc, ha⟩ := h
  intro z hz
  rcases List.mem_cons.mp hz with rfl | hz
  · trivial
  rcases List.mem_cons.mp hz with rfl | hz
  · exact nm_ok hc
  rcases List.mem_cons.mp hz with rfl | hz
  · exact nm_ok ha
  · cases List.mem_singleton.mp hz
    trivial
/-- moves where they stand, none of them twice -/
structure Moves (H : Hp) (n : Int) (mk : List (Addr × List L2.Key)) : Prop where
  at_ : ∀ q ∈ mk, H q.1 = some (.tup (q.2.map kV)) ∧ MvOk n q.2
  nd : (mk.map Prod.snd).Nodup
theorem Moves.mono {H H' : Hp} {n : Int} {mk : List (Addr × List L2.Key)} (h : Moves H n mk) (s : Same H H') : Moves H' n mk := ⟨fun q hq => ⟨s _ _ (h.at_ q hq).1, (h.at_ q hq).2⟩, h.nd⟩
theorem dp_moves {K : PySem.W.Frag} {H : Hp} : ∀ {mk : List (Addr × List L2.Key)}, (∀ q ∈ mk, H q.1 = some (.tup (q.2.map kV))) → DpAll K H (mk.map fun q => V.ref q.1) ((mk.map Prod.snd).map keyT)
  | [], _ => .nil
  | q :: mk, h => .cons (dp_key (h q (List.mem_cons_self ..))) (dp_moves fun z hz => h z (List.mem_cons_of_mem _ hz))
/-- a drawn box: how many states, its starts, its moves -/
structure DealAt (H : Hp) (n : Int) (fs : List Int) (mk : List (Addr × List L2.Key)) (d f m : Addr) : Prop where
  hd : H d = some (.dK [(.inr "many", .int n), (.inr "firsts", .ref f), (.inr "moves", .ref m)])
  hf : H f = some (.lst (fs.map V.int))
  hm : H m = some (.lst (mk.map fun q => V.ref q.1))
  n1 : 1 ≤ n
  n5 : n ≤ 5
  f1 : fs ≠ []
  f3 : fs.length ≤ 3
  fn : fs.Nodup
  fi : ∀ i ∈ fs, 0 ≤ i ∧ i < n
  mv : Moves H n mk
  ml : mk.length ≤ 9
theorem DealAt.mono {H H' : Hp} {n : Int} {fs : List Int} {mk : List (Addr × List L2.Key)} {d f m : Addr} (h : DealAt H n fs mk d f m) (s : Same H H') : DealAt H' n fs mk d f m :=
  ⟨s _ _ h.hd, s _ _ h.hf, s _ _ h.hm, h.n1, h.n5, h.f1, h.f3, h.fn, h.fi, h.mv.mono s, h.ml⟩
end K11
/-! ## K11x -/
set_option Elab.async false
set_option linter.all false
set_option maxRecDepth 100000
set_option maxHeartbeats 4000000
namespace K11
open PySem PySem.Spec PyProof.Rows L2 He Vx

theorem room65 {A : Around} (r : Room 1 A) : A.units + 65 < cLine := by
  have := r.un
  omega
def spDeal : Sp := fun vs H Q _ => ∃ p : Addr, vs = [.ref p, .int 5, .int 9] ∧ Pot p H ∧ ∀ (n : Int) fs mk d f m H', Stp p H H' → DealAt (off p H') n fs mk d f m → Q (.ref d) H'
theorem off_keep {p a : Addr} {H H' : Hp} {o : HO} (n : a ≠ p) (s : Same (off p H) (off p H')) (e : H a = some o) : H' a = some o := by
  have q := s a o ((off_ne n).trans e)
  rwa [off_ne n] at q
theorem tup_ne {p b : Addr} {H : Hp} {xs : List V} (P : Pot p H) (e : H b = some (.tup xs)) : b ≠ p := by
  obtain ⟨i, j, ep, _⟩ := P
  exact ne_of e ep fun z => by cases z
theorem stp_none {p a : Addr} {H H' : Hp} (s : Stp p H H') (h : H' a = none) (n : a ≠ p) : H a = none := by
  cases e : H a with
  | none => rfl
  | some u =>
    have q := off_keep n s.k e
    rw [h] at q
    cases q
theorem Moves.stp {p : Addr} {H H' : Hp} {n : Int} {mk : List (Addr × List L2.Key)} (h : Moves H n mk) (P : Pot p H) (s : Stp p H H') : Moves H' n mk :=
  ⟨fun q hq => ⟨off_keep (tup_ne P (h.at_ q hq).1) s.k (h.at_ q hq).1, (h.at_ q hq).2⟩, h.nd⟩
section
variable {P : Program} {w : World} {K : PySem.W.Frag} {mg : Str → Option Value} {base : Heap}
theorem cd_deal (F : At K mg "_law_deal" s_law_deal) (T : BI mg) (c__law_draw : Cd P w K mg base 1 "_law_draw" ["_law_pot_here", "_law_many"] spDraw) (c__law_pick : Cd P w K mg base 2 "_law_pick" ["_law_pot_here", "_law_menu_here"] (spPick K)) (c__law_menu : Cd P w K mg base 2 "_law_menu" ["_law_pot_here"] spMenu1) :
    Cd P w K mg base 3 "_law_deal" ["_law_pot_here", "_law_most", "_law_wide"] spDeal := by
  refine cd_mk F sc_law_deal (fun vs H Q E h => ?_) (fun _ _ _ _ _ _ us hl => match us, hl with | [_, _, _], _ => rfl) (fun f cdv A outer s H vs Q E hr hG h => ?_)
  · obtain ⟨p, rfl, _⟩ := h
    rfl
  · obtain ⟨p, rfl, hP, k⟩ := h
    refine ⟨_, (pss_cons (ps_asg (pe_tup (pa_cons (pe_cd c__law_menu (hr.mono (by decide)) hG (by rfl) (pa_cons (pv 0) pa_nil)) (pa_cons (pe_op op_add pe_int (pe_cd c__law_draw (hr.mono (by decide)) hG (by rfl) (pa_cons (pv 0) (pa_cons (pv 1) pa_nil)))) (pa_cons (pe_lst pa_nil) pa_nil)))) (pg_tup (by rfl) (pgs_cons (pg_name (i := 3) sc_law_deal.nd rfl (Or.inl rfl)) (pgs_cons (pg_name (i := 4) sc_law_deal.nd rfl (Or.inr rfl)) (pgs_cons (pg_name (i := 5) sc_law_deal.nd rfl (Or.inl rfl)) pgs_nil)))))
  (pss_cons (ps_for PassesOwn.never rfl (pi_range1 (by rfl) T.range (pa_cons (pe_cd c__law_draw (hr.mono (by decide)) hG (by rfl) (pa_cons (pv 0) (pa_cons (pe_op op_add (pv 2) pe_int) pa_nil))) pa_nil)) (pg_name (i := 6) sc_law_deal.nd rfl (Or.inl rfl)) (pss_cons (ps_asg (pe_cd c__law_pick (hr.mono (by decide)) hG (by rfl) (pa_cons (pv 0) (pa_cons (pv 3) pa_nil))) (pg_tup (by rfl) (pgs_cons (pg_name (i := 7) sc_law_deal.nd rfl (Or.inl rfl)) (pgs_cons (pg_name (i := 8) sc_law_deal.nd rfl (Or.inl rfl)) pgs_nil))))
  (pss_cons (ps_set (i := 9) sc_law_deal.nd rfl (Or.inl rfl) (pe_tup (pa_cons (pe_cd c__law_draw (hr.mono (by decide)) hG (by rfl) (pa_cons (pv 0) (pa_cons (pv 4) pa_nil))) (pa_cons (pv 7) (pa_cons (pv 8) (pa_cons (pe_cd c__law_draw (hr.mono (by decide)) hG (by rfl) (pa_cons (pv 0) (pa_cons (pv 4) pa_nil))) pa_nil))))))
  (pss_one (ps_if (pt_cmpR (op_notInD (room65 (hr.mono (by decide)))) (pv 9) (pv 5) rfl) (pss_one (ps_expr (pe_bm PySem.F.plainAttrs_list PySem.F.slot_list_append PySem.F.type_list_append mt_append (pv 5) (pa_cons (pv 9) pa_nil)))) pss_nil)))))
  (pss_cons (ps_setLc (i := 10) (own := [("_law_turn", 6)]) (g := gName 6) (tt := tYes) (by rfl) sc_law_deal.nd rfl rfl (sw_true rfl rfl rfl (by decide +kernel)) (pi_range1 (by rfl) T.range (pa_cons (pe_op op_add pe_int (pe_cd c__law_draw (hr.mono (by decide)) hG (by rfl) (pa_cons (pv 0) (pa_cons pe_int pa_nil)))) pa_nil)) (blkOk_by (own := [("_law_turn", 6)]) (N := ["_law_pot_here", "_law_most", "_law_wide", "_law_menu_here", "_law_many", "_law_moves", "_law_turn", "_law_call", "_law_answer", "_law_move", "_law_firsts"]) (sc := defScope s_law_deal) (by decide +kernel)) (fun _ _ _ _ _ => pg_name (i := 6) sc_law_deal.nd rfl (Or.inl rfl)) (fun _ _ _ _ _ => pts_nil) (fun _ _ _ _ _ => (pe_cd c__law_draw (hr.mono (by decide)) hG (by rfl) (pa_cons (pv 0) (pa_cons (pv 4) pa_nil)))))
  (pss_one (ps_ret (pe_disp (pps_cons pe_str (pv 4) (pps_cons pe_str (pe_callB (cr_sortedSet rfl) (by rfl) T.sorted bt_sorted (pa_cons (pe_callTy (cr_setL rfl) (by rfl) T.set bt_set (pa_cons (pv 10) pa_nil)) pa_nil)) (pps_cons pe_str (pe_callB (cr_sortS hr.units) (by rfl) T.sorted bt_sorted (pa_cons (pv 5) pa_nil)) pps_nil))) (by rfl) (by rfl) (fun z => by cases z) (by decide))))))), ?_⟩
    refine ⟨_, rfl, p, rfl, hP, fun M ys H1 st1 eM l1 l6 gM => ?_⟩
    refine ⟨_, rfl, _, rfl, p, 5, rfl, st1.pot, by decide, by decide, fun d1 H2 st2 d10 d15 => ⟨1, d1, rfl, rfl, ?_⟩⟩
    dsimp only
    generalize hn : 1 + d1 = n
    have n1 : 1 ≤ n := by omega
    have n5 : n ≤ 5 := by omega
    have s02 := st1.trans st2
    refine ⟨by show 0 ≤ sizeLine; decide, fun m0 hm0 => ?_⟩
    have m0p : m0 ≠ p := s02.pot.new hm0
    refine ⟨by show 3 ≤ sizeLine; decide, fun aT hT => ?_⟩
    have m0T : m0 ≠ aT := fun z => by rw [← z, upd_same] at hT; cases hT
    have e3 : upd (upd H2 m0 (.lst [])) aT (.tup [.ref M, .int n, .ref m0]) m0 = some (.lst []) := by rw [upd_ne m0T, upd_same]
    have eT := upd_same (H := upd H2 m0 (.lst [])) (a := aT) (o := .tup [.ref M, .int n, .ref m0])
    have st3 : Stp p H2 (upd (upd H2 m0 (.lst [])) aT (.tup [.ref M, .int n, .ref m0])) := (stp_new s02.pot hm0).same (same_new hT)
    generalize upd (upd H2 m0 (.lst [])) aT (.tup [.ref M, .int n, .ref m0]) = H3 at e3 eT st3 ⊢
    refine ⟨aT, _, rfl, SqT.of eT, rfl, _, _, rfl, _, _, rfl, _, _, rfl, rfl, ?_⟩
    refine ⟨_, rfl, _, rfl, 9, 1, rfl, rfl, p, 10, rfl, st3.pot, by decide, by decide, fun cnt H4 st4 c0 c10 => ⟨cnt, rfl, by omega, by omega, ?_⟩⟩
    obtain ⟨ct, rfl⟩ : ∃ ct : Nat, cnt = (ct : Int) := ⟨cnt.toNat, by omega⟩
    rw [Int.toNat_natCast]
    refine for_range (lo := 0) (n := ct) (fun i σ H' => ∃ (o6 o7 o8 o9 : Option V) (mk : List (Addr × List L2.Key)), σ = [some (.ref p), some (.int 5), some (.int 9), some (.ref M), some (.int n), some (.ref m0), o6, o7, o8, o9, none] ∧ Stp p H2 H' ∧
      H' m0 = some (.lst (mk.map fun q => V.ref q.1)) ∧ Moves H' n mk ∧ mk.length ≤ i) ?_ (fun i σ H' hi z => ?_) (fun σ H' z => ?_)
    · exact ⟨none, none, none, none, [], rfl, st3.trans st4, off_keep m0p st4.k e3, ⟨(fun _ h => nomatch h), List.nodup_nil⟩, Nat.le_refl _⟩
    · obtain ⟨o6, o7, o8, o9, mk, rfl, st, em, mv, ml⟩ := z
      have gy : ∀ y ∈ ys, GoodSign (off p H') y := fun y hy => (gM y hy).mono (st2.trans st).k
      refine ⟨_, rfl, _, rfl, p, M, ys, rfl, st.pot, (SqL.of ((st2.trans st).k _ _ eM)), l1, by omega, fun x H5 st5 hx => ?_⟩
      obtain ⟨b5, c, z, rfl, eb, nc, nz⟩ := (gy x hx).mono st5.k
      refine ⟨b5, _, rfl, SqT.of (off_same _ _ eb), rfl, _, _, rfl, _, _, rfl, rfl, ?_⟩
      refine ⟨_, rfl, _, rfl, p, n, rfl, st5.pot, n1, by omega, fun s1 H6 st6 s0 sn => ⟨_, rfl, _, rfl, ⟨_, rfl, _, rfl, p, n, rfl, st6.pot, n1, by omega, fun t1 H7 st7 t0 tn => ⟨by show 4 ≤ sizeLine; decide, fun a9 h9 => ?_⟩⟩⟩⟩
      have st57 := (st5.trans st6).trans st7
      have S7 := st.trans st57
      have em7 := off_keep m0p st57.k em
      have mv7 := mv.stp st.pot st57
      have s8 : Same H7 (upd H7 a9 (.tup [.int s1, .str c, .str z, .int t1])) := same_new h9
      have e8 := upd_same (H := H7) (a := a9) (o := .tup [.int s1, .str c, .str z, .int t1])
      have S8 := S7.same s8
      generalize upd H7 a9 (.tup [.int s1, .str c, .str z, .int t1]) = H8 at s8 e8 S8 ⊢
      have em8 := s8 _ _ em7
      have mv8 := mv7.mono s8
      have mk9 : MvOk n [.inl s1, .inr c, .inr z, .inl t1] := ⟨s1, t1, c, z, rfl, s0, sn, t0, tn, nc, nz⟩
      refine ⟨_, rfl, _, rfl, keyT [.inl s1, .inr c, .inr z, .inl t1], (mk.map Prod.snd).map keyT, dp_key e8, .lst (SqL.of em8) (dp_moves fun q hq => (mv8.at_ q hq).1), keyT_shaped mk9.ok, keyTs_shaped (fun k hk => ?_), _, rfl, ?_⟩
      · obtain ⟨q, hq, rfl⟩ := List.mem_map.mp hk
        exact (mv8.at_ q hq).2.ok
      · cases ha : ((mk.map Prod.snd).map keyT).any fun zz => PyData.eqv zz (keyT [.inl s1, .inr c, .inr z, .inl t1]) with
        | true => exact iteF ⟨_, _, _, _, mk, rfl, S8, em8, mv8, by omega⟩
        | false =>
          have nk : [.inl s1, .inr c, .inr z, .inl t1] ∉ mk.map Prod.snd := fun h => by rw [(keyT_any _ _).mpr h] at ha; cases ha
          refine iteT ⟨_, rfl, .inl ⟨rfl, _, SqL.of em8⟩, _, rfl, m0, _, _, rfl, rfl, em8, by rw [List.length_map]; exact small1000 (by omega), ?_⟩
          refine ⟨_, _, _, _, mk ++ [(a9, [.inl s1, .inr c, .inr z, .inl t1])], rfl, S8.putD hm0 m0p, ?_, ⟨fun q hq => ?_, ?_⟩, by rw [List.length_append]; show mk.length + 1 ≤ i + 1; omega⟩
          · rw [upd_same, List.map_append]
            rfl
          · have ne : q.1 ≠ m0 ∧ H8 q.1 = some (.tup (q.2.map kV)) ∧ MvOk n q.2 := by
              rcases List.mem_append.mp hq with h | h
              · exact ⟨ne_of (mv8.at_ q h).1 em8 (fun z => by cases z), mv8.at_ q h⟩
              · cases List.mem_singleton.mp h
                exact ⟨ne_of e8 em8 (fun z => by cases z), e8, mk9⟩
            exact ⟨(upd_ne ne.1).trans ne.2.1, ne.2.2⟩
          · rw [List.map_append]
            refine List.nodup_append.mpr ⟨mv8.nd, by simp, fun a ha b hb => ?_⟩
            cases List.mem_singleton.mp hb
            exact fun e => nk (Eq.mp (congrArg (fun z => z ∈ mk.map Prod.snd) e) ha)
    · obtain ⟨o6, o7, o8, o9, mk, rfl, st, em, mv, ml⟩ := z
      refine ⟨_, rfl, p, 3, rfl, st.pot, by decide, by decide, fun d2 H8 st8 d20 d23 => ⟨1, d2, rfl, rfl, 1 + d2, rfl, by omega, by omega, fun D hD => ?_⟩⟩
      have S8 := st.trans st8
      have em8 := off_keep m0p st8.k em
      have mv8 := mv.stp st.pot st8
      obtain ⟨c2, hc2⟩ : ∃ c2 : Nat, 1 + d2 = (c2 : Int) := ⟨(1 + d2).toNat, by omega⟩
      rw [hc2, Int.toNat_natCast]
      have Dp : D ≠ p := S8.pot.new hD
      refine lc_range (lo := 0) (n := c2) (fun i H' => Stp p H8 H' ∧ ∃ zs : List Int, zs.length = i ∧ H' D = some (.lst (zs.map V.int)) ∧ ∀ z ∈ zs, 0 ≤ z ∧ z < n) ⟨stp_new S8.pot hD, [], rfl, upd_same, (fun _ h => nomatch h)⟩ (fun i H' hi z => ⟨by rfl, ?_⟩) (fun H9 z => ?_)
      · obtain ⟨st9, zs, lz, ez, gz⟩ := z
        refine ⟨_, rfl, _, rfl, p, n, rfl, st9.pot, n1, by omega, fun v H10 st10 v0 vn => ?_⟩
        refine ⟨_, off_keep Dp st10.k ez, by rw [List.length_map]; exact small1000 (by omega), (st9.trans st10).putD hD Dp, zs ++ [v], by rw [List.length_append, lz]; rfl, ?_, fun z hz => ?_⟩
        · rw [upd_same, List.map_append]
          rfl
        · rcases List.mem_append.mp hz with h | h
          · exact gz z h
          · cases List.mem_singleton.mp h
            exact ⟨v0, vn⟩
      · obtain ⟨st9, zs, lz, ez, gz⟩ := z
        have em9 := off_keep m0p st9.k em8
        have mv9 := mv8.stp S8.pot st9
        have S9 := S8.trans st9
        refine fun dc hdc => ?_
        have s10 : Same H9 (upd H9 dc (.dK [])) := same_new hdc
        have e10 := upd_same (H := H9) (a := dc) (o := .dK [])
        have dcp : dc ≠ p := S9.pot.new hdc
        have S10 := S9.same s10
        generalize upd H9 dc (.dK []) = H10 at s10 e10 S10 ⊢
        refine ⟨_, rfl, _, rfl, D, zs, rfl, SqL.of (s10 _ _ ez), by omega, fun pS nS hpS hle => ?_⟩
        refine ⟨pS, _, nS, rfl, upd_same, by omega, fun fs pf srt mem lf hpf => ?_⟩
        revert hpf
        generalize g11 : upd H10 pS _ = H11
        intro hpf
        have s11 : Same H10 H11 := g11 ▸ same_new hpS
        have S11 := S10.same s11
        have s12 : Same H11 (upd H11 pf (.lst (fs.map V.int))) := same_new hpf
        have e12 := upd_same (H := H11) (a := pf) (o := .lst (fs.map V.int))
        have S12 := S11.same s12
        have pfp : pf ≠ p := S11.pot.new hpf
        generalize upd H11 pf (.lst (fs.map V.int)) = H12 at s12 e12 S12 ⊢
        have s912 := s10.trans (s11.trans s12)
        have em12 := s912 _ _ em9
        have mv12 := mv9.mono s912
        refine ⟨_, rfl, m0, Addr × List L2.Key, mk, fun q => keyT q.2, fun q => V.ref q.1, rfl, .inl (SqL.of em12), fun q hq => da_key (mv12.at_ q hq).1, ?_, .inl fun d hd => ?_, fun q hq => ?_, fun pm hpm => ?_⟩
        · intro x hx y hy
          obtain ⟨q, hq, rfl⟩ := List.mem_map.mp hx
          obtain ⟨r, hr, rfl⟩ := List.mem_map.mp hy
          obtain ⟨_, _, _, _, e1, _⟩ := (mv12.at_ q hq).2
          obtain ⟨_, _, _, _, e2, _⟩ := (mv12.at_ r hr).2
          rw [e1, e2]
          simp [keyT, keyD, PySem.W.alike, PySem.W.alikeAll]
        · obtain ⟨q, hq, rfl⟩ := List.mem_map.mp hd
          obtain ⟨_, _, _, _, e1, _⟩ := (mv12.at_ q hq).2
          rw [e1]
          exact ⟨_, _, rfl⟩
        · rw [keyT_depth]
          decide
        · generalize hmk : mk.mergeSort (PySem.W.dataLe false fun q => keyT q.2) = mk2
          have pm2 : mk2.Perm mk := hmk ▸ List.mergeSort_perm _ _
          have s13 : Same H12 (upd H12 pm (.lst (mk2.map fun q => V.ref q.1))) := same_new hpm
          have e13 := upd_same (H := H12) (a := pm) (o := .lst (mk2.map fun q => V.ref q.1))
          have S13 := S12.same s13
          have pmp : pm ≠ p := S12.pot.new hpm
          generalize upd H12 pm (.lst (mk2.map fun q => V.ref q.1)) = H13 at s13 e13 S13 ⊢
          have s1013 := s11.trans (s12.trans s13)
          refine ⟨s1013 _ _ e10, [(.inr "many", .int n), (.inr "firsts", .ref pf), (.inr "moves", .ref pm)], rfl, (by show 3 ≤ 15; decide), ?_⟩
          have e14 : upd H13 dc (.dK (mergeK [] [(.inr "many", .int n), (.inr "firsts", .ref pf), (.inr "moves", .ref pm)])) dc = some (.dK [(.inr "many", .int n), (.inr "firsts", .ref pf), (.inr "moves", .ref pm)]) := by
            rw [upd_same]
            rfl
          have S14 : Stp p H2 (upd H13 dc (.dK (mergeK [] [(.inr "many", .int n), (.inr "firsts", .ref pf), (.inr "moves", .ref pm)]))) := S13.putD (stp_none S9 hdc dcp) dcp
          have keep : ∀ c u, H13 c = some u → u ≠ .dK [] → upd H13 dc (.dK (mergeK [] [(.inr "many", .int n), (.inr "firsts", .ref pf), (.inr "moves", .ref pm)])) c = some u := fun c u e ne => by
            rw [upd_ne (ne_of e (s1013 _ _ e10) ne)]
            exact e
          generalize upd H13 dc (.dK (mergeK [] [(.inr "many", .int n), (.inr "firsts", .ref pf), (.inr "moves", .ref pm)])) = H14 at e14 S14 keep ⊢
          have zf : ∀ i, i ∈ fs → i ∈ zs := fun i h => of_decide_eq_true ((mem i).mp h)
          refine k n fs mk2 dc pf pm H14 (s02.trans S14) ⟨(off_ne dcp).trans e14, (off_ne pfp).trans (keep _ _ (s13 _ _ e12) fun z => by cases z), (off_ne pmp).trans (keep _ _ e13 fun z => by cases z), n1, n5, ?_, by omega, ?_, fun i hi => gz i (zf i hi), ⟨fun q hq => ?_, ?_⟩, ?_⟩
          · intro z
            have h0 : zs.length = c2 := lz
            obtain ⟨v, hv⟩ : ∃ v, v ∈ zs := by
              cases zs with
              | nil => exact absurd h0 (by rw [List.length_nil]; omega)
              | cons v _ => exact ⟨v, List.mem_cons_self ..⟩
            have := (mem v).mpr (decide_eq_true hv)
            rw [z] at this
            cases this
          · exact srt.imp fun h => Int.ne_of_lt h
          · have hq' := pm2.mem_iff.mp hq
            have e := s13 _ _ (mv12.at_ q hq').1
            exact ⟨(off_ne (tup_ne S13.pot e)).trans (keep _ _ e fun z => by cases z), (mv12.at_ q hq').2⟩
          · exact (pm2.map Prod.snd).nodup_iff.mpr mv12.nd
          · rw [pm2.length_eq]
            omega
end
end K11
/-! ## K11y -/
set_option Elab.async false
set_option linter.all false
set_option maxRecDepth 100000
set_option maxHeartbeats 4000000
namespace K11
open PySem PySem.Spec PyProof.Rows L2 He Vx

/-- values that are no number of states -/
def oddMany : List PyData := [.int 0, .int (-1), .none, .bool true, .bool false, .str "2", .list [.int 1], .tuple [.int 1], .dict [], .str "", .int (0 - 10 ^ 29), .tuple [], .list []]
def spOddMany (K : PySem.W.Frag) : Sp := fun vs H Q _ => ∃ p : Addr, vs = [.ref p] ∧ Pot p H ∧ ∀ (x : V) (d : PyData) H', Stp p H H' → Da K (off p H') x d → d ∈ oddMany → Q x H'
section
variable {P : Program} {w : World} {K : PySem.W.Frag} {mg : Str → Option Value} {base : Heap}
theorem cd_odd_many (F : At K mg "_law_odd_many" s_law_odd_many) (c__law_pick : Cd P w K mg base 2 "_law_pick" ["_law_pot_here", "_law_menu_here"] (spPick K)) : Cd P w K mg base 3 "_law_odd_many" ["_law_pot_here"] (spOddMany K) := by
  refine cd_mk F sc_law_odd_many (fun vs H Q E h => ?_) (fun _ _ _ _ _ _ us hl => match us, hl with | [_], _ => rfl) (fun f cdv A outer s H vs Q E hr hG h => ?_)
  · obtain ⟨p, rfl, _⟩ := h
    rfl
  · obtain ⟨p, rfl, hP, k⟩ := h
    refine ⟨_, (pss_one (ps_ret (pe_cd c__law_pick (hr.mono (by decide)) hG (by rfl) (pa_cons (pv 0) (pa_cons (pe_lst (pa_cons pe_int (pa_cons (pe_un un_neg pe_int) (pa_cons pe_non (pa_cons pe_bl (pa_cons pe_bl (pa_cons pe_str (pa_cons (pe_lst (pa_cons pe_int pa_nil)) (pa_cons (pe_tup (pa_cons pe_int pa_nil)) (pa_cons pe_dnewK (pa_cons pe_str (pa_cons (pe_op op_sub pe_int (pe_op op_pow pe_int pe_int)) (pa_cons (pe_tup pa_nil) (pa_cons (pe_lst pa_nil) pa_nil)))))))))))))) pa_nil))))), ?_⟩
    refine ⟨_, rfl, _, rfl, (by show 1 ≤ sizeLine; decide), fun a1 n1 => ?_⟩
    generalize g1 : upd H a1 _ = H1
    have s1 : Same H H1 := g1 ▸ same_new n1
    have e1 := g1 ▸ upd_same (H := H) (a := a1)
    clear g1
    refine ⟨by show 1 ≤ sizeLine; decide, fun a2 n2 => ?_⟩
    generalize g2 : upd H1 a2 _ = H2
    have s2 : Same H1 H2 := g2 ▸ same_new n2
    have e2 := g2 ▸ upd_same (H := H1) (a := a2)
    clear g2
    refine fun a3 n3 => ?_
    generalize g3 : upd H2 a3 _ = H3
    have s3 : Same H2 H3 := g3 ▸ same_new n3
    have e3 := g3 ▸ upd_same (H := H2) (a := a3)
    clear g3
    refine ⟨_, _, rfl, rfl, ⟨by decide, by decide, by decide⟩, _, _, rfl, rfl, by show 0 ≤ sizeLine; decide, fun a4 n4 => ?_⟩
    generalize g4 : upd H3 a4 _ = H4
    have s4 : Same H3 H4 := g4 ▸ same_new n4
    have e4 := g4 ▸ upd_same (H := H3) (a := a4)
    clear g4
    refine ⟨by show 0 ≤ sizeLine; decide, fun a5 n5 => ?_⟩
    generalize g5 : upd H4 a5 _ = H5
    have s5 : Same H4 H5 := g5 ▸ same_new n5
    have e5 := g5 ▸ upd_same (H := H4) (a := a5)
    clear g5
    refine ⟨by show 13 ≤ sizeLine; decide, fun a6 n6 => ?_⟩
    generalize g6 : upd H5 a6 _ = H6
    have s6 : Same H5 H6 := g6 ▸ same_new n6
    have e6 := g6 ▸ upd_same (H := H5) (a := a6)
    clear g6
    have T5 := s6
    have T4 := s5.trans T5
    have T3 := s4.trans T4
    have T2 := s3.trans T3
    have T1 := s2.trans T2
    have P1 := hP.keep s1
    have P2 := P1.keep s2
    have P3 := P2.keep s3
    have P4 := P3.keep s4
    have P5 := P4.keep s5
    have P6 := P5.keep s6
    have o1 : off p H6 a1 = some (.lst [.int 1]) := (off_ne (hP.new n1)).trans (T1 _ _ e1)
    have o2 : off p H6 a2 = some (.tup [.int 1]) := (off_ne (P1.new n2)).trans (T2 _ _ e2)
    have o3 : off p H6 a3 = some (.dK []) := (off_ne (P2.new n3)).trans (T3 _ _ e3)
    have o4 : off p H6 a4 = some (.tup []) := (off_ne (P3.new n4)).trans (T4 _ _ e4)
    have o5 : off p H6 a5 = some (.lst []) := (off_ne (P4.new n5)).trans (T5 _ _ e5)
    have o6 := (off_ne (P5.new n6)).trans e6
    have D : Das K (off p H6) [.int 0, .int (-1), .non, .bl true, .bl false, .str "2", .ref a1, .ref a2, .ref a3, .str "", .int (0 - 10 ^ 29), .ref a4, .ref a5] oddMany :=
      .cons (.int _) (.cons (.int _) (.cons .non (.cons (.bl _) (.cons (.bl _) (.cons (.str _) (.cons (.lst (SqL.of o1) (.cons (.int _) .nil)) (.cons (.tup (SqT.of o2) (.cons (.int _) .nil))
        (.cons (.dK o3 .nil) (.cons (.str _) (.cons (.int _) (.cons (.tup (SqT.of o4) .nil) (.cons (.lst (SqL.of o5) .nil) .nil))))))))))))
    refine ⟨p, a6, _, rfl, P6, SqL.of o6, by show 1 ≤ 13; omega, by show 13 ≤ 1000; omega, fun x H' st hx => ?_⟩
    obtain ⟨d, hd, q⟩ := D.mem hx
    exact k x d H' (((Stp.refl hP).same (s1.trans T1)).trans st) (q.mono st.k) hd
theorem odd_many_facts : ∀ d ∈ oddMany, okD d = true ∧ d.showable = true ∧ d.depth ≤ 20 ∧ d.shown.length ≤ 60 ∧ PyData.strOk d.shown = true := by decide +kernel
theorem odd_many_none : ∀ d ∈ oddMany, (match d with
  | .int i => if 1 ≤ i then some i else none
  | _ => (none : Option Int)) = none := by decide +kernel
end
end K11
/-! ## G31 -/
set_option Elab.async false
set_option linter.all false
set_option maxRecDepth 100000
set_option maxHeartbeats 4000000
namespace Vx
open PySem PySem.Spec PyProof.Rows L2 He
/-! ### data, just as it is told -/
section
variable {K : PySem.W.Frag} {p : Addr} {H0 : Hp} {σ : L2.St}
/-- te makes the data d, changing nothing that stands -/
def MkD (K : PySem.W.Frag) (p : Addr) (H0 : Hp) (σ : L2.St) (te : TE) (d : PyData) : Prop :=
  ∀ H (R : VK), Same H0 H → Pot p H → (∀ x H', Same H H' → Da K (off p H') x d → R x H') → te σ H R
def MkDs (K : PySem.W.Frag) (p : Addr) (H0 : Hp) (σ : L2.St) (tas : TA) (ds : List PyData) : Prop :=
  ∀ H (R : List V → Hp → Prop), Same H0 H → Pot p H → (∀ xs H', Same H H' → Das K (off p H') xs ds → R xs H') → tas σ H R
theorem mkd_nil : MkDs K p H0 σ tNil [] := fun H R _ _ q => q [] H (Same.refl H) .nil
theorem mkd_cons {te : TE} {tas : TA} {d : PyData} {ds : List PyData} (h : MkD K p H0 σ te d) (hs : MkDs K p H0 σ tas ds) : MkDs K p H0 σ (tCons te tas) (d :: ds) := fun H R s P q =>
  h H _ s P fun x H1 s1 e => hs H1 _ (s.trans s1) (P.keep s1) fun xs H2 s2 es => q (x :: xs) H2 (s1.trans s2) (.cons (e.mono (same_off s2)) es)
theorem mkd_c {v : V} {d : PyData} (h : ∀ H, Da K H v d) : MkD K p H0 σ (tC v) d := fun H R _ _ q => q v H (Same.refl H) (h _)
theorem mkd_int {i : Int} : MkD K p H0 σ (tC (.int i)) (.int i) := mkd_c fun _ => .int i
theorem mkd_str {z : Str} : MkD K p H0 σ (tC (.str z)) (.str z) := mkd_c fun _ => .str z
theorem mkd_bl {b : Bool} : MkD K p H0 σ (tC (.bl b)) (.bool b) := mkd_c fun _ => .bl b
theorem mkd_non : MkD K p H0 σ (tC .non) .none := mkd_c fun _ => .non
theorem mkd_var {i : Nat} {v : V} {d : PyData} (hv : σ[i]? = some (some v)) (h : Da K (off p H0) v d) : MkD K p H0 σ (tVar i) d := fun H R s P q => ⟨v, hv, q v H (Same.refl H) (h.mono (same_off s))⟩
theorem mkd_lst {tas : TA} {ds : List PyData} (h : MkDs K p H0 σ tas ds) (hn : ds.length ≤ 1000) : MkD K p H0 σ (tLst tas) (.list ds) := fun H R s P q =>
  h H _ s P fun xs H1 s1 es => ⟨by rw [es.len]; exact Nat.le_of_lt (small1000 hn), fun a ha => q _ _ (s1.trans (same_new ha)) (Da.newL (P.keep s1) ha es)⟩
theorem mkd_tup {tas : TA} {ds : List PyData} (h : MkDs K p H0 σ tas ds) (hn : ds.length ≤ 1000) : MkD K p H0 σ (tTup tas) (.tuple ds) := fun H R s P q =>
  h H _ s P fun xs H1 s1 es => ⟨by rw [es.len]; exact Nat.le_of_lt (small1000 hn), fun a ha => q _ _ (s1.trans (same_new ha)) (Da.newT (P.keep s1) ha es)⟩
theorem mkd_neg {j : Int} : MkD K p H0 σ (tUn (rU fun i => .int (-i)) (tC (.int j))) (.int (-j)) := fun H R _ _ q => ⟨_, rfl, q _ H (Same.refl H) (.int _)⟩
theorem mkd_pow {i j : Int} (h : CPow i j) : MkD K p H0 σ (tOp (rI CPow fun i j => .int (i ^ j.toNat)) (tC (.int i)) (tC (.int j))) (.int (i ^ j.toNat)) := fun H R _ _ q => ⟨_, _, rfl, rfl, h, q _ H (Same.refl H) (.int _)⟩
theorem mkd_add {i : Nat} {n j : Int} (hv : σ[i]? = some (some (.int n))) : MkD K p H0 σ (tOp (rI0 fun i j => .int (i + j)) (tVar i) (tC (.int j))) (.int (n + j)) := fun H R _ _ q => ⟨_, hv, _, _, rfl, rfl, q _ H (Same.refl H) (.int _)⟩
theorem mkd_dnew : MkD K p H0 σ tDNewK (.dict []) := fun H R _ P q a ha => q _ _ (same_new ha) (.dK (off_new P ha) .nil)
theorem same_two {H : Hp} {a : Addr} {o u : HO} (h : H a = none) : Same H (upd (upd H a o) a u) := by
  rw [upd_upd]
  exact same_new h
theorem mkd_disp {i j : Int} : MkD K p H0 σ (tDisp [(tC (.int i), tC (.int j))]) (.dict [(.int i, .int j)]) := fun H R _ P q a ha => by
  refine ⟨upd_same, [(.inl i, .int j)], rfl, by show 1 ≤ 15; decide, ?_⟩
  refine q _ _ (same_two ha) (Da.dK (kvs := [(.inl i, .int j)]) ?_ (.cons (.int _) .nil))
  rw [off_ne (P.new ha), upd_same]
  rfl
/-- [..] + xs -/
theorem cat_d {tas : TA} {ds : List PyData} {i : Nat} {g : Addr} {gs : List V} {Q : VK} (hv : σ[i]? = some (some (.ref g))) (e : H0 g = some (.lst gs)) (P : Pot p H0) (h : MkDs K p H0 σ tas ds) (hl : ds.length + gs.length ≤ 1000)
    (q : ∀ a xs H', Same H0 H' → off p H' a = some (.lst (xs ++ gs)) → Das K (off p H') xs ds → Q (.ref a) H') : tOp rCat (tLst tas) (tVar i) σ H0 Q := by
  refine h H0 _ (Same.refl _) P fun xs H1 s1 es => ?_
  have l := es.len
  refine ⟨by rw [l]; exact Nat.le_of_lt (small1000 (by omega)), fun a ha => ⟨_, hv, ?_⟩⟩
  refine ⟨a, g, xs, gs, rfl, rfl, upd_same, (same_new ha) _ _ (s1 _ _ e), Nat.le_of_lt (small1000 (by omega)), fun b hb => ?_⟩
  have s2 := (same_new ha (o := .lst xs)).trans (same_new hb (o := .lst (xs ++ gs)))
  exact q b xs _ (s1.trans s2) (off_new ((P.keep s1).keep (same_new ha)) hb) (es.mono (same_off s2))
/-- a menu: its data, told by place -/
theorem lst_d {tas : TA} {ds : List PyData} {Q : VK} (P : Pot p H0) (h : MkDs K p H0 σ tas ds) (hl : ds.length ≤ 1000) (q : ∀ a xs H', Same H0 H' → off p H' a = some (.lst xs) → Das K (off p H') xs ds → Q (.ref a) H') : tLst tas σ H0 Q :=
  h H0 _ (Same.refl _) P fun xs H1 s1 es => ⟨by rw [es.len]; exact Nat.le_of_lt (small1000 hl), fun a ha => q a xs _ (s1.trans (same_new ha)) (off_new (P.keep s1) ha) (es.mono (same_off (same_new ha)))⟩
end
end Vx
/-! ## K11i -/
set_option Elab.async false
set_option linter.all false
set_option maxRecDepth 100000
set_option maxHeartbeats 4000000
namespace K11
open PySem PySem.Spec PyProof.Rows L2 He Vx
/-- v is the data d; if d has the shape of a move, it stands as its tuple -/
structure Pk (K : PySem.W.Frag) (H : Hp) (v : V) (d : PyData) : Prop where
  da : Da K H v d
  tp : ∀ (s t : Int) (c z : Str), d = .tuple [.int s, .str c, .str z, .int t] → ∃ b : Addr, v = .ref b ∧ H b = some (.tup [.int s, .str c, .str z, .int t])
section
variable {K : PySem.W.Frag} {H H' : Hp}
theorem Pk.mono {v : V} {d : PyData} (h : Pk K H v d) (s : Same H H') : Pk K H' v d := ⟨h.da.mono s, fun a t c z e => by
  obtain ⟨b, e1, e2⟩ := h.tp a t c z e
  exact ⟨b, e1, s _ _ e2⟩⟩
abbrev Pks (K : PySem.W.Frag) (H : Hp) : List V → List PyData → Prop := Paired (Pk K H)
theorem Pks.mono {xs : List V} {ds : List PyData} (h : Pks K H xs ds) (s : Same H H') : Pks K H' xs ds := paired_imp h fun _ _ q => q.mono s
theorem Pks.das : ∀ {xs : List V} {ds : List PyData}, Pks K H xs ds → Das K H xs ds
  | _, _, .nil => .nil
  | _, _, .cons h r => .cons h.da (Pks.das r)
theorem Pk.non : Pk K H .non .none := ⟨.non, fun _ _ _ _ e => by cases e⟩
end
section
variable {K : PySem.W.Frag} {p g : Addr} {H : Hp} {σ : L2.St} {D : Ends} {gs : List V} {gd : List PyData} {x : V} {bd : PyData} {o1 o2 : Option V}
/-- good + [bad] + one of [], [bad], [None], good; then as a list or a tuple, and how many are good -/
theorem made_read (hP : Pot p H) (eg0 : off p H g = some (.lst gs)) (pg : Pks K (off p H) gs gd) (px : Pk K (off p H) x bd) (lg : gs.length ≤ 100)
    (q : ∀ (t : Addr) (y : V) (e : PyData) (xs : List V) (ds tl : List PyData) (a : Addr) H', Stp p H H' → off p H' t = some (.tup [y, .int (gs.length : Nat)]) → y = .ref a → ds = gd ++ bd :: tl → Pks K (off p H') xs ds →
      ((off p H' a = some (.lst xs) ∧ e = .list ds) ∨ (off p H' a = some (.tup xs) ∧ e = .tuple ds)) → (∀ d ∈ tl, d = bd ∨ d = .none ∨ d ∈ gd) → tl.length ≤ gd.length + 1 → D.rt (.ref t) H') :
    tSeq (tAsg (tOp rCat (tOp rCat (tVar 3) (tLst (tCons (tVar 4) tNil))) (tCall (spPick K) [] E0 (tCons (tVar 0) (tCons (tLst (tCons (tLst tNil) (tCons (tLst (tCons (tVar 4) tNil)) (tCons (tLst (tCons (tC .non) tNil)) (tCons (tVar 3) tNil))))) tNil)))) (gName 5))
      (tRet (tTup (tCons (tCall (spPick K) [] E0 (tCons (tVar 0) (tCons (tLst (tCons (tVar 5) (tCons (tCB (fun xs H Q => ∃ p ys, xs = [V.ref p] ∧ ((SqL K H p ys ∧ ∀ l, H l = none → Q (V.ref l) (upd H l (.tup ys))) ∨ (SqT K H p ys ∧ Q (V.ref p) H))) (tCons (tVar 5) tNil)) tNil))) tNil)))
        (tCons (tCB (fun xs H Q => ∃ p ys, xs = [V.ref p] ∧ (SqL K H p ys ∨ SqT K H p ys) ∧ Q (V.int (ys.length : Nat)) H) (tCons (tVar 3) tNil)) tNil)))) D [some (.ref p), o1, o2, some (.ref g), some x, none] H := by
  obtain ⟨gp, eg⟩ := off_some eg0
  have lgd : gd.length = gs.length := (paired_len pg).symm
  refine ⟨_, rfl, _, rfl, by show 1 ≤ sizeLine; decide, fun l1 n1 => ?_⟩
  generalize g1 : upd H l1 _ = H1
  have s1 : Same H H1 := g1 ▸ same_new n1
  have e1 := g1 ▸ upd_same (H := H) (a := l1)
  clear g1
  have P1 := hP.keep s1
  refine ⟨g, l1, gs, [x], rfl, rfl, s1 _ _ eg, e1, Nat.le_of_lt (small1000 (by show gs.length + 1 ≤ 1000; omega)), fun l2 n2 => ?_⟩
  generalize g2 : upd H1 l2 _ = H2
  have s2 : Same H1 H2 := g2 ▸ same_new n2
  have e2 := g2 ▸ upd_same (H := H1) (a := l2)
  clear g2
  have P2 := P1.keep s2
  have l2p : l2 ≠ p := P1.new n2
  refine ⟨_, rfl, by show 0 ≤ sizeLine; decide, fun b1 m1 => ?_⟩
  generalize g3 : upd H2 b1 _ = H3
  have s3 : Same H2 H3 := g3 ▸ same_new m1
  have e3 := g3 ▸ upd_same (H := H2) (a := b1)
  clear g3
  refine ⟨_, rfl, by show 1 ≤ sizeLine; decide, fun b2 m2 => ?_⟩
  generalize g4 : upd H3 b2 _ = H4
  have s4 : Same H3 H4 := g4 ▸ same_new m2
  have e4 := g4 ▸ upd_same (H := H3) (a := b2)
  clear g4
  refine ⟨by show 1 ≤ sizeLine; decide, fun b3 m3 => ?_⟩
  generalize g5 : upd H4 b3 _ = H5
  have s5 : Same H4 H5 := g5 ▸ same_new m3
  have e5 := g5 ▸ upd_same (H := H4) (a := b3)
  clear g5
  refine ⟨_, rfl, by show 4 ≤ sizeLine; decide, fun b4 m4 => ?_⟩
  generalize g6 : upd H5 b4 _ = H6
  have s6 : Same H5 H6 := g6 ▸ same_new m4
  have e6 := g6 ▸ upd_same (H := H5) (a := b4)
  clear g6
  have P3 := P2.keep s3
  have P4 := P3.keep s4
  have P5 := P4.keep s5
  have P6 := P5.keep s6
  have S02 := s1.trans s2
  have S26 := s3.trans (s4.trans (s5.trans s6))
  have S06 := S02.trans S26
  have q1 : off p H6 b1 = some (.lst []) := (off_ne (P2.new m1)).trans ((s4.trans (s5.trans s6)) _ _ e3)
  have q2 : off p H6 b2 = some (.lst [x]) := (off_ne (P3.new m2)).trans ((s5.trans s6) _ _ e4)
  have q3 : off p H6 b3 = some (.lst [.non]) := (off_ne (P4.new m3)).trans (s6 _ _ e5)
  have q4 : off p H6 g = some (.lst gs) := (off_ne gp).trans (S06 _ _ eg)
  have q5 : off p H6 l2 = some (.lst (gs ++ [x])) := (off_ne l2p).trans (S26 _ _ e2)
  refine ⟨p, b4, _, rfl, P6, SqL.of ((off_ne (P5.new m4)).trans e6), by show 1 ≤ 4; decide, by show 4 ≤ 1000; decide, fun y H7 st7 hy => ?_⟩
  have pg7 := (pg.mono (same_off S06)).mono st7.k
  have px7 := (px.mono (same_off S06)).mono st7.k
  obtain ⟨a, tv, td, rfl, ea, pt, mt, lt⟩ : ∃ (a : Addr) (tv : List V) (td : List PyData), y = .ref a ∧ off p H7 a = some (.lst tv) ∧ Pks K (off p H7) tv td ∧ (∀ d ∈ td, d = bd ∨ d = .none ∨ d ∈ gd) ∧ td.length ≤ gd.length + 1 := by
    rcases List.mem_cons.mp hy with rfl | hy
    · exact ⟨b1, [], [], rfl, st7.k _ _ q1, .nil, (fun _ h => nomatch h), Nat.zero_le _⟩
    rcases List.mem_cons.mp hy with rfl | hy
    · refine ⟨b2, [x], [bd], rfl, st7.k _ _ q2, .cons px7 .nil, fun d hd => ?_, by show 1 ≤ gd.length + 1; omega⟩
      exact .inl (List.mem_singleton.mp hd)
    rcases List.mem_cons.mp hy with rfl | hy
    · refine ⟨b3, [.non], [.none], rfl, st7.k _ _ q3, .cons Pk.non .nil, fun d hd => ?_, by show 1 ≤ gd.length + 1; omega⟩
      exact .inr (.inl (List.mem_singleton.mp hd))
    · cases List.mem_singleton.mp hy
      exact ⟨g, gs, gd, rfl, st7.k _ _ q4, pg7, fun d hd => .inr (.inr hd), by omega⟩
  have ltv : tv.length = td.length := paired_len pt
  have e27 := (off_some (st7.k _ _ q5)).2
  refine ⟨l2, a, gs ++ [x], tv, rfl, rfl, e27, (off_some ea).2, Nat.le_of_lt (small1000 (by rw [List.length_append]; show gs.length + 1 + tv.length ≤ 1000; omega)), fun l5 n5 => ?_⟩
  generalize g8 : upd H7 l5 _ = H8
  have s8 : Same H7 H8 := g8 ▸ same_new n5
  have e8 := g8 ▸ upd_same (H := H7) (a := l5)
  clear g8
  have P8 := st7.pot.keep s8
  have q8 : off p H8 l5 = some (.lst (gs ++ [x] ++ tv)) := (off_ne (st7.pot.new n5)).trans e8
  have pks8 : Pks K (off p H8) (gs ++ [x] ++ tv) (gd ++ bd :: td) := by
    rw [List.append_assoc]
    exact paired_app (pg7.mono (same_off s8)) (.cons (px7.mono (same_off s8)) (pt.mono (same_off s8)))
  refine ⟨_, rfl, _, rfl, _, rfl, l5, _, rfl, .inl ⟨SqL.of e8, fun l6 n6 => ?_⟩⟩
  generalize g9 : upd H8 l6 _ = H9
  have s9 : Same H8 H9 := g9 ▸ same_new n6
  have e9 := g9 ▸ upd_same (H := H8) (a := l6)
  clear g9
  have P9 := P8.keep s9
  refine ⟨by show 2 ≤ sizeLine; decide, fun b7 n7 => ?_⟩
  generalize g10 : upd H9 b7 _ = H10
  have s10 : Same H9 H10 := g10 ▸ same_new n7
  have e10 := g10 ▸ upd_same (H := H9) (a := b7)
  clear g10
  have P10 := P9.keep s10
  have s810 := s9.trans s10
  have q10 : off p H10 l5 = some (.lst (gs ++ [x] ++ tv)) := same_off s810 _ _ q8
  have q11 : off p H10 l6 = some (.tup (gs ++ [x] ++ tv)) := (off_ne (P8.new n6)).trans (s10 _ _ e9)
  refine ⟨p, b7, _, rfl, P10, SqL.of ((off_ne (P9.new n7)).trans e10), by show 1 ≤ 2; decide, by show 2 ≤ 1000; decide, fun y H11 st11 hy => ?_⟩
  have g11 := (off_some (st11.k _ _ (same_off s810 _ _ (same_off s8 _ _ (st7.k _ _ q4))))).2
  refine ⟨_, rfl, g, gs, rfl, .inl (SqL.of g11), by show 2 ≤ sizeLine; decide, fun t nt => ?_⟩
  have st := ((((Stp.refl hP).same S06).trans st7).same (s8.trans s810)).trans st11
  have fin : ∀ (a : Addr) (e : PyData), y = .ref a → ((off p H11 a = some (.lst (gs ++ [x] ++ tv)) ∧ e = .list (gd ++ bd :: td)) ∨ (off p H11 a = some (.tup (gs ++ [x] ++ tv)) ∧ e = .tuple (gd ++ bd :: td))) → D.rt (.ref t) (upd H11 t (.tup [y, .int (gs.length : Nat)])) := fun a e ey h =>
    q t y e (gs ++ [x] ++ tv) (gd ++ bd :: td) td a _ (st.same (same_new nt)) (off_new st11.pot nt) ey rfl (((pks8.mono (same_off s810)).mono st11.k).mono (same_off (same_new nt))) (h.imp (fun z => ⟨same_off (same_new nt) _ _ z.1, z.2⟩) fun z => ⟨same_off (same_new nt) _ _ z.1, z.2⟩) mt lt
  rcases List.mem_cons.mp hy with rfl | hy
  · exact fin l5 _ rfl (.inl ⟨st11.k _ _ q10, rfl⟩)
  · cases List.mem_singleton.mp hy
    exact fin l6 _ rfl (.inr ⟨st11.k _ _ q11, rfl⟩)
end
end K11
/-! ## K11o -/
set_option Elab.async false
set_option linter.all false
set_option maxRecDepth 100000
set_option maxHeartbeats 4000000
namespace K11
open PySem PySem.Spec PyProof.Rows L2 He Vx

theorem fwk_good {κ : Type} [DecidableEq κ] : ∀ {gs seen : List κ} {b : Option κ} {tl : List (Option κ)} {i : Nat}, gs.Nodup → (∀ g ∈ gs, g ∉ seen) → (b = none ∨ ∃ k, b = some k ∧ (k ∈ gs ∨ k ∈ seen)) → fwk seen (gs.map some ++ b :: tl) i = some (i + gs.length)
  | [], seen, b, tl, i, _, _, h => by
    rcases h with rfl | ⟨k, rfl, hk⟩
    · show fwk seen (none :: tl) i = some (i + 0)
      rw [fwk]
      rfl
    · rcases hk with hk | hk
      · exact nomatch hk
      · show fwk seen (some k :: tl) i = some (i + 0)
        rw [fwk, if_pos hk]
        rfl
  | g :: gs, seen, b, tl, i, nd, ns, h => by
    obtain ⟨n1, n2⟩ := List.nodup_cons.mp nd
    show fwk seen (some g :: (gs.map some ++ b :: tl)) i = some (i + (gs.length + 1))
    have ih := fwk_good (gs := gs) (seen := seen ++ [g]) (b := b) (tl := tl) (i := i + 1) n2 (fun z hz hm => by
      rcases List.mem_append.mp hm with q | q
      · exact ns z (List.mem_cons_of_mem _ hz) q
      · exact n1 (List.mem_singleton.mp q ▸ hz)) (by
      rcases h with h | ⟨k, e, hk | hk⟩
      · exact .inl h
      · rcases List.mem_cons.mp hk with rfl | hk
        · exact .inr ⟨_, e, .inr (List.mem_append_right _ (List.mem_singleton.mpr rfl))⟩
        · exact .inr ⟨k, e, .inl hk⟩
      · exact .inr ⟨k, e, .inr (List.mem_append_left _ hk)⟩)
    rw [fwk, if_neg (ns g (List.mem_cons_self ..)), ih]
    congr 1
    omega
def toI : V → Int
  | .int i => i
  | _ => 0
theorem rg_ints {n : Int} {ys : List V} (h : ys.Perm (L2.rgV 0 n)) : ∃ zs : List Int, ys = zs.map V.int ∧ zs.Nodup ∧ (∀ z ∈ zs, 0 ≤ z ∧ z < n) ∧ zs.length = n.toNat := by
  have e0 : L2.rgV 0 n = ((List.range n.toNat).map fun i : Nat => (i : Int)).map V.int := by
    unfold L2.rgV
    rw [List.map_map, Int.sub_zero]
    refine List.map_congr_left fun i _ => ?_
    show V.int (0 + (i : Int)) = V.int (i : Int)
    rw [Int.zero_add]
  rw [e0] at h
  have e1 : ys = (ys.map toI).map V.int := by
    rw [List.map_map]
    refine (List.map_id _).symm.trans (List.map_congr_left fun y hy => ?_)
    obtain ⟨i, _, rfl⟩ := List.mem_map.mp (h.mem_iff.mp hy)
    rfl
  have e2 : (ys.map toI).Perm ((List.range n.toNat).map fun i : Nat => (i : Int)) := by
    have q := h.map toI
    rw [List.map_map] at q
    have e3 : ((List.range n.toNat).map fun i : Nat => (i : Int)).map (toI ∘ V.int) = (List.range n.toNat).map fun i : Nat => (i : Int) := List.map_id _
    rw [e3] at q
    exact q
  refine ⟨ys.map toI, e1, e2.nodup_iff.mpr ?_, fun z hz => ?_, ?_⟩
  · refine List.Pairwise.map _ (fun a b h => ?_) List.nodup_range
    exact fun z => h (Int.ofNat.inj z)
  · obtain ⟨i, hi, rfl⟩ := List.mem_map.mp (e2.mem_iff.mp hz)
    have := List.mem_range.mp hi
    omega
  · rw [e2.length_eq, List.length_map, List.length_range]
/-- data that is shown in a short text -/
def Lim (k n : Nat) (d : PyData) : Prop := d.showable = true ∧ d.depth ≤ k ∧ d.shown.length ≤ n
theorem lim_all {k n : Nat} : ∀ {ds : List PyData}, (∀ d ∈ ds, Lim k n d) → ((PyData.shownAll ds).map (·.length)).sum ≤ ds.length * n ∧ (PyData.shownAll ds).length = ds.length ∧ PyData.showableAll ds = true ∧ PyData.depthAll ds ≤ k
  | [], _ => ⟨Nat.zero_le _, rfl, rfl, Nat.zero_le _⟩
  | d :: ds, h => by
    obtain ⟨h1, h2, h3, h4⟩ := lim_all fun e he => h e (List.mem_cons_of_mem _ he)
    obtain ⟨a, b, c⟩ := h d (List.mem_cons_self ..)
    refine ⟨?_, ?_, ?_, ?_⟩
    · show d.shown.length + ((PyData.shownAll ds).map (·.length)).sum ≤ (ds.length + 1) * n
      rw [Nat.add_mul]
      omega
    · show (PyData.shownAll ds).length + 1 = ds.length + 1
      rw [h2]
    · show (d.showable && PyData.showableAll ds) = true
      rw [a, h3]
      rfl
    · show max d.depth (PyData.depthAll ds) ≤ k
      omega
theorem lim_list {k n m : Nat} {ds : List PyData} (h : ∀ d ∈ ds, Lim k n d) (hm : ds.length * (n + 2) + 2 ≤ m) : Lim (k + 1) m (.list ds) := by
  obtain ⟨h1, h2, h3, h4⟩ := lim_all h
  refine ⟨by simpa only [PyData.showable] using h3, by simp only [PyData.depth]; omega, ?_⟩
  simp only [PyData.shown]
  have q := textFrom_len_le (PyData.shownAll ds) 0 "["
  have e : (listText (PyData.shownAll ds)).length = (textFrom 0 "[" (PyData.shownAll ds)).length + 1 := by
    show (textFrom 0 "[" (PyData.shownAll ds) ++ "]").length = _
    rw [strLen_append]
    rfl
  have e2 : (("[" : Str)).length = 1 := by decide +kernel
  rw [e2, h2] at q
  rw [Nat.mul_add] at hm
  omega
theorem lim_tup {k n m : Nat} {ds : List PyData} (h : ∀ d ∈ ds, Lim k n d) (hm : ds.length * (n + 2) + 3 ≤ m) : Lim (k + 1) m (.tuple ds) := by
  obtain ⟨h1, h2, h3, h4⟩ := lim_all h
  refine ⟨by simpa only [PyData.showable] using h3, by simp only [PyData.depth]; omega, ?_⟩
  simp only [PyData.shown]
  have q := tupleText_len_le (PyData.shownAll ds)
  rw [h2] at q
  rw [Nat.mul_add] at hm
  omega
theorem okAll_of : ∀ {ds : List PyData}, (∀ d ∈ ds, okD d = true) → okAll ds = true
  | [], _ => rfl
  | d :: ds, h => by
    rw [okAll, h d (List.mem_cons_self ..), okAll_of fun e he => h e (List.mem_cons_of_mem _ he)]
    rfl
theorem lim_int {i : Int} (h : i.natAbs < 10 ^ 31) : Lim 0 40 (.int i) := by
  obtain ⟨_, h2, h3, h4, _⟩ := G_int h
  refine ⟨h3, h4, ?_⟩
  simpa only [PyData.leavesShort, decide_eq_true_eq] using h2
theorem Lim.up {k n k2 n2 : Nat} {d : PyData} (h : Lim k n d) (hk : k ≤ k2) (hn : n ≤ n2) : Lim k2 n2 d := ⟨h.1, Nat.le_trans h.2.1 hk, Nat.le_trans h.2.2 hn⟩
/-- no list at all -/
def oddF0 : List PyData := [.none, .int 0, .bool true, .str "0", .str "", .dict [], .dict [(.int 0, .int 0)], .list [], .tuple []]
theorem oddF0_ok : ∀ d ∈ oddF0, okD d = true ∧ d.showable = true ∧ d.depth ≤ 1 ∧ d.shown.length ≤ 40 := by decide +kernel
theorem oddF0_starts {n : Int} : ∀ d ∈ oddF0, startsD n d = some none := by
  intro d hd
  simp only [oddF0, List.mem_cons, List.not_mem_nil, or_false] at hd
  rcases hd with rfl | rfl | rfl | rfl | rfl | rfl | rfl | rfl | rfl <;> rfl
def oddF1 (n : Int) : List PyData := [.int n, .int (-1), .bool true, .bool false, .none, .str "0", .tuple [.int 0], .list [.int 0], .int (10 ^ 29), .int (n + 5)]
theorem oddF1_ok {n : Int} (h1 : 1 ≤ n) (h5 : n ≤ 5) : ∀ d ∈ oddF1 n, okD d = true ∧ Lim 1 40 d ∧ keyI n d = none := by
  intro d hd
  have c : ∀ i : Int, ¬ (0 ≤ i ∧ i < n) → i.natAbs < 10 ^ 31 → okD (.int i) = true ∧ Lim 1 40 (.int i) ∧ keyI n (.int i) = none := fun i hi hs => by
    refine ⟨rfl, (lim_int hs).up (by omega) (Nat.le_refl _), ?_⟩
    show (if (decide (0 ≤ i) && decide (i < n)) = true then some (Sum.inl i) else none) = none
    refine if_neg fun z => hi ?_
    obtain ⟨a, b⟩ := Bool.and_eq_true_iff.mp z
    exact ⟨of_decide_eq_true a, of_decide_eq_true b⟩
  simp only [oddF1, List.mem_cons, List.not_mem_nil, or_false] at hd
  have o : ∀ d ∈ ([.bool true, .bool false, .none, .str "0", .tuple [.int 0], .list [.int 0]] : List PyData), okD d = true ∧ d.showable = true ∧ d.depth ≤ 1 ∧ d.shown.length ≤ 40 := by decide +kernel
  rcases hd with rfl | rfl | rfl | rfl | rfl | rfl | rfl | rfl | rfl | rfl
  · exact c _ (by omega) (by omega)
  · exact c _ (by omega) (by omega)
  · exact ⟨(o _ (by simp)).1, (o _ (by simp)).2, rfl⟩
  · exact ⟨(o _ (by simp)).1, (o _ (by simp)).2, rfl⟩
  · exact ⟨(o _ (by simp)).1, (o _ (by simp)).2, rfl⟩
  · exact ⟨(o _ (by simp)).1, (o _ (by simp)).2, rfl⟩
  · exact ⟨(o _ (by simp)).1, (o _ (by simp)).2, rfl⟩
  · exact ⟨(o _ (by simp)).1, (o _ (by simp)).2, rfl⟩
  · exact c _ (by omega) (by omega)
  · exact c _ (by omega) (by omega)
def spOF (K : PySem.W.Frag) : Sp := fun vs H Q _ => ∃ (p d : Addr) (n : Int) (fs : List Int) (mk : List (Addr × List L2.Key)) (f m : Addr), vs = [.ref p, .ref d] ∧ Pot p H ∧ DealAt (off p H) n fs mk d f m ∧
  ∀ (t : Addr) (x : V) (e : PyData) (r : Option Nat) H', Stp p H H' → off p H' t = some (.tup [x, posV r]) → Da K (off p H') x e → okD e = true → Lim 2 1000 e → startsD n e = some r → (∀ i, r = some i → i ≤ 9) → Q (.ref t) H'
section
variable {P : Program} {w : World} {K : PySem.W.Frag} {mg : Str → Option Value} {base : Heap}
theorem cd_odd_firsts (F : At K mg "_law_odd_firsts" s_law_odd_firsts) (T : BI mg) (c__law_draw : Cd P w K mg base 1 "_law_draw" ["_law_pot_here", "_law_many"] spDraw) (c__law_pick : Cd P w K mg base 2 "_law_pick" ["_law_pot_here", "_law_menu_here"] (spPick K)) (c__law_mixed : Cd P w K mg base 2 "_law_mixed" ["_law_pot_here", "_law_menu_here"] (spMixed K)) : Cd P w K mg base 3 "_law_odd_firsts" ["_law_pot_here", "_law_deal_here"] (spOF K) := by
  refine cd_mk F sc_law_odd_firsts (fun vs H Q E h => ?_) (fun _ _ _ _ _ _ us hl => match us, hl with | [_, _], _ => rfl) (fun f cdv A outer s H vs Q E hr hG h => ?_)
  · obtain ⟨p, d, n, fs, mk, f, m, rfl, _⟩ := h
    rfl
  · obtain ⟨p, d, n, fs, mk, fa, m, rfl, hP, D, k⟩ := h
    refine ⟨_, (pss_cons (ps_if (pt_cmpR op_eq (pe_cd c__law_draw (hr.mono (by decide)) hG (by rfl) (pa_cons (pv 0) (pa_cons pe_int pa_nil))) pe_int (nomark _)) (pss_one (ps_ret (pe_tup (pa_cons (pe_cd c__law_pick (hr.mono (by decide)) hG (by rfl) (pa_cons (pv 0) (pa_cons (pe_lst (pa_cons pe_non (pa_cons pe_int (pa_cons pe_bl (pa_cons pe_str (pa_cons pe_str (pa_cons pe_dnewK (pa_cons (pe_disp (pps_cons pe_int pe_int pps_nil) (by rfl) (by rfl) (fun z => by cases z) (by decide)) (pa_cons (pe_lst pa_nil) (pa_cons (pe_tup pa_nil) pa_nil)))))))))) pa_nil))) (pa_cons pe_non pa_nil))))) pss_nil)
  (pss_cons (ps_set (i := 2) sc_law_odd_firsts.nd rfl (Or.inl rfl) (pe_dget (hu_of hr) (pv 1) pe_str (fun _ _ => rfl)))
  (pss_cons (ps_set (i := 3) sc_law_odd_firsts.nd rfl (Or.inl rfl) (pe_slice sl_list (pe_cd c__law_mixed (hr.mono (by decide)) hG (by rfl) (pa_cons (pv 0) (pa_cons (pe_listRg rfl (by rfl) T.list (prg_1 (by rfl) T.range (pv 2))) pa_nil))) po_none (po_some (pe_cd c__law_draw (hr.mono (by decide)) hG (by rfl) (pa_cons (pv 0) (pa_cons (pe_op op_add (pv 2) pe_int) pa_nil))))))
  (pss_cons (ps_set (i := 4) sc_law_odd_firsts.nd rfl (Or.inl rfl) (pe_cd c__law_pick (hr.mono (by decide)) hG (by rfl) (pa_cons (pv 0) (pa_cons (pe_op op_cat (pe_lst (pa_cons (pv 2) (pa_cons (pe_un un_neg pe_int) (pa_cons pe_bl (pa_cons pe_bl (pa_cons pe_non (pa_cons pe_str (pa_cons (pe_tup (pa_cons pe_int pa_nil)) (pa_cons (pe_lst (pa_cons pe_int pa_nil)) (pa_cons (pe_op op_pow pe_int pe_int) (pa_cons (pe_op op_add (pv 2) pe_int) pa_nil))))))))))) (pv 3)) pa_nil))))
  (pss_cons (ps_set (i := 5) sc_law_odd_firsts.nd rfl (Or.inl rfl) (pe_op op_cat (pe_op op_cat (pv 3) (pe_lst (pa_cons (pv 4) pa_nil))) (pe_cd c__law_pick (hr.mono (by decide)) hG (by rfl) (pa_cons (pv 0) (pa_cons (pe_lst (pa_cons (pe_lst pa_nil) (pa_cons (pe_lst (pa_cons (pv 4) pa_nil)) (pa_cons (pe_lst (pa_cons pe_non pa_nil)) (pa_cons (pv 3) pa_nil))))) pa_nil)))))
  (pss_one (ps_ret (pe_tup (pa_cons (pe_cd c__law_pick (hr.mono (by decide)) hG (by rfl) (pa_cons (pv 0) (pa_cons (pe_lst (pa_cons (pv 5) (pa_cons (pe_callTy call_tuple_of (by rfl) T.tuple bt_tuple (pa_cons (pv 5) pa_nil)) pa_nil))) pa_nil))) (pa_cons (pe_callB call_len_seq (by rfl) T.len PySem.boot_len (pa_cons (pv 3) pa_nil)) pa_nil)))))))))), ?_⟩
    refine ⟨_, rfl, p, 3, rfl, hP, by decide, by decide, fun d0 H1 st1 d00 d03 => ⟨rfl, _, rfl, ?_⟩⟩
    refine ite2 (fun _ => ?_) (fun _ => ?_)
    · -- no list at all
      refine ⟨_, rfl, lst_d (K := K) (ds := oddF0) st1.pot (mkd_cons mkd_non (mkd_cons mkd_int (mkd_cons mkd_bl (mkd_cons mkd_str (mkd_cons mkd_str (mkd_cons mkd_dnew (mkd_cons mkd_disp (mkd_cons (mkd_lst mkd_nil (by decide)) (mkd_cons (mkd_tup mkd_nil (by decide)) mkd_nil))))))))) (by decide) fun M xs H2 s2 eM dM => ?_⟩
      refine ⟨p, M, xs, rfl, st1.pot.keep s2, SqL.of eM, by rw [dM.len]; decide, by rw [dM.len]; decide, fun x H3 st3 hx => ⟨by show 2 ≤ sizeLine; decide, fun t ht => ?_⟩⟩
      obtain ⟨e, he, da⟩ := dM.mem hx
      obtain ⟨o1, o2, o3, o4⟩ := oddF0_ok e he
      have S := ((st1.same s2).trans st3).same (same_new ht (o := .tup [x, .non]))
      exact k t x e none _ S (off_new st3.pot ht) (da.mono (st3.same (same_new ht)).k) o1 ⟨o2, by omega, by omega⟩ (oddF0_starts e he) (fun _ z => by cases z)
    · have eD := (off_some D.hd).2
      have dp : d ≠ p := (off_some D.hd).1
      have eD1 := off_keep dp st1.k eD
      refine ⟨_, rfl, d, .int n, rfl, DGet.k (k := .inr "many") eD1, ?_⟩
      refine ⟨_, rfl, _, rfl, n, rfl, RgOk.of_le (by decide) (by have := D.n5; omega) (by decide) (by have := D.n1; omega), fun q hq => ?_⟩
      generalize g2 : upd H1 q _ = H2
      have s2 : Same H1 H2 := g2 ▸ same_new hq
      have e2 := g2 ▸ upd_same (H := H1) (a := q)
      clear g2
      have qp : q ≠ p := st1.pot.new hq
      have n1 := D.n1
      have n5 := D.n5
      refine ⟨p, q, L2.rgV 0 n, rfl, st1.pot.keep s2, SqL.of ((off_ne qp).trans e2), by rw [rgV_length]; omega, fun D1 ys H3 st3 hD1 D1p eD3 pm => ?_⟩
      obtain ⟨zs, rfl, znd, zin, zl⟩ := rg_ints pm
      refine ⟨_, rfl, _, rfl, n, 1, rfl, rfl, p, n + 1, rfl, st3.pot, by omega, by omega, fun c H4 st4 c0 cn => ⟨c, rfl, D1, _, rfl, SqL.of (off_keep D1p st4.k eD3), fun g hg => ?_⟩⟩
      obtain ⟨cc, rfl⟩ : ∃ cc : Nat, c = (cc : Int) := ⟨c.toNat, by omega⟩
      have ecut : cutV (zs.map V.int) none (some (cc : Int)) = (zs.take cc).map V.int := by
        rw [cut_to (by rw [List.length_map, zl]; omega), List.map_take]
      rw [ecut]
      generalize hgs : zs.take cc = gs
      have gnd : gs.Nodup := hgs ▸ (List.take_sublist cc zs).nodup znd
      have gin : ∀ z ∈ gs, 0 ≤ z ∧ z < n := fun z hz => zin z (List.mem_of_mem_take (hgs ▸ hz))
      have gl : gs.length ≤ 5 := by rw [← hgs, List.length_take, zl]; omega
      have P4 := st4.pot
      have S04 := ((st1.same s2).trans st3).trans st4
      generalize g5 : upd H4 g _ = H5
      have s5 : Same H4 H5 := g5 ▸ same_new hg
      have e5 := g5 ▸ upd_same (H := H4) (a := g)
      clear g5
      have P5 := P4.keep s5
      have gp : g ≠ p := P4.new hg
      have S05 := S04.same s5
      refine ⟨_, rfl, cat_d (K := K) (gs := gs.map V.int) (ds := oddF1 n) (by rfl) e5 P5
        (mkd_cons (mkd_var (by rfl) (.int n)) (mkd_cons mkd_neg (mkd_cons mkd_bl (mkd_cons mkd_bl (mkd_cons mkd_non (mkd_cons mkd_str (mkd_cons (mkd_tup (mkd_cons mkd_int mkd_nil) (by decide)) (mkd_cons (mkd_lst (mkd_cons mkd_int mkd_nil) (by decide)) (mkd_cons (mkd_pow ⟨by decide, by decide, by decide⟩) (mkd_cons (mkd_add (by rfl)) mkd_nil))))))))))
        (by rw [List.length_map]; show 10 + gs.length ≤ 1000; omega) fun M xs H6 s6 eM dM => ?_⟩
      have lx : xs.length = 10 := dM.len
      refine ⟨p, M, _, rfl, P5.keep s6, SqL.of eM, by rw [List.length_append]; omega, by rw [List.length_append, List.length_map]; omega, fun x H7 st7 hx => ?_⟩
      have S57 : Stp p H5 H7 := ((Stp.refl P5).same s6).trans st7
      obtain ⟨bd, px, bok, blim, bkey⟩ : ∃ bd, Pk K (off p H7) x bd ∧ okD bd = true ∧ Lim 1 40 bd ∧ (keyI n bd = none ∨ ∃ k, keyI n bd = some k ∧ k ∈ gs.map Sum.inl) := by
        rcases List.mem_append.mp hx with h | h
        · obtain ⟨bd, hb, da⟩ := dM.mem h
          obtain ⟨o1, o2, o3⟩ := oddF1_ok n1 n5 bd hb
          refine ⟨bd, ⟨da.mono st7.k, fun s t c z e => ?_⟩, o1, o2, .inl o3⟩
          subst e
          simp [oddF1] at hb
        · obtain ⟨z, hz, rfl⟩ := List.mem_map.mp h
          obtain ⟨z0, zn⟩ := gin z hz
          refine ⟨.int z, ⟨.int z, fun s t c z e => by cases e⟩, rfl, (lim_int (by omega)).up (by omega) (Nat.le_refl _), .inr ⟨.inl z, ?_, List.mem_map_of_mem hz⟩⟩
          show (if (decide (0 ≤ z) && decide (z < n)) = true then some (Sum.inl z) else none) = _
          rw [decide_eq_true z0, decide_eq_true zn]
          rfl
      have e7 := off_keep gp S57.k e5
      have pg : ∀ gs : List Int, Pks K (off p H7) (gs.map V.int) (gs.map PyData.int) := fun gs => by
        induction gs with
        | nil => exact .nil
        | cons z gs ih => exact .cons ⟨.int z, fun _ _ _ _ e => by cases e⟩ ih
      refine made_read S57.pot ((off_ne gp).trans e7) (pg gs) px (by rw [List.length_map]; omega) fun t y e xs ds tl a H8 st8 et ey eds pks ha ht hlt => ?_
      have keyg : ∀ z ∈ gs, keyI n (.int z) = some (.inl z) := fun z hz => by
        obtain ⟨z0, zn⟩ := gin z hz
        show (if (decide (0 ≤ z) && decide (z < n)) = true then some (Sum.inl z) else none) = _
        rw [decide_eq_true z0, decide_eq_true zn]
        rfl
      have okg : ∀ d ∈ gs.map PyData.int, okD d = true ∧ Lim 1 40 d := fun d hd => by
        obtain ⟨z, hz, rfl⟩ := List.mem_map.mp hd
        obtain ⟨z0, zn⟩ := gin z hz
        exact ⟨rfl, (lim_int (by omega)).up (by omega) (Nat.le_refl _)⟩
      have okn : okD .none = true ∧ Lim 1 40 .none := ⟨rfl, rfl, Nat.zero_le _, by decide +kernel⟩
      have oka : ∀ d ∈ ds, okD d = true ∧ Lim 1 40 d := fun d hd => by
        rw [eds] at hd
        rcases List.mem_append.mp hd with h | h
        · exact okg d h
        rcases List.mem_cons.mp h with rfl | h
        · exact ⟨bok, blim⟩
        rcases ht d h with rfl | rfl | h
        · exact ⟨bok, blim⟩
        · exact okn
        · exact okg d h
      have ldl : ds.length ≤ 12 := by
        rw [eds, List.length_append, List.length_cons, List.length_map]
        rw [List.length_map] at hlt
        omega
      have hda := pks.das
      have hfw : fwk [] (ds.map (keyI n)) 0 = some gs.length := by
        have e1 : ds.map (keyI n) = (gs.map Sum.inl).map some ++ keyI n bd :: tl.map (keyI n) := by
          rw [eds, List.map_append, List.map_cons, List.map_map, List.map_map]
          congr 1
          exact List.map_congr_left fun z hz => keyg z hz
        rw [e1, fwk_good (gs := gs.map Sum.inl) ?_ (fun _ _ => List.not_mem_nil) ?_, List.length_map, Nat.zero_add]
        · exact List.Pairwise.map _ (fun a b h z => h (Sum.inl.inj z)) gnd
        · rcases bkey with h | ⟨k, h1, h2⟩
          · exact .inl h
          · exact .inr ⟨k, h1, .inl h2⟩
      have hst : startsL n ds = some (some gs.length) := by
        have ne : ds ≠ [] := by rw [eds]; simp
        obtain ⟨d0, dr, rfl⟩ := List.exists_cons_of_ne_nil ne
        show (fwk [] ((d0 :: dr).map (keyI n)) 0).map some = _
        rw [hfw]
        rfl
      have okl : okAll ds = true := okAll_of fun d hd => (oka d hd).1
      have lim := lim_list (m := 1000) (fun d hd => (oka d hd).2) (by omega)
      have S08 := (S05.trans S57).trans st8
      rw [List.length_map] at et
      rcases ha with ⟨ha, rfl⟩ | ⟨ha, rfl⟩
      · exact k t y _ (some gs.length) H8 S08 et (ey ▸ .lst (SqL.of ha) hda) (by rw [okD, okl, decide_eq_true (by omega : ds.length ≤ 100)]; rfl) lim hst fun i hi => by cases hi; omega
      · exact k t y _ (some gs.length) H8 S08 et (ey ▸ .tup (SqT.of ha) hda) (by rw [okD, okl, decide_eq_true (by omega : ds.length ≤ 100)]; rfl) (lim_tup (fun d hd => (oka d hd).2) (by omega)) hst fun i hi => by cases hi; omega
end
end K11
/-! ## K11k -/
set_option Elab.async false
set_option linter.all false
set_option maxRecDepth 100000
set_option maxHeartbeats 4000000
namespace K11
open PySem PySem.Spec PyProof.Rows L2 He Vx
section
variable {K : PySem.W.Frag} {p : Addr} {H0 : Hp} {σ : L2.St}
/-- te makes the data d; a tuple stands as it is made -/
def MkP (K : PySem.W.Frag) (p : Addr) (H0 : Hp) (σ : L2.St) (te : TE) (d : PyData) : Prop :=
  ∀ H (R : VK), Same H0 H → Pot p H → (∀ x H', Same H H' → Pk K (off p H') x d → R x H') → te σ H R
def MkPs (K : PySem.W.Frag) (p : Addr) (H0 : Hp) (σ : L2.St) (tas : TA) (ds : List PyData) : Prop :=
  ∀ H (R : List V → Hp → Prop), Same H0 H → Pot p H → (∀ xs H', Same H H' → Pks K (off p H') xs ds → R xs H') → tas σ H R
theorem mkp_nil : MkPs K p H0 σ tNil [] := fun H R _ _ q => q [] H (Same.refl H) .nil
theorem mkp_cons {te : TE} {tas : TA} {d : PyData} {ds : List PyData} (h : MkP K p H0 σ te d) (hs : MkPs K p H0 σ tas ds) : MkPs K p H0 σ (tCons te tas) (d :: ds) := fun H R s P q =>
  h H _ s P fun x H1 s1 e => hs H1 _ (s.trans s1) (P.keep s1) fun xs H2 s2 es => q (x :: xs) H2 (s1.trans s2) (.cons (e.mono (same_off s2)) es)
theorem mkp_of {te : TE} {d : PyData} (h : MkD K p H0 σ te d) (ne : ∀ (s t : Int) (c z : Str), d ≠ .tuple [.int s, .str c, .str z, .int t]) : MkP K p H0 σ te d := fun H R s P q => h H R s P fun x H' s' e => q x H' s' ⟨e, fun a b c z z' => absurd z' (ne a b c z)⟩
theorem pk_tup {H : Hp} {a : Addr} {xs : List V} {ds : List PyData} (e : H a = some (.tup xs)) (das : Das K H xs ds) : Pk K H (.ref a) (.tuple ds) := by
  refine ⟨.tup (SqT.of e) das, fun s t c z ed => ⟨a, rfl, ?_⟩⟩
  have ed := PyData.tuple.inj ed
  subst ed
  cases das with
  | cons r1 r =>
  cases r with
  | cons r2 r =>
  cases r with
  | cons r3 r =>
  cases r with
  | cons r4 r =>
  cases r
  cases r1
  cases r2
  cases r3
  cases r4
  exact e
theorem mkp_tup {tas : TA} {ds : List PyData} (h : MkDs K p H0 σ tas ds) (hn : ds.length ≤ 1000) : MkP K p H0 σ (tTup tas) (.tuple ds) := fun H R s P q =>
  h H _ s P fun xs H1 s1 es => ⟨by rw [es.len]; exact Nat.le_of_lt (small1000 hn), fun a ha => q _ _ (s1.trans (same_new ha)) (pk_tup (off_new (P.keep s1) ha) (es.mono (same_off (same_new ha))))⟩
/-- bad = [..] -/
theorem lst_p {tas : TA} {ds : List PyData} {Q : VK} (P : Pot p H0) (h : MkPs K p H0 σ tas ds) (hl : ds.length ≤ 1000)
    (q : ∀ a xs H1, Same H0 H1 → H1 a = none → Pks K (off p H1) xs ds → Q (.ref a) (upd H1 a (.lst xs))) : tLst tas σ H0 Q :=
  h H0 _ (Same.refl _) P fun xs H1 s1 es => ⟨by rw [paired_len es]; exact Nat.le_of_lt (small1000 hl), fun a ha => q a xs H1 s1 ha es⟩
/-- bad = bad + [..] -/
theorem cat_p {tas : TA} {ds ds0 : List PyData} {i : Nat} {l : Addr} {xs0 : List V} {Q : VK} (hv : σ[i]? = some (some (.ref l))) (e : H0 l = some (.lst xs0)) (pk0 : Pks K (off p H0) xs0 ds0) (P : Pot p H0) (h : MkPs K p H0 σ tas ds) (hl : ds0.length + ds.length ≤ 1000)
    (q : ∀ a xs H1, Same H0 H1 → H1 a = none → Pks K (off p H1) xs (ds0 ++ ds) → Q (.ref a) (upd H1 a (.lst xs))) : tOp rCat (tVar i) (tLst tas) σ H0 Q := by
  refine ⟨_, hv, h H0 _ (Same.refl _) P fun ys H1 s1 es => ?_⟩
  have l1 := paired_len es
  have l0 := paired_len pk0
  refine ⟨by rw [l1]; exact Nat.le_of_lt (small1000 (by omega)), fun b hb => ?_⟩
  have s2 : Same H1 (upd H1 b (.lst ys)) := same_new hb
  refine ⟨l, b, xs0, ys, rfl, rfl, s2 _ _ (s1 _ _ e), upd_same, Nat.le_of_lt (small1000 (by omega)), fun a ha => q a _ _ (s1.trans s2) ha ?_⟩
  exact paired_app (pk0.mono (same_off (s1.trans s2))) (es.mono (same_off s2))
theorem mkd_dispT {j : Int} {k : List L2.Key} {tas : TA} (h : ∀ H (R : List V → Hp → Prop), R (k.map kV) H → tas σ H R) (hl : k.length ≤ 1000) : MkD K p H0 σ (tDispT (tTup tas) (tC (.int j))) (.dict [(keyT k, .int j)]) := fun H R _ P q a ha => by
  refine h _ _ ⟨by rw [List.length_map]; exact Nat.le_of_lt (small1000 hl), fun b hb => ?_⟩
  have ab : a ≠ b := fun z => by rw [← z, upd_same] at hb; cases hb
  have Hb : H b = none := by
    rw [upd_ne ab.symm] at hb
    exact hb
  refine ⟨by rw [upd_ne ab, upd_same], k, b, rfl, upd_same, ?_⟩
  refine q _ _ (fun c u e => ?_) (Da.dT (kvs := [(k, .int j)]) ?_ (.cons (.int _) .nil))
  · have na := ne_of_none e ha
    have nb := ne_of_none e Hb
    rw [upd_ne na, upd_ne nb, upd_ne na]
    exact e
  · rw [off_ne (P.new ha), upd_same]
end
/-! ### moves that are none -/
def oddM0 : List PyData := [.none, .int 0, .bool true, .str "", .str "go", .dict [], .dict [(keyT [.inl 0, .inr "go", .inr "ok", .inl 0], .int 1)]]
theorem oddM0_ok : ∀ d ∈ oddM0, okD d = true ∧ d.showable = true ∧ d.depth ≤ 2 ∧ d.shown.length ≤ 60 := by decide +kernel
theorem oddM0_steps {n : Int} : ∀ d ∈ oddM0, stepsD n d = some none ∧ seqD d = false := by
  intro d hd
  simp only [oddM0, List.mem_cons, List.not_mem_nil, or_false] at hd
  rcases hd with rfl | rfl | rfl | rfl | rfl | rfl | rfl <;> exact ⟨rfl, rfl⟩
/-- four things as a move -/
abbrev mv4 (a b c d : PyData) : PyData := .tuple [a, b, c, d]
def oddM1 (n : Int) : List PyData := [mv4 (.int n) (.str "go") (.str "ok") (.int 0), mv4 (.int 0) (.str "go") (.str "ok") (.int n), mv4 (.int (-1)) (.str "go") (.str "ok") (.int 0), mv4 (.int 0) (.str "go") (.str "ok") (.int (-1)), .tuple [.int 0, .str "go", .str "ok"]]
def oddM2 : List PyData := [.tuple [.int 0, .str "go", .str "ok", .int 0, .int 0], .list [.int 0, .str "go", .str "ok", .int 0], mv4 (.int 0) (.str "Go") (.str "ok") (.int 0), mv4 (.int 0) (.str "") (.str "ok") (.int 0), mv4 (.int 0) (.str "go") (.str "") (.int 0)]
def oddM3 : List PyData := [mv4 (.int 0) (.str "go") (.str "abcdefghi") (.int 0), mv4 (.int 0) (.str "a1") (.str "ok") (.int 0), mv4 (.int 0) (.str "go") (.str "o k") (.int 0), mv4 (.bool false) (.str "go") (.str "ok") (.int 0)]
def oddM4 : List PyData := [mv4 (.int 0) (.str "go") (.str "ok") (.bool false), mv4 (.int 0) (.str "go") (.str "ok") (.bool true), mv4 (.int 0) .none (.str "ok") (.int 0), mv4 (.int 0) (.str "go") .none (.int 0), .none, .str "go", .tuple []]
def oddM5 : List PyData := [mv4 (.str "0") (.str "go") (.str "ok") (.int 0), mv4 (.int 0) (.str "go") (.str "ok") (.str "0"), .tuple [.int 0, .tuple [.str "go", .str "ok"], .int 0], mv4 (.int 0) (.str "go") (.str "ok") .none]
def oddM6 : PyData := mv4 (.int 0) (.str "go\n") (.str "b") (.int 0)
def oddM7 : List PyData := [mv4 (.int 0) (.str "go") (.str "ok") (.int (10 ^ 29)), mv4 (.int (10 ^ 29)) (.str "go") (.str "ok") (.int 0), .tuple [.str "go", .str "ok"], .dict [], .int 0]
def oddM (n : Int) : List PyData := oddM1 n ++ (oddM2 ++ (oddM3 ++ (oddM4 ++ (oddM5 ++ ([oddM6] ++ oddM7)))))
theorem keyM_none {n : Int} {d : PyData} (h : stepD n d = false) : keyM n d = none := by
  have q := keyM_some n d
  rw [h] at q
  cases e : keyM n d with
  | none => rfl
  | some k =>
    rw [e] at q
    cases q
def oddOk (n : Int) (d : PyData) : Prop := okD d = true ∧ d.showable = true ∧ d.depth ≤ 2 ∧ d.shown.length ≤ 80 ∧ stepD n d = false
instance (n : Int) (d : PyData) : Decidable (oddOk n d) := inferInstanceAs (Decidable (_ ∧ _))
theorem oddM_1 : ∀ d ∈ oddM 1, oddOk 1 d := by decide +kernel
theorem oddM_2 : ∀ d ∈ oddM 2, oddOk 2 d := by decide +kernel
theorem oddM_3 : ∀ d ∈ oddM 3, oddOk 3 d := by decide +kernel
theorem oddM_4 : ∀ d ∈ oddM 4, oddOk 4 d := by decide +kernel
theorem oddM_5 : ∀ d ∈ oddM 5, oddOk 5 d := by decide +kernel
theorem oddM_ok {n : Int} (h1 : 1 ≤ n) (h5 : n ≤ 5) : ∀ d ∈ oddM n, okD d = true ∧ Lim 2 80 d ∧ keyM n d = none := by
  have h : ∀ d ∈ oddM n, oddOk n d := by
    have c : n = 1 ∨ n = 2 ∨ n = 3 ∨ n = 4 ∨ n = 5 := by omega
    rcases c with rfl | rfl | rfl | rfl | rfl
    · exact oddM_1
    · exact oddM_2
    · exact oddM_3
    · exact oddM_4
    · exact oddM_5
  intro d hd
  obtain ⟨a, b, c, e, f⟩ := h d hd
  exact ⟨a, ⟨b, c, e⟩, keyM_none f⟩
/-- a right move is its key -/
theorem keyM_good {n : Int} {k : List L2.Key} (h : MvOk n k) : keyM n (keyT k) = some k := by
  obtain ⟨s, t, c, a, rfl, s0, sn, t0, tn, hc, ha⟩ := h
  show (if (stateD n (.int s) && (nameD (.str c) && (nameD (.str a) && stateD n (.int t)))) = true then some _ else none) = _
  refine if_pos ?_
  show ((decide (0 ≤ s) && decide (s < n)) && (nm c && (nm a && (decide (0 ≤ t) && decide (t < n))))) = true
  rw [decide_eq_true s0, decide_eq_true sn, decide_eq_true t0, decide_eq_true tn, hc, ha]
  rfl
end K11
/-! ## K11z -/
set_option Elab.async false
set_option linter.all false
set_option maxRecDepth 100000
set_option maxHeartbeats 4000000
namespace K11
open PySem PySem.Spec PyProof.Rows L2 He Vx

def spOM (K : PySem.W.Frag) : Sp := fun vs H Q _ => ∃ (p d : Addr) (n : Int) (fs : List Int) (mk : List (Addr × List L2.Key)) (f m : Addr), vs = [.ref p, .ref d] ∧ Pot p H ∧ DealAt (off p H) n fs mk d f m ∧
  ∀ (t : Addr) (x : V) (e : PyData) (r : Option Nat) H', Stp p H H' → off p H' t = some (.tup [x, posV r]) → Da K (off p H') x e → Tups K (off p H') x e → okD e = true → Lim 3 8000 e → stepsD n e = some r → (∀ i, r = some i → i ≤ 9) → Q (.ref t) H'
theorem pks_mem {K : PySem.W.Frag} {H : Hp} : ∀ {xs : List V} {ds : List PyData} {x : V}, Pks K H xs ds → x ∈ xs → ∃ d ∈ ds, Pk K H x d
  | _, _, _, .nil, h => nomatch h
  | _, _, x, .cons (b := d) a r, h => by
    rcases List.mem_cons.mp h with rfl | h
    · exact ⟨d, List.mem_cons_self .., a⟩
    · obtain ⟨e, he, q⟩ := pks_mem r h
      exact ⟨e, List.mem_cons_of_mem _ he, q⟩
theorem pks_at {K : PySem.W.Frag} {H : Hp} : ∀ {xs : List V} {ds : List PyData} {i : Nat} {d : PyData}, Pks K H xs ds → ds[i]? = some d → ∃ v, xs[i]? = some v ∧ Pk K H v d
  | _, _, _, _, .nil, e => by simp at e
  | _, _, 0, _, .cons (a := v) h r, e => by
    simp at e
    subst e
    exact ⟨v, rfl, h⟩
  | _, _, i + 1, _, .cons h r, e => by
    obtain ⟨v, h1, h2⟩ := pks_at (i := i) r (by simpa using e)
    exact ⟨v, by simpa using h1, h2⟩
theorem pks_map {K : PySem.W.Frag} {H : Hp} {α : Type} {f : α → V} {g : α → PyData} : ∀ {l : List α}, (∀ a ∈ l, Pk K H (f a) (g a)) → Pks K H (l.map f) (l.map g)
  | [], _ => .nil
  | a :: l, h => .cons (h a (List.mem_cons_self ..)) (pks_map fun b hb => h b (List.mem_cons_of_mem _ hb))
theorem key_okD {n : Int} {k : List L2.Key} (h : MvOk n k) : okD (keyT k) = true := by
  obtain ⟨s, t, c, a, rfl, _, _, _, _, hc, ha⟩ := h
  have l : ∀ z : Str, nm z = true → decide (z.length ≤ 100) = true := fun z hz => by
    have q := of_decide_eq_true (ba (ba hz).2).1
    exact decide_eq_true (by omega)
  simp [keyT, keyD, okD, okAll, l c hc, l a ha, of_decide_eq_true (l c hc), of_decide_eq_true (l a ha)]
theorem nm_lim {z : Str} (h : nm z = true) : Lim 0 88 (.str z) := by
  have l := of_decide_eq_true (ba (ba h).2).1
  have q := (ba (ba h).2).2
  rw [List.all_eq_true] at q
  have s := PyData.shown_le 8 (by decide) (.str z) (by
    simp only [PyData.leavesShort, List.all_eq_true, decide_eq_true_eq]
    exact fun c hc => Nat.lt_trans (small_lt c (of_decide_eq_true (q c hc))) (by decide))
  refine ⟨rfl, Nat.zero_le _, Nat.le_trans s ?_⟩
  show 10 * z.length + 8 ≤ 88
  omega
theorem key_lim {n : Int} {k : List L2.Key} (h1 : 1 ≤ n) (h5 : n ≤ 5) (h : MvOk n k) : Lim 2 363 (keyT k) := by
  obtain ⟨s, t, c, a, rfl, s0, sn, t0, tn, hc, ha⟩ := h
  refine (lim_tup (k := 0) (n := 88) (m := 363) (fun d hd => ?_) (by show 4 * 90 + 3 ≤ 363; decide)).up (by decide) (Nat.le_refl _)
  have small : ∀ i : Int, 0 ≤ i → i < 5 → Lim 0 88 (.int i) := fun i h0 h5 => by
    have c : i = 0 ∨ i = 1 ∨ i = 2 ∨ i = 3 ∨ i = 4 := by omega
    rcases c with rfl | rfl | rfl | rfl | rfl <;> exact ⟨rfl, Nat.zero_le _, by decide +kernel⟩
  rcases List.mem_cons.mp hd with rfl | hd
  · exact small s s0 (by omega)
  rcases List.mem_cons.mp hd with rfl | hd
  · exact nm_lim hc
  rcases List.mem_cons.mp hd with rfl | hd
  · exact nm_lim ha
  · cases List.mem_singleton.mp hd
    exact small t t0 (by omega)
theorem gset {i : Nat} {v : V} {σ : L2.St} {H : Hp} {Q : L2.St → Hp → Prop} (h : Q (σ.set i (some v)) H) : gName i v σ H Q := h
theorem perm_back {α β : Type} {f : α → β} : ∀ {xs : List α} {ys : List β}, ys.Perm (xs.map f) → ∃ zs : List α, ys = zs.map f ∧ zs.Perm xs := by
  intro xs ys h
  generalize e : xs.map f = ws at h
  induction h generalizing xs with
  | nil =>
    cases xs with
    | nil => exact ⟨[], rfl, .refl _⟩
    | cons _ _ => cases e
  | cons a h ih =>
    cases xs with
    | nil => cases e
    | cons x xs =>
      obtain ⟨e1, e2⟩ := List.cons.inj e
      obtain ⟨zs, rfl, pz⟩ := ih e2
      exact ⟨x :: zs, by rw [List.map_cons, e1], pz.cons x⟩
  | swap a b l =>
    match xs, e with
    | x :: y :: xs, e =>
      obtain ⟨e1, e2⟩ := List.cons.inj e
      obtain ⟨e2, e3⟩ := List.cons.inj e2
      exact ⟨y :: x :: xs, by rw [List.map_cons, List.map_cons, e1, e2, e3], .swap x y xs⟩
  | trans h1 h2 ih1 ih2 =>
    obtain ⟨zs, rfl, pz⟩ := ih2 e
    obtain ⟨ws, rfl, pw⟩ := ih1 rfl
    exact ⟨ws, rfl, pw.trans pz⟩
section
variable {P : Program} {w : World} {K : PySem.W.Frag} {mg : Str → Option Value} {base : Heap}
theorem cd_odd_moves (F : At K mg "_law_odd_moves" s_law_odd_moves) (T : BI mg) (c__law_draw : Cd P w K mg base 1 "_law_draw" ["_law_pot_here", "_law_many"] spDraw) (c__law_pick : Cd P w K mg base 2 "_law_pick" ["_law_pot_here", "_law_menu_here"] (spPick K)) (c__law_mixed : Cd P w K mg base 2 "_law_mixed" ["_law_pot_here", "_law_menu_here"] (spMixed K)) : Cd P w K mg base 3 "_law_odd_moves" ["_law_pot_here", "_law_deal_here"] (spOM K) := by
  refine cd_mk F sc_law_odd_moves (fun vs H Q E h => ?_) (fun _ _ _ _ _ _ us hl => match us, hl with | [_, _], _ => rfl) (fun f cdv A outer s H vs Q E hr hG h => ?_)
  · obtain ⟨p, d, n, fs, mk, f, m, rfl, _⟩ := h
    rfl
  · obtain ⟨p, d, n, fs, mk, fa, m, rfl, hP, D, k⟩ := h
    refine ⟨_, (pss_cons (ps_if (pt_cmpR op_eq (pe_cd c__law_draw (hr.mono (by decide)) hG (by rfl) (pa_cons (pv 0) (pa_cons pe_int pa_nil))) pe_int (nomark _)) (pss_one (ps_ret (pe_tup (pa_cons (pe_cd c__law_pick (hr.mono (by decide)) hG (by rfl) (pa_cons (pv 0) (pa_cons (pe_lst (pa_cons pe_non (pa_cons pe_int (pa_cons pe_bl (pa_cons pe_str (pa_cons pe_str (pa_cons pe_dnewK (pa_cons (pe_dispT hr.units (pe_tup (pa_cons pe_int (pa_cons pe_str (pa_cons pe_str (pa_cons pe_int pa_nil))))) pe_int) pa_nil)))))))) pa_nil))) (pa_cons pe_non pa_nil))))) pss_nil)
  (pss_cons (ps_set (i := 2) sc_law_odd_moves.nd rfl (Or.inl rfl) (pe_dget (hu_of hr) (pv 1) pe_str (fun _ _ => rfl)))
  (pss_cons (ps_set (i := 3) sc_law_odd_moves.nd rfl (Or.inl rfl) (pe_slice sl_list (pe_cd c__law_mixed (hr.mono (by decide)) hG (by rfl) (pa_cons (pv 0) (pa_cons (pe_dget (hu_of hr) (pv 1) pe_str (fun _ _ => rfl)) pa_nil))) po_none (po_some (pe_cd c__law_draw (hr.mono (by decide)) hG (by rfl) (pa_cons (pv 0) (pa_cons (pe_op op_add (pe_callB call_len_seq (by rfl) T.len PySem.boot_len (pa_cons (pe_dget (hu_of hr) (pv 1) pe_str (fun _ _ => rfl)) pa_nil)) pe_int) pa_nil))))))
  (pss_cons (ps_set (i := 4) sc_law_odd_moves.nd rfl (Or.inl rfl) (pe_lst (pa_cons (pe_tup (pa_cons (pv 2) (pa_cons pe_str (pa_cons pe_str (pa_cons pe_int pa_nil))))) (pa_cons (pe_tup (pa_cons pe_int (pa_cons pe_str (pa_cons pe_str (pa_cons (pv 2) pa_nil))))) (pa_cons (pe_tup (pa_cons (pe_un un_neg pe_int) (pa_cons pe_str (pa_cons pe_str (pa_cons pe_int pa_nil))))) (pa_cons (pe_tup (pa_cons pe_int (pa_cons pe_str (pa_cons pe_str (pa_cons (pe_un un_neg pe_int) pa_nil))))) (pa_cons (pe_tup (pa_cons pe_int (pa_cons pe_str (pa_cons pe_str pa_nil)))) pa_nil)))))))
  (pss_cons (ps_set (i := 4) sc_law_odd_moves.nd rfl (Or.inl rfl) (pe_op op_cat (pv 4) (pe_lst (pa_cons (pe_tup (pa_cons pe_int (pa_cons pe_str (pa_cons pe_str (pa_cons pe_int (pa_cons pe_int pa_nil)))))) (pa_cons (pe_lst (pa_cons pe_int (pa_cons pe_str (pa_cons pe_str (pa_cons pe_int pa_nil))))) (pa_cons (pe_tup (pa_cons pe_int (pa_cons pe_str (pa_cons pe_str (pa_cons pe_int pa_nil))))) (pa_cons (pe_tup (pa_cons pe_int (pa_cons pe_str (pa_cons pe_str (pa_cons pe_int pa_nil))))) (pa_cons (pe_tup (pa_cons pe_int (pa_cons pe_str (pa_cons pe_str (pa_cons pe_int pa_nil))))) pa_nil))))))))
  (pss_cons (ps_set (i := 4) sc_law_odd_moves.nd rfl (Or.inl rfl) (pe_op op_cat (pv 4) (pe_lst (pa_cons (pe_tup (pa_cons pe_int (pa_cons pe_str (pa_cons pe_str (pa_cons pe_int pa_nil))))) (pa_cons (pe_tup (pa_cons pe_int (pa_cons pe_str (pa_cons pe_str (pa_cons pe_int pa_nil))))) (pa_cons (pe_tup (pa_cons pe_int (pa_cons pe_str (pa_cons pe_str (pa_cons pe_int pa_nil))))) (pa_cons (pe_tup (pa_cons pe_bl (pa_cons pe_str (pa_cons pe_str (pa_cons pe_int pa_nil))))) pa_nil)))))))
  (pss_cons (ps_set (i := 4) sc_law_odd_moves.nd rfl (Or.inl rfl) (pe_op op_cat (pv 4) (pe_lst (pa_cons (pe_tup (pa_cons pe_int (pa_cons pe_str (pa_cons pe_str (pa_cons pe_bl pa_nil))))) (pa_cons (pe_tup (pa_cons pe_int (pa_cons pe_str (pa_cons pe_str (pa_cons pe_bl pa_nil))))) (pa_cons (pe_tup (pa_cons pe_int (pa_cons pe_non (pa_cons pe_str (pa_cons pe_int pa_nil))))) (pa_cons (pe_tup (pa_cons pe_int (pa_cons pe_str (pa_cons pe_non (pa_cons pe_int pa_nil))))) (pa_cons pe_non (pa_cons pe_str (pa_cons (pe_tup pa_nil) pa_nil))))))))))
  (pss_cons (ps_set (i := 4) sc_law_odd_moves.nd rfl (Or.inl rfl) (pe_op op_cat (pv 4) (pe_lst (pa_cons (pe_tup (pa_cons pe_str (pa_cons pe_str (pa_cons pe_str (pa_cons pe_int pa_nil))))) (pa_cons (pe_tup (pa_cons pe_int (pa_cons pe_str (pa_cons pe_str (pa_cons pe_str pa_nil))))) (pa_cons (pe_tup (pa_cons pe_int (pa_cons (pe_tup (pa_cons pe_str (pa_cons pe_str pa_nil))) (pa_cons pe_int pa_nil)))) (pa_cons (pe_tup (pa_cons pe_int (pa_cons pe_str (pa_cons pe_str (pa_cons pe_non pa_nil))))) pa_nil)))))))
  (pss_cons (ps_expr (pe_bm PySem.F.plainAttrs_list PySem.F.slot_list_append PySem.F.type_list_append mt_append (pv 4) (pa_cons (pe_tup (pa_cons pe_int (pa_cons pe_str (pa_cons pe_str (pa_cons pe_int pa_nil))))) pa_nil)))
  (pss_cons (ps_set (i := 4) sc_law_odd_moves.nd rfl (Or.inl rfl) (pe_cd c__law_pick (hr.mono (by decide)) hG (by rfl) (pa_cons (pv 0) (pa_cons (pe_op op_cat (pe_op op_cat (pv 4) (pe_lst (pa_cons (pe_tup (pa_cons pe_int (pa_cons pe_str (pa_cons pe_str (pa_cons (pe_op op_pow pe_int pe_int) pa_nil))))) (pa_cons (pe_tup (pa_cons (pe_op op_pow pe_int pe_int) (pa_cons pe_str (pa_cons pe_str (pa_cons pe_int pa_nil))))) (pa_cons (pe_tup (pa_cons pe_str (pa_cons pe_str pa_nil))) (pa_cons pe_dnewK (pa_cons pe_int pa_nil))))))) (pe_op op_rep (pv 3) pe_int)) pa_nil))))
  (pss_cons (ps_set (i := 5) sc_law_odd_moves.nd rfl (Or.inl rfl) (pe_op op_cat (pe_op op_cat (pv 3) (pe_lst (pa_cons (pv 4) pa_nil))) (pe_cd c__law_pick (hr.mono (by decide)) hG (by rfl) (pa_cons (pv 0) (pa_cons (pe_lst (pa_cons (pe_lst pa_nil) (pa_cons (pe_lst (pa_cons (pv 4) pa_nil)) (pa_cons (pe_lst (pa_cons pe_non pa_nil)) (pa_cons (pv 3) pa_nil))))) pa_nil)))))
  (pss_one (ps_ret (pe_tup (pa_cons (pe_cd c__law_pick (hr.mono (by decide)) hG (by rfl) (pa_cons (pv 0) (pa_cons (pe_lst (pa_cons (pv 5) (pa_cons (pe_callTy call_tuple_of (by rfl) T.tuple bt_tuple (pa_cons (pv 5) pa_nil)) pa_nil))) pa_nil))) (pa_cons (pe_callB call_len_seq (by rfl) T.len PySem.boot_len (pa_cons (pv 3) pa_nil)) pa_nil)))))))))))))))), ?_⟩
    refine ⟨_, rfl, p, 4, rfl, hP, by decide, by decide, fun d0 H1 st1 d00 d03 => ⟨rfl, _, rfl, ?_⟩⟩
    refine ite2 (fun _ => ?_) (fun _ => ?_)
    · -- no list at all
      refine ⟨_, rfl, lst_d (K := K) (ds := oddM0) st1.pot (mkd_cons mkd_non (mkd_cons mkd_int (mkd_cons mkd_bl (mkd_cons mkd_str (mkd_cons mkd_str (mkd_cons mkd_dnew (mkd_cons (mkd_dispT (k := [.inl 0, .inr "go", .inr "ok", .inl 0]) (fun H R q => q) (by show 4 ≤ 1000; decide)) mkd_nil))))))) (by decide) fun M xs H2 s2 eM dM => ?_⟩
      refine ⟨p, M, xs, rfl, st1.pot.keep s2, SqL.of eM, by rw [dM.len]; decide, by rw [dM.len]; decide, fun x H3 st3 hx => ⟨by show 2 ≤ sizeLine; decide, fun t ht => ?_⟩⟩
      obtain ⟨e, he, da⟩ := dM.mem hx
      obtain ⟨o1, o2, o3, o4⟩ := oddM0_ok e he
      obtain ⟨o5, o6⟩ := oddM0_steps (n := n) e he
      have S := ((st1.same s2).trans st3).same (same_new ht (o := .tup [x, .non]))
      exact k t x e none _ S (off_new st3.pot ht) (da.mono (st3.same (same_new ht)).k) (fun z => by rw [o6] at z; cases z) o1 ⟨o2, by omega, by omega⟩ o5 (fun _ z => by cases z)
    · have eD := (off_some D.hd).2
      have dp : d ≠ p := (off_some D.hd).1
      have D1 := D.mono st1.k
      have eD1 := (off_some D1.hd).2
      have n1 := D.n1
      have n5 := D.n5
      have ml := D.ml
      refine ⟨_, rfl, d, .int n, rfl, DGet.k (k := .inr "many") eD1, ?_⟩
      refine ⟨_, rfl, _, rfl, d, .ref m, rfl, DGet.k (k := .inr "moves") eD1, ?_⟩
      refine ⟨p, m, mk.map fun q => V.ref q.1, rfl, st1.pot, SqL.of D1.hm, by rw [List.length_map]; omega, fun L ys H3 st3 hL Lp eL pm => ?_⟩
      obtain ⟨mk2, rfl, pm2⟩ : ∃ mk2 : List (Addr × List L2.Key), ys = mk2.map (fun q => V.ref q.1) ∧ mk2.Perm mk := perm_back pm
      have l2 : mk2.length = mk.length := pm2.length_eq
      have D3 := D1.mono st3.k
      have eD3 := (off_some D3.hd).2
      refine ⟨_, rfl, _, rfl, d, .ref m, rfl, DGet.k (k := .inr "moves") eD3, m, mk.map (fun q => V.ref q.1), rfl, .inl (SqL.of (off_some D3.hm).2), _, _, rfl, rfl, p, _, rfl, st3.pot, by rw [List.length_map]; omega, by rw [List.length_map]; omega, fun c H4 st4 c0 cn => ⟨c, rfl, L, _, rfl, SqL.of (off_keep Lp st4.k eL), fun g hg => ?_⟩⟩
      rw [List.length_map] at cn
      obtain ⟨cc, rfl⟩ : ∃ cc : Nat, c = (cc : Int) := ⟨c.toNat, by omega⟩
      have ecut : cutV (mk2.map fun q => V.ref q.1) none (some (cc : Int)) = (mk2.take cc).map fun q => V.ref q.1 := by
        rw [cut_to (by rw [List.length_map]; omega), List.map_take]
      rw [ecut]
      generalize hgs : mk2.take cc = gs
      have D4 := D3.mono st4.k
      have gsub : ∀ q ∈ gs, q ∈ mk := fun q hq => pm2.mem_iff.mp (List.mem_of_mem_take (hgs ▸ hq))
      have gnd : (gs.map Prod.snd).Nodup := by
        have q1 : (mk2.map Prod.snd).Nodup := (pm2.map Prod.snd).nodup_iff.mpr D.mv.nd
        rw [← hgs, List.map_take]
        exact (List.take_sublist cc _).nodup q1
      have gl : gs.length ≤ 9 := by rw [← hgs, List.length_take]; omega
      have P4 := st4.pot
      have S04 := (st1.trans st3).trans st4
      generalize g5 : upd H4 g _ = H5
      have s5 : Same H4 H5 := g5 ▸ same_new hg
      have e5 := g5 ▸ upd_same (H := H4) (a := g)
      clear g5
      have P5 := P4.keep s5
      have gp : g ≠ p := P4.new hg
      have S05 := S04.same s5
      refine gset ?_
      dsimp only
      refine in_set (lst_p (K := K) (ds := oddM1 n) P5 ?_ (by show 5 ≤ 1000; decide) fun a6 xs6 H6 s6 n6 k6 => ?_)
      · repeat' first | exact mkp_nil | refine mkp_cons ?_ ?_ | refine mkp_tup ?_ (Nat.le_of_ble_eq_true rfl) | exact mkd_nil | refine mkd_cons ?_ ?_ | exact mkd_int | exact mkd_str | exact mkd_bl | exact mkd_non | exact mkd_neg | exact mkd_var (by rfl) (.int _) | exact mkd_pow ⟨by decide, by decide, by decide⟩ | exact mkd_dnew | refine mkd_tup ?_ (Nat.le_of_ble_eq_true rfl) | refine mkd_lst ?_ (Nat.le_of_ble_eq_true rfl) | refine mkp_of ?_ (fun _ _ _ _ z => by cases z)
      have t6 : Same H6 (upd H6 a6 (.lst xs6)) := same_new n6
      have e6 := upd_same (H := H6) (a := a6) (o := .lst xs6)
      have P6 := (P5.keep s6).keep t6
      have k6' := k6.mono (same_off (p := p) t6)
      generalize upd H6 a6 (.lst xs6) = J6 at t6 e6 P6 k6' ⊢
      refine in_set (cat_p (K := K) (ds := oddM2) (by rfl) e6 k6' P6 ?_ (by show 10 ≤ 1000; decide) fun a7 xs7 H7 s7 n7 k7 => ?_)
      · repeat' first | exact mkp_nil | refine mkp_cons ?_ ?_ | refine mkp_tup ?_ (Nat.le_of_ble_eq_true rfl) | exact mkd_nil | refine mkd_cons ?_ ?_ | exact mkd_int | exact mkd_str | exact mkd_bl | exact mkd_non | exact mkd_neg | exact mkd_var (by rfl) (.int _) | exact mkd_pow ⟨by decide, by decide, by decide⟩ | exact mkd_dnew | refine mkd_tup ?_ (Nat.le_of_ble_eq_true rfl) | refine mkd_lst ?_ (Nat.le_of_ble_eq_true rfl) | refine mkp_of ?_ (fun _ _ _ _ z => by cases z)
      have t7 : Same H7 (upd H7 a7 (.lst xs7)) := same_new n7
      have e7 := upd_same (H := H7) (a := a7) (o := .lst xs7)
      have P7 := (P6.keep s7).keep t7
      have k7' := k7.mono (same_off (p := p) t7)
      generalize upd H7 a7 (.lst xs7) = J7 at t7 e7 P7 k7' ⊢
      refine in_set (cat_p (K := K) (ds := oddM3) (by rfl) e7 k7' P7 ?_ (by show 14 ≤ 1000; decide) fun a8 xs8 H8 s8 n8 k8 => ?_)
      · repeat' first | exact mkp_nil | refine mkp_cons ?_ ?_ | refine mkp_tup ?_ (Nat.le_of_ble_eq_true rfl) | exact mkd_nil | refine mkd_cons ?_ ?_ | exact mkd_int | exact mkd_str | exact mkd_bl | exact mkd_non | exact mkd_neg | exact mkd_var (by rfl) (.int _) | exact mkd_pow ⟨by decide, by decide, by decide⟩ | exact mkd_dnew | refine mkd_tup ?_ (Nat.le_of_ble_eq_true rfl) | refine mkd_lst ?_ (Nat.le_of_ble_eq_true rfl) | refine mkp_of ?_ (fun _ _ _ _ z => by cases z)
      have t8 : Same H8 (upd H8 a8 (.lst xs8)) := same_new n8
      have e8 := upd_same (H := H8) (a := a8) (o := .lst xs8)
      have P8 := (P7.keep s8).keep t8
      have k8' := k8.mono (same_off (p := p) t8)
      generalize upd H8 a8 (.lst xs8) = J8 at t8 e8 P8 k8' ⊢
      refine in_set (cat_p (K := K) (ds := oddM4) (by rfl) e8 k8' P8 ?_ (by show 21 ≤ 1000; decide) fun a9 xs9 H9 s9 n9 k9 => ?_)
      · repeat' first | exact mkp_nil | refine mkp_cons ?_ ?_ | refine mkp_tup ?_ (Nat.le_of_ble_eq_true rfl) | exact mkd_nil | refine mkd_cons ?_ ?_ | exact mkd_int | exact mkd_str | exact mkd_bl | exact mkd_non | exact mkd_neg | exact mkd_var (by rfl) (.int _) | exact mkd_pow ⟨by decide, by decide, by decide⟩ | exact mkd_dnew | refine mkd_tup ?_ (Nat.le_of_ble_eq_true rfl) | refine mkd_lst ?_ (Nat.le_of_ble_eq_true rfl) | refine mkp_of ?_ (fun _ _ _ _ z => by cases z)
      have t9 : Same H9 (upd H9 a9 (.lst xs9)) := same_new n9
      have e9 := upd_same (H := H9) (a := a9) (o := .lst xs9)
      have P9 := (P8.keep s9).keep t9
      have k9' := k9.mono (same_off (p := p) t9)
      generalize upd H9 a9 (.lst xs9) = J9 at t9 e9 P9 k9' ⊢
      refine in_set (cat_p (K := K) (ds := oddM5) (by rfl) e9 k9' P9 ?_ (by show 25 ≤ 1000; decide) fun a10 xs10 H10 s10 n10 k10 => ?_)
      · repeat' first | exact mkp_nil | refine mkp_cons ?_ ?_ | refine mkp_tup ?_ (Nat.le_of_ble_eq_true rfl) | exact mkd_nil | refine mkd_cons ?_ ?_ | exact mkd_int | exact mkd_str | exact mkd_bl | exact mkd_non | exact mkd_neg | exact mkd_var (by rfl) (.int _) | exact mkd_pow ⟨by decide, by decide, by decide⟩ | exact mkd_dnew | refine mkd_tup ?_ (Nat.le_of_ble_eq_true rfl) | refine mkd_lst ?_ (Nat.le_of_ble_eq_true rfl) | refine mkp_of ?_ (fun _ _ _ _ z => by cases z)
      have P10 := P9.keep s10
      have C5 : Same H5 H10 := s6.trans (t6.trans (s7.trans (t7.trans (s8.trans (t8.trans (s9.trans (t9.trans s10)))))))
      have a10p : a10 ≠ p := P10.new n10
      refine ⟨_, rfl, .inl ⟨rfl, _, SqL.of upd_same⟩, by show 4 ≤ sizeLine; decide, fun a11 h11 => ?_⟩
      have a11n : a11 ≠ a10 := fun z => by rw [z, upd_same] at h11; cases h11
      have h11' : H10 a11 = none := by rwa [upd_ne a11n] at h11
      have l10 : xs10.length = 25 := paired_len k10
      refine ⟨a10, xs10, _, rfl, rfl, by rw [upd_ne a11n.symm, upd_same], by rw [l10]; decide, ?_⟩
      have S12 : Same H10 (upd (upd (upd H10 a10 (.lst xs10)) a11 (.tup [.int 0, .str "go\n", .str "b", .int 0])) a10 (.lst (xs10 ++ [.ref a11]))) := fun c u e => by
        rw [upd_ne (ne_of_none e n10), upd_ne (ne_of_none e h11'), upd_ne (ne_of_none e n10)]
        exact e
      have e12 := upd_same (H := upd (upd H10 a10 (.lst xs10)) a11 (.tup [.int 0, .str "go\n", .str "b", .int 0])) (a := a10) (o := .lst (xs10 ++ [.ref a11]))
      have e11 : upd (upd (upd H10 a10 (.lst xs10)) a11 (.tup [.int 0, .str "go\n", .str "b", .int 0])) a10 (.lst (xs10 ++ [.ref a11])) a11 = some (.tup [.int 0, .str "go\n", .str "b", .int 0]) := by rw [upd_ne a11n, upd_same]
      generalize upd (upd (upd H10 a10 (.lst xs10)) a11 (.tup [.int 0, .str "go\n", .str "b", .int 0])) a10 (.lst (xs10 ++ [.ref a11])) = H12 at S12 e12 e11 ⊢
      have P12 := P10.keep S12
      have a11p : a11 ≠ p := P10.new h11'
      have k12 : Pks K (off p H12) (xs10 ++ [.ref a11]) (((((oddM1 n ++ oddM2) ++ oddM3) ++ oddM4) ++ oddM5) ++ [oddM6]) :=
        paired_app (k10.mono (same_off S12)) (.cons (pk_tup ((off_ne a11p).trans e11) (.cons (.int _) (.cons (.str _) (.cons (.str _) (.cons (.int _) .nil))))) .nil)
      refine ⟨_, rfl, ?_⟩
      refine in_cons (in_op (cat_p (K := K) (ds := oddM7) (by rfl) e12 k12 P12 ?_ (by show 31 ≤ 1000; decide) fun c1 xs13 H13 s13 n13 k13 => ?_))
      · repeat' first | exact mkp_nil | refine mkp_cons ?_ ?_ | refine mkp_tup ?_ (Nat.le_of_ble_eq_true rfl) | exact mkd_nil | refine mkd_cons ?_ ?_ | exact mkd_int | exact mkd_str | exact mkd_bl | exact mkd_non | exact mkd_neg | exact mkd_var (by rfl) (.int _) | exact mkd_pow ⟨by decide, by decide, by decide⟩ | exact mkd_dnew | refine mkd_tup ?_ (Nat.le_of_ble_eq_true rfl) | refine mkd_lst ?_ (Nat.le_of_ble_eq_true rfl) | refine mkp_of ?_ (fun _ _ _ _ z => by cases z)
      have P13 := P12.keep s13
      have C13 : Same H5 H13 := C5.trans (S12.trans s13)
      have eg13 := C13 _ _ e5
      have t13 : Same H13 (upd H13 c1 (.lst xs13)) := same_new n13
      refine ⟨_, rfl, g, 3, _, rfl, rfl, t13 _ _ eg13, by decide, by decide, by rw [List.length_map]; exact Nat.le_of_lt (small1000 (by show gs.length * 3 ≤ 1000; omega)), fun r hr => ?_⟩
      refine ⟨c1, r, xs13, _, rfl, rfl, (same_new hr) _ _ upd_same, upd_same, ?_, fun M hM => ?_⟩
      · have l13 := paired_len k13
        have lf : (List.replicate (3 : Int).toNat (gs.map fun q => V.ref q.1)).flatten.length = 3 * gs.length := by
          rw [List.length_flatten, List.map_replicate, List.sum_replicate_nat, List.length_map]
          rfl
        rw [lf, l13]
        exact Nat.le_of_lt (small1000 (by show 31 + 3 * gs.length ≤ 1000; omega))
      have l13 := paired_len k13
      have s16 : Same H13 (upd (upd (upd H13 c1 (.lst xs13)) r (.lst (List.replicate (Int.toNat 3) (gs.map fun q => V.ref q.1)).flatten)) M (.lst (xs13 ++ (List.replicate (Int.toNat 3) (gs.map fun q => V.ref q.1)).flatten))) := t13.trans ((same_new hr).trans (same_new hM))
      have e16 := upd_same (H := upd (upd H13 c1 (.lst xs13)) r (.lst (List.replicate (Int.toNat 3) (gs.map fun q => V.ref q.1)).flatten)) (a := M) (o := .lst (xs13 ++ (List.replicate (Int.toNat 3) (gs.map fun q => V.ref q.1)).flatten))
      have Mp : M ≠ p := ((P13.keep t13).keep (same_new hr)).new hM
      have lf : (List.replicate (Int.toNat 3) (gs.map fun q => V.ref q.1)).flatten.length = 3 * gs.length := by
        rw [List.length_flatten, List.map_replicate, List.sum_replicate_nat, List.length_map]
        rfl
      generalize upd (upd (upd H13 c1 (.lst xs13)) r (.lst (List.replicate (Int.toNat 3) (gs.map fun q => V.ref q.1)).flatten)) M (.lst (xs13 ++ (List.replicate (Int.toNat 3) (gs.map fun q => V.ref q.1)).flatten)) = H16 at s16 e16 ⊢
      have P16 := P13.keep s16
      refine ⟨p, M, _, rfl, P16, SqL.of ((off_ne Mp).trans e16), by rw [List.length_append, l13]; exact Nat.le_trans (by decide : 1 ≤ 31) (Nat.le_add_right _ _), by rw [List.length_append, l13, lf]; show 31 + 3 * gs.length ≤ 1000; omega, fun x H17 st17 hx => ?_⟩
      have C16 := C13.trans s16
      have S57 : Stp p H5 H17 := ((Stp.refl P5).same C16).trans st17
      have D5 := D4.mono (same_off s5)
      have D17 := D5.mono S57.k
      have gk : ∀ q ∈ gs, Pk K (off p H17) (.ref q.1) (keyT q.2) ∧ MvOk n q.2 := fun q hq => ⟨pk_tup (D17.mv.at_ q (gsub q hq)).1 (da_keys q.2), (D17.mv.at_ q (gsub q hq)).2⟩
      obtain ⟨bd, px, bok, blim, bkey⟩ : ∃ bd, Pk K (off p H17) x bd ∧ okD bd = true ∧ Lim 2 363 bd ∧ (keyM n bd = none ∨ ∃ k, keyM n bd = some k ∧ k ∈ gs.map Prod.snd) := by
        rcases List.mem_append.mp hx with h | h
        · obtain ⟨bd, hb, pk⟩ := pks_mem ((k13.mono (same_off s16)).mono st17.k) h
          have hb2 : bd ∈ oddM n := by
            have e : (((((oddM1 n ++ oddM2) ++ oddM3) ++ oddM4) ++ oddM5) ++ [oddM6]) ++ oddM7 = oddM n := by simp only [oddM, List.append_assoc]
            rw [← e]
            exact hb
          obtain ⟨o1, o2, o3⟩ := oddM_ok n1 n5 bd hb2
          exact ⟨bd, pk, o1, o2.up (Nat.le_refl _) (by decide), .inl o3⟩
        · obtain ⟨l, hl, hxl⟩ := List.mem_flatten.mp h
          rw [List.eq_of_mem_replicate hl] at hxl
          obtain ⟨q, hq, rfl⟩ := List.mem_map.mp hxl
          obtain ⟨pk, mo⟩ := gk q hq
          exact ⟨keyT q.2, pk, key_okD mo, key_lim n1 n5 mo, .inr ⟨q.2, keyM_good mo, List.mem_map_of_mem hq⟩⟩
      have e17 := off_keep gp S57.k e5
      have pg : Pks K (off p H17) (gs.map fun q => V.ref q.1) (gs.map fun q => keyT q.2) := pks_map fun q hq => (gk q hq).1
      refine made_read S57.pot ((off_ne gp).trans e17) pg px (by rw [List.length_map]; omega) fun t y e xs ds tl a H8 st8 et ey eds pks ha ht hlt => ?_
      have okg : ∀ d ∈ gs.map (fun q => keyT q.2), okD d = true ∧ Lim 2 363 d := fun d hd => by
        obtain ⟨q, hq, rfl⟩ := List.mem_map.mp hd
        exact ⟨key_okD (gk q hq).2, key_lim n1 n5 (gk q hq).2⟩
      have okn : okD .none = true ∧ Lim 2 363 .none := ⟨rfl, rfl, Nat.zero_le _, by decide +kernel⟩
      have oka : ∀ d ∈ ds, okD d = true ∧ Lim 2 363 d := fun d hd => by
        rw [eds] at hd
        rcases List.mem_append.mp hd with h | h
        · exact okg d h
        rcases List.mem_cons.mp h with rfl | h
        · exact ⟨bok, blim⟩
        rcases ht d h with rfl | rfl | h
        · exact ⟨bok, blim⟩
        · exact okn
        · exact okg d h
      have ldl : ds.length ≤ 20 := by
        rw [eds, List.length_append, List.length_cons, List.length_map]
        rw [List.length_map] at hlt
        omega
      have hda := pks.das
      have hfw : fwk [] (ds.map (keyM n)) 0 = some gs.length := by
        have e1 : ds.map (keyM n) = (gs.map Prod.snd).map some ++ keyM n bd :: tl.map (keyM n) := by
          rw [eds, List.map_append, List.map_cons, List.map_map, List.map_map]
          congr 1
          exact List.map_congr_left fun q hq => keyM_good (gk q hq).2
        rw [e1, fwk_good (gs := gs.map Prod.snd) gnd (fun _ _ => List.not_mem_nil) ?_, List.length_map, Nat.zero_add]
        rcases bkey with h | ⟨k, h1, h2⟩
        · exact .inl h
        · exact .inr ⟨k, h1, .inl h2⟩
      have okl : okAll ds = true := okAll_of fun d hd => (oka d hd).1
      have S08 := (S05.trans S57).trans st8
      rw [List.length_map] at et
      have tp : ∀ (i : Nat) (s t : Int) (c z : Str), ds[i]? = some (.tuple [.int s, .str c, .str z, .int t]) → ∃ b : Addr, xs[i]? = some (V.ref b) ∧ off p H8 b = some (.tup [.int s, .str c, .str z, .int t]) := fun i s t c z h => by
        obtain ⟨v, hv, pk⟩ := pks_at pks h
        obtain ⟨b, rfl, hb⟩ := pk.tp s t c z rfl
        exact ⟨b, hv, hb⟩
      rcases ha with ⟨ha, rfl⟩ | ⟨ha, rfl⟩
      · exact k t y _ (some gs.length) H8 S08 et (ey ▸ .lst (SqL.of ha) hda) (fun _ => ⟨a, xs, ds, ey, .inl ⟨SqL.of ha, rfl⟩, hda, tp⟩) (by rw [okD, okl, decide_eq_true (by omega : ds.length ≤ 100)]; rfl) (lim_list (fun d hd => (oka d hd).2) (by omega)) (by show (fwk [] (ds.map (keyM n)) 0).map some = _; rw [hfw]; rfl) fun i hi => by cases hi; omega
      · exact k t y _ (some gs.length) H8 S08 et (ey ▸ .tup (SqT.of ha) hda) (fun _ => ⟨a, xs, ds, ey, .inr ⟨SqT.of ha, rfl⟩, hda, tp⟩) (by rw [okD, okl, decide_eq_true (by omega : ds.length ≤ 100)]; rfl) (lim_tup (fun d hd => (oka d hd).2) (by omega)) (by show (fwk [] (ds.map (keyM n)) 0).map some = _; rw [hfw]; rfl) fun i hi => by cases hi; omega
end
end K11
/-! ## K11A -/
set_option Elab.async false
set_option linter.all false
set_option maxRecDepth 100000
set_option maxHeartbeats 4000000
namespace K11
open PySem PySem.Spec PyProof.Rows L2 He Vx
/-! ### a def whose code object is known -/
def cdAt (K : PySem.W.Frag) (f : Addr) : Value := match K.lookup f with
  | some ⟨_, _, .func fd, _⟩ => fd.code
  | _ => .none
section
variable {P : Program} {w : World} {K : PySem.W.Frag} {mg : Str → Option Value} {base : Heap} {k : Nat} {x : Str} {ps N : List Str} {sp : Sp} {st : Stmt} {f0 : Addr}
theorem okGC {qual : Str} {f : Addr} {fd : FuncData} {CX : CXT} (F : Fun K x qual st f fd) (S : FnScope N ps (defScope st)) (len : ∀ vs H Q E, sp vs H Q E → vs.length = ps.length)
    (hbody : ∀ (A : Around) (outer : List Env) (s : Shared) (H : Hp) (vs : List V) (Q : VK) (E : XK), Room k (A.deeper (envOfC qual (defScope st) s.heap.objs.size f (cdAt K f))) → Gd (A.deeper (envOfC qual (defScope st) s.heap.objs.size f (cdAt K f))) → sp vs H Q E →
      ∃ t, PSs (cxOf CX P w K mg base N qual (defScope st) f (cdAt K f) A outer s H E) (defBody st) t ∧ t { nx := fun _ H' => Q .non H', rt := Q } (start N vs) H) : FnG P w K mg base CX (k + 1) f fd ps sp := by
  obtain ⟨oc, od, kV, doc, pm, an, cdv, ct, osl, rfl, lk, hcd⟩ := F.ex
  have ec : cdAt K f = cdv := by
    unfold cdAt
    rw [lk]
  rw [ec] at hbody
  refine ⟨len, fun A outer s H args us vs Q E hr hG e0 hb r hsp => ?_⟩
  have hL := len vs H Q E hsp
  have kx : K.In s.heap := e0.mod.kin.keeps (fun b o z => (e0.bs b o z).1)
  have nl : s.heap.NoLimit := e0.mod.nolimit.keeps (fun b o z => (e0.bs b o z).1)
  have hk2 : ∀ y ∈ ps.zip us, (defScope st).names.lookup y.1 = some .local ∨ ((defScope st).names.lookup y.1 = some .cell ∧ ((cellsFrom (s.heap.objs.size + 1) (defScope st).names []).lookup y.1).isSome = true) := by
    rintro ⟨n, v⟩ hy
    rcases S.par n (List.of_mem_zip hy).1 with z | z
    · exact Or.inl z
    · exact Or.inr ⟨z, PySem.W.cellsFrom_some _ _ _ (Or.inl z)⟩
  refine codeAny_call_function hr.depth (kx _ _ lk) rfl S.co S.gen rfl (PySem.W.codeRec_of kx hcd) (hb _ _ _ _ ?_)
  refine wpAny_newFunctionEnv_cells S.kind hk2 (fun env he s1 x1 => ?_)
  subst he
  refine ⟨nl.keeps x1.toInCall.keep, codeAny_func ?_⟩
  obtain ⟨t, ht, hq⟩ := hbody A outer s H vs Q E (hr.deeper _) hG hsp
  have J0 : Inv (cxOf CX P w K mg base N qual (defScope st) f cdv A outer s H E) [] (start N vs) H s1 := inv_start S hr.hd e0 hL r x1
  refine wpAny_mono (ht.run [] s1 (start N vs) H _ J0 hq) (fun fl s2 z => ?_) (fun e s2 z => z)
  rcases fl with _ | _ | _ | u
  · obtain ⟨σ1, H1, J, q⟩ := z
    exact ⟨V.non, H1, J.os, J.bare, J.base, J.hok, rfl, q⟩
  · obtain ⟨_, _, _, q⟩ := z
    exact q.elim
  · obtain ⟨_, _, _, q⟩ := z
    exact q.elim
  · obtain ⟨v, σ1, H1, J, rv, q⟩ := z
    exact ⟨v, H1, J.os, J.bare, J.base, J.hok, rv, q⟩
/-- a def of the text, its code object told -/
theorem cd_mkC (F : At K mg x st) (hm : mg x = some (.ref f0)) (S : FnScope N ps (defScope st)) (len : ∀ vs H Q E, sp vs H Q E → vs.length = ps.length)
    (hb : ∀ (kV doc pm : Value) (an : Option Addr) (cdv ct : Value) (us : List Value), us.length = ps.length → bindArgs (PySem.W.fnOf x x (defArgs st) (defBody st) (defScope st) .none kV doc pm an cdv ct) ⟨us, []⟩ = pure (ps.zip us))
    (hbody : ∀ (A : Around) (outer : List Env) (s : Shared) (H : Hp) (vs : List V) (Q : VK) (E : XK), Room k (A.deeper (envOfC x (defScope st) s.heap.objs.size f0 (cdAt K f0))) → Gd (A.deeper (envOfC x (defScope st) s.heap.objs.size f0 (cdAt K f0))) → sp vs H Q E →
      ∃ t, PSs (cxOf CX0 P w K mg base N x (defScope st) f0 (cdAt K f0) A outer s H E).nox (defBody st) t ∧ t { nx := fun _ H' => Q .non H', rt := Q } (start N vs) H) : Cd P w K mg base (k + 1) x ps sp := by
  obtain ⟨f, fd, F, gf⟩ := F.ex
  cases gf.symm.trans hm
  refine ⟨_, fd, okGC F S len (fun A outer s H vs Q E hr hG h => ?_), gf, F.kp, F.binds hb⟩
  obtain ⟨t, h1, h2⟩ := hbody A outer s H vs Q E hr hG h
  exact ⟨t, h1.nox, h2⟩
end
/-! ### _law_heard(lambda: ..) -/
section
variable {X : Cx} {T : List (Addr × Str)} {c P : Addr} {k : Nat} {params : Arguments} {body : Expr} {scope : Scope} {t : XK → TE} {p lpos pos : Pos}
theorem pe_heard (F : At X.K X.mg "_law_heard" s_law_heard) (B : BI X.mg) (ES : ErrSet X.prog X.w X.K X.mg X.base) (XG : XcG X.K) (HK : HeardK X.K) (hG : Gd X.A) (hg : Gl X "_law_heard") (TB : LamX.TabB X.base X.mg c P) (hcode : X.env.code = .ref c)
    (hmT : (P, X.env.qual ++ "<lambda>") ∈ T) (hu : ∀ q ∈ T, q.1 = P → q.2 = X.env.qual ++ "<lambda>") (hr : Room (k + 2) X.A) (L : LamX.LamS X.env.scope scope) (hdef : defaultsOf params X.env = ([], []))
    (hbind : ∀ (q : Str) (cl : List (Str × Addr)) (pm cv ctv : Value), bindArgs (PySem.W.kla_fn "<lambda>" q params body scope cl pm cv ctv) ⟨[], []⟩ = pure [])
    (hbody : ∀ (A : Around) (outer : List Env) (s : Shared) (H : Hp) (E : XK) (f c' : Addr), Room k (A.deeper (LamX.lamEnv X scope s.heap.objs.size f c')) → PE (LamX.lamCx X A outer s H E scope f c') body (t E)) :
    PE X (.Call (.Name "_law_heard" p) [.Lambda params body scope lpos] [] pos) (LamX.tLam T (TTh X.K) t) := by
  obtain ⟨g, fd, Fh, gm⟩ := F.ex
  have kp := Fh.kp
  have bs := Fh.binds (ps := ["_law_call"]) (fun _ _ _ _ _ _ us hl => match us, hl with | [_], _ => rfl)
  obtain ⟨oc, od, kV, doc, pm, an, cdv, ct, osl, rfl, lk, hcd⟩ := Fh.ex
  exact LamX.pe_lamcall hg gm kp lk hcd bs sc_law_heard rfl (.inl rfl) (heard_gives (k := k) B ES XG HK hG (hr.mono (Nat.le_succ _))) TB hcode hmT hu hr L hdef hbind hbody
end
end K11
/-! ## K11B -/
set_option Elab.async false
set_option linter.all false
set_option maxRecDepth 100000
set_option maxHeartbeats 4000000
namespace K11
open PySem PySem.Spec PyProof.Rows L2 He Vx
open LamX (ExtN Tabs TabS)
/-! ### all but the tables stays -/
section
variable {K : PySem.W.Frag} {H H' : Hp}
theorem seqL_ext (e : ExtN H H') {a : Addr} {xs : List V} (h : SqL K H a xs) : SqL K H' a xs := by
  rcases h with (h | ⟨u, h⟩) | h
  · exact .inl (.inl (e _ _ h fun _ z => by cases z))
  · exact .inl (.inr ⟨u, e _ _ h fun _ z => by cases z⟩)
  · exact .inr h
theorem seqT_ext (e : ExtN H H') {a : Addr} {xs : List V} (h : SqT K H a xs) : SqT K H' a xs := by
  rcases h with (h | ⟨u, h⟩) | h
  · exact .inl (.inl (e _ _ h fun _ z => by cases z))
  · exact .inl (.inr ⟨u, e _ _ h fun _ z => by cases z⟩)
  · exact .inr h
mutual
theorem da_ext (e : ExtN H H') : ∀ {v : V} {d : PyData}, Da K H v d → Da K H' v d
  | _, _, .non => .non
  | _, _, .bl b => .bl b
  | _, _, .int i => .int i
  | _, _, .str x => .str x
  | _, _, .lst h g => .lst (seqL_ext e h) (das_ext e g)
  | _, _, .tup h g => .tup (seqT_ext e h) (das_ext e g)
  | _, _, .dK h g => .dK (e _ _ h fun _ z => by cases z) (das_ext e g)
  | _, _, .dT h g => .dT (e _ _ h fun _ z => by cases z) (das_ext e g)
theorem das_ext (e : ExtN H H') : ∀ {vs : List V} {ds : List PyData}, Das K H vs ds → Das K H' vs ds
  | _, _, .nil => .nil
  | _, _, .cons a b => .cons (da_ext e a) (das_ext e b)
end
theorem Tups.ext {x : V} {d : PyData} (h : Tups K H x d) (s : ExtN H H') : Tups K H' x d := fun e => by
  obtain ⟨a, xs, ds, h1, h2, h3, h4⟩ := h e
  refine ⟨a, xs, ds, h1, h2.imp (fun z => ⟨seqL_ext s z.1, z.2⟩) (fun z => ⟨seqT_ext s z.1, z.2⟩), das_ext s h3, fun i sa t c z q => ?_⟩
  obtain ⟨b, e1, e2⟩ := h4 i sa t c z q
  exact ⟨b, e1, s _ _ e2 fun _ z => by cases z⟩
theorem DealAt.ext {n : Int} {fs : List Int} {mk : List (Addr × List L2.Key)} {d f m : Addr} (h : DealAt H n fs mk d f m) (s : ExtN H H') : DealAt H' n fs mk d f m :=
  ⟨s _ _ h.hd (fun _ z => by cases z), s _ _ h.hf (fun _ z => by cases z), s _ _ h.hm (fun _ z => by cases z), h.n1, h.n5, h.f1, h.f3, h.fn, h.fi, ⟨fun q hq => ⟨s _ _ (h.mv.at_ q hq).1 (fun _ z => by cases z), (h.mv.at_ q hq).2⟩, h.mv.nd⟩, h.ml⟩
end
/-- a step: the pot is one, the tables are, all else stays -/
structure StT (p : Addr) (T : List (Addr × Str)) (H H' : Hp) : Prop where
  pot : Pot p H'
  tabs : Tabs T H'
  k : ExtN (off p H) (off p H')
section
variable {p : Addr} {T : List (Addr × Str)} {H H1 H2 : Hp}
theorem StT.refl (P : Pot p H) (t : Tabs T H) : StT p T H H := ⟨P, t, ExtN.refl _⟩
theorem StT.trans (a : StT p T H H1) (b : StT p T H1 H2) : StT p T H H2 := ⟨b.pot, b.tabs, a.k.trans b.k⟩
theorem ext_off (e : ExtN H H1) : ExtN (off p H) (off p H1) := fun a o h n => by
  obtain ⟨na, h⟩ := off_some h
  exact (off_ne na).trans (e a o h n)
theorem StT.same (a : StT p T H H1) (s : Same H1 H2) : StT p T H H2 := ⟨a.pot.keep s, a.tabs.ext s, a.k.trans (ext_off (ExtN.of s))⟩
theorem pot_ext (P : Pot p H) (e : ExtN H H1) : Pot p H1 := by
  obtain ⟨a, b, h, r⟩ := P
  exact ⟨a, b, e _ _ h (fun _ z => by cases z), r⟩
theorem StT.ext (a : StT p T H H1) (e : ExtN H1 H2) (t : Tabs T H2) : StT p T H H2 := ⟨pot_ext a.pot e, t, a.k.trans (ext_off e)⟩
theorem code_lst {c : Addr} {q : Str} {xs : List V} : LamX.CodeO c q ≠ .lst xs := fun z => by
  unfold LamX.CodeO at z
  cases z
theorem tabs_at {a : Addr} {xs : List V} (t : Tabs T H) (e : H a = some (.lst xs)) (k : ∀ b u, b ≠ a → H b = some u → H1 b = some u) : Tabs T H1 := fun q hq => by
  obtain ⟨ps, h1, h2, h3⟩ := t q hq
  refine ⟨ps, k _ _ (ne_of h1 e fun z => by cases z) h1, h2, fun pos cv hc => ?_⟩
  obtain ⟨c, e1, e2⟩ := h3 pos cv hc
  exact ⟨c, e1, k _ _ (ne_of e2 e code_lst) e2⟩
theorem Stp.t (P : Pot p H) (t : Tabs T H) (s : Stp p H H1) : StT p T H H1 := by
  obtain ⟨i, j, e, _⟩ := P
  exact ⟨s.pot, tabs_at t e fun b u n h => off_keep n s.k h, ExtN.of s.k⟩
theorem StT.stp (a : StT p T H H1) (s : Stp p H1 H2) : StT p T H H2 := a.trans (Stp.t a.pot a.tabs s)
/-- what is written at a list that was free -/
theorem StT.putD {D : Addr} {H4 : Hp} {o : HO} {xs : List V} (z : StT p T H H4) (hD : H D = none) (n : D ≠ p) (e : H4 D = some (.lst xs)) : StT p T H (upd H4 D o) := by
  refine ⟨?_, tabs_at z.tabs e fun b u nb h => by rw [upd_ne nb]; exact h, fun a u e nt => ?_⟩
  · obtain ⟨a, b, e, r⟩ := z.pot
    exact ⟨a, b, (upd_ne n.symm).trans e, r⟩
  · obtain ⟨na, ea⟩ := off_some e
    have q := z.k a u e nt
    rw [off_ne na] at q
    rw [off_ne na, upd_ne (ne_of_none ea hD)]
    exact q
theorem StT.at_ {a : Addr} {o : HO} (z : StT p T H H1) (n : a ≠ p) (nt : ∀ ps, o ≠ .tbl ps) (e : H a = some o) : H1 a = some o := by
  have q := z.k a o ((off_ne n).trans e) nt
  rwa [off_ne n] at q
end
/-! ### Box called -/
def kA {α : Type} : List α → List α → List α
  | [x], [a, b, c] => [x, c, a, b]
  | _, _ => []
def kB {α : Type} : List α → List α → List α
  | [x], [a, b, c] => [x, c, b, a]
  | _, _ => []
def kC {α : Type} : List α → List α → List α
  | [x], [a, b, c] => [x, b, c, a]
  | _, _ => []
def kD {α : Type} (e : α) : List α → List α → List α
  | [x], [a, b] => [x, b, a, e]
  | _, _ => []
abbrev psB : List Str := ["self", "states", "starts", "steps"]
structure BoxM (P : Program) (w : World) (K : PySem.W.Frag) (mg : Str → Option Value) (base : Heap) (e0 : Addr) : Prop where
  hm : mg "Box" = some (.ref (ga K "Box"))
  e00 : ∀ H, SqT K H e0 []
  ex : ∃ (f : Addr) (fd : FuncData) (d0 : Value), L2.Mk K (ga K "Box") f ∧ FnOk P w K mg base (L2.CX P w) 6 f fd psB (spBox K) ∧ Binds K fd psB [] ∧ Vals [.ref e0] [d0] ∧ Binds K fd psB [d0] ∧
    KBn K fd psB 1 ["starts", "steps", "states"] kA kA ∧ KBn K fd psB 1 ["steps", "starts", "states"] kB kB ∧ KBn K fd psB 1 ["steps", "states", "starts"] kC kC ∧ KBn K fd psB 1 ["starts", "states"] (kD d0) (kD (.ref e0))
/-- what comes of Box(v, y, z), by the data -/
def BoxOut (K : PySem.W.Frag) (H : Hp) (v : V) (d e f : PyData) (E : XK) (R : VK) : Prop :=
  (manyD d = none ∧ ∀ dd H', Same H H' → H' dd = some (.xd [("value", v)]) → E (.ref (ga K "InvalidStates")) (some dd) H') ∨
   ∃ n, manyD d = some n ∧ ((∃ r, startsD n e = some r ∧ ∀ dd H', Same H H' → H' dd = some (.xd [("position", posV r)]) → E (.ref (ga K "InvalidStarts")) (some dd) H') ∨
     (startsD n e = none ∧ ((∃ r, stepsD n f = some r ∧ ∀ dd H', Same H H' → H' dd = some (.xd [("position", posV r)]) → E (.ref (ga K "InvalidSteps")) (some dd) H') ∨
      (stepsD n f = none ∧ n ≤ 6 ∧ lenD f ≤ 24 ∧ ∀ y H', Same H H' → R y H'))))
theorem box_call {K : PySem.W.Frag} {H : Hp} {v y z : V} {d e f : PyData} {E : XK} {R : VK} (hd : Da K H v d) (he : Da K H y e) (hf : Da K H z f) (ht : Tups K H z f) (okd : okD d = true) (oke : okD e = true) (okf : okD f = true) (h : BoxOut K H v d e f E R) :
    ∀ x dx, H x = none → H dx = none → dx ≠ x → spBox K [.ref x, v, y, z] (upd (upd H dx (.own x)) x (.ins (ga K "Box") dx [])) (fun u H3 => u = .non ∧ R (.ref x) H3) E := fun x dx hx hdx ne => by
  have s : Same H (upd (upd H dx (.own x)) x (.ins (ga K "Box") dx [])) := fun c u ec => by
    rw [upd_ne (ne_of_none ec hx), upd_ne (ne_of_none ec hdx)]
    exact ec
  refine ⟨x, _, dx, v, y, z, d, e, f, rfl, rfl, upd_same, hd.mono s, he.mono s, hf.mono s, ht.mono s, okd, oke, okf, ?_⟩
  rcases h with ⟨h1, h2⟩ | ⟨n, h1, h2⟩
  · exact .inl ⟨h1, fun dd H' s' => h2 dd H' (s.trans s')⟩
  · refine .inr ⟨n, h1, ?_⟩
    rcases h2 with ⟨r, h3, h4⟩ | ⟨h3, h4⟩
    · exact .inl ⟨r, h3, fun dd H' s' => h4 dd H' (s.trans s')⟩
    · refine .inr ⟨h3, ?_⟩
      rcases h4 with ⟨r, h5, h6⟩ | ⟨h5, h6, h7, h8⟩
      · exact .inl ⟨r, h5, fun dd H' s' => h6 dd H' (s.trans s')⟩
      · exact .inr ⟨h5, h6, h7, fun H' b => ⟨rfl, h8 _ _ fun c u ec => b c u (ne_of_none ec hx) (s c u ec)⟩⟩
def posD : Option Nat → PyData
  | none => .none
  | some i => .int (i : Int)
theorem da_pos {K : PySem.W.Frag} {H : Hp} : ∀ r : Option Nat, Da K H (posV r) (posD r)
  | none => .non
  | some i => .int i
theorem show_pos {r : Option Nat} (h : ∀ i, r = some i → i ≤ 9) : Show (posD r) := by
  cases r with
  | none => exact ⟨rfl, Nat.zero_le _, by decide +kernel⟩
  | some i =>
    have q := lim_int (i := (i : Int)) (by have := h i rfl; omega)
    exact ⟨q.1, Nat.le_trans q.2.1 (by decide), Nat.le_trans q.2.2 (by decide)⟩
section
variable {K : PySem.W.Frag} {H : Hp} {v : V} {d e f : PyData} {Q R : VK} {n : Int} {r : Option Nat}
theorem outS (hm : manyD d = none) (hd : Da K H v d) (sh : Show d) (q : ∀ D H', Same H H' → H' D = none → Q (.ref D) (upd H' D (.lst [.str "states", .str d.shown, .bl true]))) : BoxOut K H v d e f (HE K Q) R :=
  .inl ⟨hm, fun dd H' s hx => ⟨"InvalidStates", dd, v, d, by simp, rfl, rfl, hx, hd.mono s, sh, fun D hD => q D H' s hD⟩⟩
theorem outA (hm : manyD d = some n) (hs : startsD n e = some r) (hr : ∀ i, r = some i → i ≤ 9) (q : ∀ D H', Same H H' → H' D = none → Q (.ref D) (upd H' D (.lst [.str "starts", .str (posD r).shown, .bl true]))) : BoxOut K H v d e f (HE K Q) R :=
  .inr ⟨n, hm, .inl ⟨r, hs, fun dd H' s hx => ⟨"InvalidStarts", dd, posV r, posD r, by simp, rfl, rfl, hx, da_pos r, show_pos hr, fun D hD => q D H' s hD⟩⟩⟩
theorem outP (hm : manyD d = some n) (hs : startsD n e = none) (hp : stepsD n f = some r) (hr : ∀ i, r = some i → i ≤ 9) (q : ∀ D H', Same H H' → H' D = none → Q (.ref D) (upd H' D (.lst [.str "steps", .str (posD r).shown, .bl true]))) : BoxOut K H v d e f (HE K Q) R :=
  .inr ⟨n, hm, .inr ⟨hs, .inl ⟨r, hp, fun dd H' s hx => ⟨"InvalidSteps", dd, posV r, posD r, by simp, rfl, rfl, hx, da_pos r, show_pos hr, fun D hD => q D H' s hD⟩⟩⟩⟩
theorem outL (hm : manyD d = some n) (hs : startsD n e = none) (hp : stepsD n f = none) (n6 : n ≤ 6) (l : lenD f ≤ 24) (E : XK) (q : ∀ y H', Same H H' → R y H') : BoxOut K H v d e f E R := .inr ⟨n, hm, .inr ⟨hs, .inr ⟨hp, n6, l, q⟩⟩⟩
end
end K11
/-! ## K11D -/
set_option Elab.async false
set_option linter.all false
set_option maxRecDepth 100000
set_option maxHeartbeats 4000000
namespace K11
open PySem PySem.Spec PyProof.Rows L2 He Vx
open LamX (ExtN Tabs TabS)
section
variable {K : PySem.W.Frag} {p : Addr} {T : List (Addr × Str)} {H H0 : Hp} {σ : L2.St} {t : XK → TE} {row : List V}
/-- the call in a lambda is heard as this row -/
def Hears (K : PySem.W.Frag) (T : List (Addr × Str)) (p : Addr) (H0 : Hp) (σ : L2.St) (t : XK → TE) (row : List V) : Prop :=
  ∀ H (R : VK), StT p T H0 H → (∀ D H', StT p T H H' → D ≠ p → H' D = some (.lst row) → R (.ref D) H') → LamX.tLam T (TTh K) t σ H R
/-- by what the box's making does -/
theorem hears_of (row : List V) (h : ∀ H (R Q : VK), StT p T H0 H → (∀ D H', Same H H' → H' D = none → Q (.ref D) (upd H' D (.lst row))) → (row = [.str "let"] → ∀ y H', Same H H' → R y H') → t (HE K Q) σ H R) : Hears K T p H0 σ t row := by
  intro H R st q
  refine ⟨st.tabs, fun H1 ex tb D1 hD1 => ?_⟩
  have s1 := (StT.refl st.pot st.tabs).ext ex tb
  have D1p : D1 ≠ p := s1.pot.new hD1
  have s2 : StT p T H (upd H1 D1 (.lst [.str "let"])) := s1.same (same_new hD1)
  have e2 := upd_same (H := H1) (a := D1) (o := .lst [.str "let"])
  generalize upd H1 D1 (.lst [.str "let"]) = H2 at s2 e2 ⊢
  refine h H2 _ R (st.trans s2) (fun D H' s hD => ?_) (fun e y H' s => ?_)
  · exact q D _ ((s2.same s).same (same_new hD)) ((s2.pot.keep s).new hD) upd_same
  · exact ⟨_, rfl, q D1 H' (s2.same s) D1p (by rw [e]; exact s _ _ e2)⟩
/-- rows heard one after the other, in the list at L -/
structure Rows (H : Hp) (L : Addr) (Ds : List Addr) (row : List V) : Prop where
  at_ : H L = some (.lst (Ds.map V.ref))
  each : ∀ D ∈ Ds, H D = some (.lst row)
theorem row_ne {L D : Addr} {Ds : List Addr} {a : Str} {r : List V} (hL : H L = some (.lst (Ds.map V.ref))) (hD : H D = some (.lst (.str a :: r))) : D ≠ L := by
  refine ne_of hD hL fun z => ?_
  have z := HO.lst.inj z
  cases Ds with
  | nil => cases z
  | cons d ds => cases (List.cons.inj z).1
/-- heard = [_law_heard(..)] -/
theorem lst_heard {a : Str} {r : List V} {i : Nat} {u : TS} {D : Ends} (h : Hears K T p H0 σ t (.str a :: r)) (st : StT p T H0 H)
    (q : ∀ L Hb H', StT p T H Hb → Hb L = none → L ≠ p → StT p T Hb H' → (∃ Ds, Ds.length = 1 ∧ Rows H' L Ds (.str a :: r)) → u D (σ.set i (some (.ref L))) H') : tSeq (tAsg (tLst (tCons (LamX.tLam T (TTh K) t) tNil)) (gName i)) u D σ H := by
  refine h H _ st fun D1 H1 s1 n1 e1 => ⟨by show 1 ≤ sizeLine; decide, fun L hL => ?_⟩
  refine q L H1 _ s1 hL (s1.pot.new hL) ((StT.refl s1.pot s1.tabs).same (same_new hL)) ⟨[D1], rfl, upd_same, fun D2 h2 => ?_⟩
  cases List.mem_singleton.mp h2
  exact (same_new hL) _ _ e1
/-- heard.append(_law_heard(..)) -/
theorem app_heard {a : Str} {r : List V} {i : Nat} {u : TS} {D : Ends} {Hb : Hp} {L : Addr} {n : Nat} (h : Hears K T p H0 σ t (.str a :: r)) (s0 : StT p T H0 Hb) (hv : σ[i]? = some (some (.ref L))) (st : StT p T Hb H) (hb : Hb L = none) (Lp : L ≠ p) (rs : ∃ Ds, Ds.length = n ∧ Rows H L Ds (.str a :: r)) (hn : n ≤ 100)
    (q : ∀ H', StT p T Hb H' → (∃ Ds, Ds.length = n + 1 ∧ Rows H' L Ds (.str a :: r)) → u D σ H') : tSeq (tDrop (tBM K "list" rAppend (tVar i) (tCons (LamX.tLam T (TTh K) t) tNil))) u D σ H := by
  obtain ⟨Ds, ln, ra, re⟩ := rs
  refine ⟨_, hv, .inl ⟨rfl, _, SqL.of ra⟩, h H _ (s0.trans st) fun D1 H1 s1 n1 e1 => ?_⟩
  have ra1 := s1.at_ Lp (fun _ z => by cases z) ra
  refine ⟨L, _, _, rfl, rfl, ra1, by rw [List.length_map]; exact small1000 (by omega), ?_⟩
  have keep : ∀ E, H1 E = some (.lst (.str a :: r)) → upd H1 L (.lst (Ds.map V.ref ++ [.ref D1])) E = some (.lst (.str a :: r)) := fun E e => by
    rw [upd_ne (row_ne ra1 e)]
    exact e
  refine q _ ((st.trans s1).putD hb Lp ra1) ⟨Ds ++ [D1], by rw [List.length_append, ln]; rfl, ?_, fun E hE => ?_⟩
  · rw [upd_same, List.map_append]
    rfl
  · rcases List.mem_append.mp hE with h | h
    · refine keep E (s1.at_ (fun z => ?_) (fun _ z => by cases z) (re E h))
      obtain ⟨x, y, ep, _⟩ := st.pot
      have e := re E h
      rw [z, ep] at e
      cases e
    · cases List.mem_singleton.mp h
      exact keep _ e1
/-! ### rows compared -/
theorem rows_dp {row : List V} {rd : List PyData} (dr : DpAll K H row rd) : ∀ {Ds : List Addr}, (∀ D ∈ Ds, H D = some (.lst row)) → DpAll K H (Ds.map V.ref) (List.replicate Ds.length (.list rd))
  | [], _ => .nil
  | D :: Ds, h => .cons (.lst (SqL.of (h D (List.mem_cons_self ..))) dr) (rows_dp dr fun E hE => h E (List.mem_cons_of_mem _ hE))
theorem rep_lay {rd : List PyData} (lay : PyData.canLayAll0 rd = true) : ∀ n : Nat, PyData.canLayAll0 (List.replicate n (.list rd)) = true
  | 0 => by simp [PyData.canLayAll0]
  | n + 1 => by
    rw [List.replicate_succ]
    simp [PyData.canLayAll0, PyData.canLay0, lay, rep_lay lay n]
theorem rep_depth {rd : List PyData} (dep : PyData.depthAll rd = 0) : ∀ n : Nat, PyData.depthAll (List.replicate n (.list rd)) ≤ 1
  | 0 => by simp [PyData.depthAll]
  | n + 1 => by
    have h := rep_depth dep n
    rw [List.replicate_succ]
    simp only [PyData.depthAll, PyData.depth, dep]
    omega
theorem rows_shaped {rd : List PyData} (lay : PyData.canLayAll0 rd = true) (dep : PyData.depthAll rd = 0) (n : Nat) : SeqAt.shaped (.list (List.replicate n (.list rd))) = true := by
  have h := rep_depth dep n
  show ((PyData.list (List.replicate n (.list rd))).canLay0 && decide ((PyData.list (List.replicate n (.list rd))).depth ≤ 64)) = true
  simp only [PyData.canLay0, PyData.depth, rep_lay lay n, Bool.true_and]
  exact decide_eq_true (by omega)
/-- [[..]] * k -/
theorem rep_rows {tas : TA} {row : List V} {k : Int} {Q : VK} (htas : ∀ H R, Same H0 H → R row H → tas σ H R) (s0 : Same H0 H) (hl : row.length ≤ 100) (k0 : 0 ≤ k) (k9 : k ≤ 9)
    (q : ∀ M Es H', Same H H' → Es.length = k.toNat → Rows H' M Es row → Q (.ref M) H') : tOp rRep (tLst (tCons (tLst tas) tNil)) (tC (.int k)) σ H Q := by
  refine htas H _ s0 ⟨Nat.le_of_lt (small1000 (by omega)), fun b hb => ⟨by show 1 ≤ sizeLine; decide, fun c hc => ?_⟩⟩
  refine ⟨c, k, _, rfl, rfl, upd_same, by omega, by omega, Nat.le_of_lt (small1000 (by show 1 * k.toNat ≤ 1000; omega)), fun M hM => ?_⟩
  have e1 := (same_new hM (o := .lst (List.replicate k.toNat [V.ref b]).flatten)) _ _ ((same_new hc (o := .lst [V.ref b])) _ _ (upd_same (H := H) (a := b) (o := .lst row)))
  refine q M (List.replicate k.toNat b) _ ((same_new hb).trans ((same_new hc).trans (same_new hM))) List.length_replicate ⟨?_, fun E hE => ?_⟩
  · rw [upd_same]
    congr 2
    generalize k.toNat = m
    induction m with
    | zero => rfl
    | succ m ih => rw [List.replicate_succ, List.flatten_cons, ih, List.replicate_succ, List.map_cons]; rfl
  · rw [List.eq_of_mem_replicate hE]
    exact e1
theorem rows_eqv {L M : Addr} {Ds Es : List Addr} {row : List V} {rd : List PyData} (a : Rows H L Ds row) (b : Rows H M Es row) (l : Ds.length = Es.length) (dr : DpAll K H row rd) (lay : PyData.canLayAll0 rd = true) (dep : PyData.depthAll rd = 0) :
    ∃ d, Dp K H (.ref L) d ∧ Dp K H (.ref M) d ∧ SeqAt.shaped d = true ∧ PyData.eqv d d = true := by
  have sh := rows_shaped lay dep Ds.length
  refine ⟨.list (List.replicate Ds.length (.list rd)), .lst (SqL.of a.at_) (rows_dp dr a.each), .lst (SqL.of b.at_) ?_, sh, SeqAt.eqv_refl _ (ba sh).1⟩
  rw [l]
  exact rows_dp dr b.each
theorem Rows.mono {H H' : Hp} {L : Addr} {Ds : List Addr} {row : List V} (h : Rows H L Ds row) (s : Same H H') : Rows H' L Ds row := ⟨s _ _ h.at_, fun D hD => s _ _ (h.each D hD)⟩
end
end K11
/-! ## K11C -/
set_option Elab.async false
set_option linter.all false
set_option maxRecDepth 100000
set_option maxHeartbeats 4000000
namespace K11
open PySem PySem.Spec PyProof.Rows L2 He Vx
open LamX (ExtN Tabs TabS)

theorem ix_tupK {X : Cx} {K : PySem.W.Frag} (hK : X.K = K) : IxR X (rIxT K) := by
  subst hK
  exact ix_tup
theorem call_tuple_ofK {X : Cx} {K : PySem.W.Frag} (hK : X.K = K) : CallR X (.type "tuple") (fun xs H Q => ∃ p ys, xs = [.ref p] ∧ ((SqL K H p ys ∧ ∀ l, H l = none → Q (.ref l) (upd H l (.tup ys))) ∨ (SqT K H p ys ∧ Q (.ref p) H))) := by
  subst hK
  exact call_tuple_of
def qLet : Str := "_law_let_right.<locals>.<lambda>"
def qRight : Str := "_law_right.<locals>.<lambda>"
theorem many_of {n : Int} (h : 1 ≤ n) : manyD (.int n) = some n := if_pos h
theorem fwk_none {κ : Type} [DecidableEq κ] : ∀ {gs seen : List κ} {i : Nat}, gs.Nodup → (∀ g ∈ gs, g ∉ seen) → fwk seen (gs.map some) i = none
  | [], _, _, _, _ => rfl
  | g :: gs, seen, i, nd, ns => by
    obtain ⟨n1, n2⟩ := List.nodup_cons.mp nd
    have ih := fwk_none (gs := gs) (seen := seen ++ [g]) (i := i + 1) n2 fun z hz hm => by
      rcases List.mem_append.mp hm with q | q
      · exact ns z (List.mem_cons_of_mem _ hz) q
      · exact n1 (List.mem_singleton.mp q ▸ hz)
    rw [List.map_cons, fwk, if_neg (ns g (List.mem_cons_self ..)), ih]
theorem das_ints {K : PySem.W.Frag} {H : Hp} : ∀ fs : List Int, Das K H (fs.map V.int) (fs.map PyData.int)
  | [] => .nil
  | i :: fs => .cons (.int i) (das_ints fs)
theorem das_moves {K : PySem.W.Frag} {H : Hp} {n : Int} {mk : List (Addr × List L2.Key)} (h : Moves H n mk) : Das K H (mk.map fun q => V.ref q.1) (mk.map fun q => keyT q.2) := (pks_map fun q hq => pk_tup (h.at_ q hq).1 (da_keys q.2)).das
theorem tups_list {K : PySem.W.Frag} {H : Hp} {n : Int} {mk : List (Addr × List L2.Key)} {a : Addr} (e : SqL K H a (mk.map fun q => V.ref q.1)) (h : Moves H n mk) : Tups K H (.ref a) (.list (mk.map fun q => keyT q.2)) := fun _ =>
  ⟨a, _, _, rfl, .inl ⟨e, rfl⟩, das_moves h, fun i s t c z hi => by
    obtain ⟨v, hv, pk⟩ := pks_at (K := K) (pks_map fun q hq => pk_tup (h.at_ q hq).1 (da_keys q.2)) hi
    obtain ⟨b, rfl, hb⟩ := pk.tp s t c z rfl
    exact ⟨b, hv, hb⟩⟩
theorem tups_tup {K : PySem.W.Frag} {H : Hp} {n : Int} {mk : List (Addr × List L2.Key)} {a : Addr} (e : SqT K H a (mk.map fun q => V.ref q.1)) (h : Moves H n mk) : Tups K H (.ref a) (.tuple (mk.map fun q => keyT q.2)) := fun _ =>
  ⟨a, _, _, rfl, .inr ⟨e, rfl⟩, das_moves h, fun i s t c z hi => by
    obtain ⟨v, hv, pk⟩ := pks_at (K := K) (pks_map fun q hq => pk_tup (h.at_ q hq).1 (da_keys q.2)) hi
    obtain ⟨b, rfl, hb⟩ := pk.tp s t c z rfl
    exact ⟨b, hv, hb⟩⟩
theorem Moves.ext {H H' : Hp} {n : Int} {mk : List (Addr × List L2.Key)} (h : Moves H n mk) (s : ExtN H H') : Moves H' n mk := ⟨fun q hq => ⟨s _ _ (h.at_ q hq).1 (fun _ z => by cases z), (h.at_ q hq).2⟩, h.nd⟩
theorem DealAt.starts {H : Hp} {n : Int} {fs0 fs : List Int} {mk : List (Addr × List L2.Key)} {d f m : Addr} (_ : DealAt H n fs0 mk d f m) (nd : fs.Nodup) (hi : ∀ i ∈ fs, 0 ≤ i ∧ i < n) (ne : fs ≠ []) (l : fs.length ≤ 3) :
    okD (.list (fs.map .int)) = true ∧ okD (.tuple (fs.map .int)) = true ∧ startsD n (.list (fs.map .int)) = none ∧ startsD n (.tuple (fs.map .int)) = none := by
  have ok : okAll (fs.map PyData.int) = true := okAll_of fun d hd => by
    obtain ⟨i, _, rfl⟩ := List.mem_map.mp hd
    rfl
  have len : decide ((fs.map PyData.int).length ≤ 100) = true := decide_eq_true (by rw [List.length_map]; omega)
  have key : (fs.map PyData.int).map (keyI n) = (fs.map Sum.inl).map some := by
    rw [List.map_map, List.map_map]
    refine List.map_congr_left fun i h => ?_
    obtain ⟨h0, h1⟩ := hi i h
    show (if (decide (0 ≤ i) && decide (i < n)) = true then some (Sum.inl i) else none) = _
    rw [decide_eq_true h0, decide_eq_true h1]
    rfl
  have s : startsL n (fs.map .int) = none := by
    cases fs with
    | nil => exact absurd rfl ne
    | cons i fs =>
      show (fwk [] (((i :: fs).map PyData.int).map (keyI n)) 0).map some = none
      rw [key, fwk_none (List.Pairwise.map _ (fun a b h z => h (Sum.inl.inj z)) nd) fun _ _ => List.not_mem_nil]
      rfl
  exact ⟨by rw [okD, len, ok]; rfl, by rw [okD, len, ok]; rfl, s, s⟩
theorem Moves.steps {H : Hp} {n : Int} {mk : List (Addr × List L2.Key)} (h : Moves H n mk) (l : mk.length ≤ 9) :
    okD (.list (mk.map fun q => keyT q.2)) = true ∧ okD (.tuple (mk.map fun q => keyT q.2)) = true ∧ stepsD n (.list (mk.map fun q => keyT q.2)) = none ∧ stepsD n (.tuple (mk.map fun q => keyT q.2)) = none ∧ lenD (.list (mk.map fun q => keyT q.2)) ≤ 24 := by
  have ok : okAll (mk.map fun q => keyT q.2) = true := okAll_of fun d hd => by
    obtain ⟨q, hq, rfl⟩ := List.mem_map.mp hd
    exact key_okD (h.at_ q hq).2
  have len : decide ((mk.map fun q => keyT q.2).length ≤ 100) = true := decide_eq_true (by rw [List.length_map]; omega)
  have key : (mk.map fun q => keyT q.2).map (keyM n) = (mk.map Prod.snd).map some := by
    rw [List.map_map, List.map_map]
    exact List.map_congr_left fun q hq => keyM_good (h.at_ q hq).2
  have s : (fwk [] ((mk.map fun q => keyT q.2).map (keyM n)) 0).map some = none := by
    rw [key, fwk_none h.nd fun _ _ => List.not_mem_nil]
    rfl
  refine ⟨by rw [okD, len, ok]; rfl, by rw [okD, len, ok]; rfl, s, s, ?_⟩
  show (mk.map fun q => keyT q.2).length ≤ 24
  rw [List.length_map]
  omega
def spLet (K : PySem.W.Frag) (T : List (Addr × Str)) : Sp := fun vs H Q _ => ∃ (p d : Addr) (n : Int) (fs : List Int) (mk : List (Addr × List L2.Key)) (f m : Addr), vs = [.ref p, .ref d] ∧ Pot p H ∧ Tabs T H ∧ DealAt (off p H) n fs mk d f m ∧ ∀ H', StT p T H H' → Q (.bl true) H'
section
variable {P : Program} {w : World} {K : PySem.W.Frag} {mg : Str → Option Value} {base : Heap}
theorem cd_let_right {f0 c Pt e0 : Addr} {TT : List (Addr × Str)} (F : At K mg "_law_let_right" s_law_let_right) (hm : mg "_law_let_right" = some (.ref f0)) (hcode : cdAt K f0 = .ref c) (TB : LamX.TabB base mg c Pt) (hmT : (Pt, qLet) ∈ TT) (hu : ∀ q ∈ TT, q.1 = Pt → q.2 = qLet)
    (T : BI mg) (ES : ErrSet P w K mg base) (XG : XcG K) (HK : HeardK K) (Fh : At K mg "_law_heard" s_law_heard) (BM : BoxM P w K mg base e0) (c__law_mixed : Cd P w K mg base 2 "_law_mixed" ["_law_pot_here", "_law_menu_here"] (spMixed K)) : Cd P w K mg base 10 "_law_let_right" ["_law_pot_here", "_law_deal_here"] (spLet K TT) := by
  obtain ⟨fB, fdB, d0, MB, FB, b3, v2, b2, kb1, kb2, kb3, kb4⟩ := BM.ex
  refine cd_mkC F hm sc_law_let_right (fun vs H Q E h => ?_) (fun _ _ _ _ _ _ us hl => match us, hl with | [_, _], _ => rfl) (fun A outer s H vs Q E hr hG h => ?_)
  · obtain ⟨p, d, n, fs, mk, f, m, rfl, _⟩ := h
    rfl
  · obtain ⟨p, d, n, fs, mk, fa, m, rfl, hP, tb, D, k⟩ := h
    refine ⟨_, (pss_cons (ps_asg (pe_tup (pa_cons (pe_cd c__law_mixed (hr.mono (by decide)) hG (by rfl) (pa_cons (pv 0) (pa_cons (pe_dget (hu_of hr) (pv 1) pe_str (fun _ _ => rfl)) pa_nil))) (pa_cons (pe_cd c__law_mixed (hr.mono (by decide)) hG (by rfl) (pa_cons (pv 0) (pa_cons (pe_dget (hu_of hr) (pv 1) pe_str (fun _ _ => rfl)) pa_nil))) pa_nil))) (pg_tup (by rfl) (pgs_cons (pg_name (i := 2) sc_law_let_right.nd rfl (Or.inr rfl)) (pgs_cons (pg_name (i := 3) sc_law_let_right.nd rfl (Or.inr rfl)) pgs_nil))))
  (pss_cons (ps_set (i := 4) sc_law_let_right.nd rfl (Or.inl rfl) (pe_lst (pa_cons (pe_heard (k := 7) Fh T ES XG HK hG (by rfl) TB hcode hmT hu (hr.mono (by decide)) (LamX.lamS_by (by rfl)) rfl (fun _ _ _ _ _ => rfl) (fun A outer s H E f c' hr2 => (L2.pe_make MB FB (hr2.mono (by decide)) (by rfl) BM.hm b3 .nil (passes_call (takes_of rfl rfl rfl rfl) (fun _ _ _ _ h => h)) (pa_cons (pe_dget (hu_of hr2) (pv 1) pe_str (fun _ _ => rfl)) (pa_cons (pv 2) (pa_cons (pv 3) pa_nil)))))) pa_nil)))
  (pss_cons (ps_expr (pe_bm PySem.F.plainAttrs_list PySem.F.slot_list_append PySem.F.type_list_append mt_append (pv 4) (pa_cons (pe_heard (k := 7) Fh T ES XG HK hG (by rfl) TB hcode hmT hu (hr.mono (by decide)) (LamX.lamS_by (by rfl)) rfl (fun _ _ _ _ _ => rfl) (fun A outer s H E f c' hr2 => (L2.pe_makeK0 MB FB (hr2.mono (by decide)) (by rfl) BM.hm kb3 (passes_call (takes_of rfl rfl rfl rfl) (fun _ _ _ _ h => h)) (pk_cons (pe_callTy (call_tuple_ofK (K := K) rfl) (by rfl) T.tuple bt_tuple (pa_cons (pv 3) pa_nil)) (pk_cons (pe_dget (hu_of hr2) (pv 1) pe_str (fun _ _ => rfl)) (pk_cons (pe_callTy (call_tuple_ofK (K := K) rfl) (by rfl) T.tuple bt_tuple (pa_cons (pv 2) pa_nil)) pk_nil)))))) pa_nil)))
  (pss_cons (ps_expr (pe_bm PySem.F.plainAttrs_list PySem.F.slot_list_append PySem.F.type_list_append mt_append (pv 4) (pa_cons (pe_heard (k := 7) Fh T ES XG HK hG (by rfl) TB hcode hmT hu (hr.mono (by decide)) (LamX.lamS_by (by rfl)) rfl (fun _ _ _ _ _ => rfl) (fun A outer s H E f c' hr2 => (L2.pe_make MB FB (hr2.mono (by decide)) (by rfl) BM.hm b2 v2 (passes_call (takes_of rfl rfl rfl rfl) (fun _ _ _ _ h => h)) (pa_cons (pe_dget (hu_of hr2) (pv 1) pe_str (fun _ _ => rfl)) (pa_cons (pv 2) pa_nil))))) pa_nil)))
  (pss_cons (ps_expr (pe_bm PySem.F.plainAttrs_list PySem.F.slot_list_append PySem.F.type_list_append mt_append (pv 4) (pa_cons (pe_heard (k := 7) Fh T ES XG HK hG (by rfl) TB hcode hmT hu (hr.mono (by decide)) (LamX.lamS_by (by rfl)) rfl (fun _ _ _ _ _ => rfl) (fun A outer s H E f c' hr2 => (L2.pe_makeK0 MB FB (hr2.mono (by decide)) (by rfl) BM.hm kb4 (passes_call (takes_of rfl rfl rfl rfl) (fun _ _ _ _ h => h)) (pk_cons (pe_lst (pa_cons pe_int pa_nil)) (pk_cons pe_int pk_nil))))) pa_nil)))
  (pss_cons (ps_expr (pe_bm PySem.F.plainAttrs_list PySem.F.slot_list_append PySem.F.type_list_append mt_append (pv 4) (pa_cons (pe_heard (k := 7) Fh T ES XG HK hG (by rfl) TB hcode hmT hu (hr.mono (by decide)) (LamX.lamS_by (by rfl)) rfl (fun _ _ _ _ _ => rfl) (fun A outer s H E f c' hr2 => (L2.pe_make MB FB (hr2.mono (by decide)) (by rfl) BM.hm b3 .nil (passes_call (takes_of rfl rfl rfl rfl) (fun _ _ _ _ h => h)) (pa_cons pe_int (pa_cons (pe_tup (pa_cons pe_int pa_nil)) (pa_cons (pe_tup pa_nil) pa_nil)))))) pa_nil)))
  (pss_one (ps_ret (pe_cmpR (op_eqD hr.units) (pv 4) (pe_op op_rep (pe_lst (pa_cons (pe_lst (pa_cons pe_str pa_nil)) pa_nil)) pe_int) (nomark _)))))))))), ?_⟩
    have eD := (off_some D.hd).2
    have dp : d ≠ p := (off_some D.hd).1
    refine ⟨_, rfl, _, rfl, d, .ref fa, rfl, DGet.k (k := .inr "firsts") eD, p, fa, fs.map V.int, rfl, hP, SqL.of D.hf, by rw [List.length_map]; have := D.f3; omega, fun f2 ys H1 st1 n1 f2p ef pf => ?_⟩
    obtain ⟨fs2, rfl, pf2⟩ := perm_back pf
    have D1 := D.mono st1.k
    have eD1 := (off_some D1.hd).2
    refine ⟨_, rfl, _, rfl, d, .ref m, rfl, DGet.k (k := .inr "moves") eD1, p, m, mk.map (fun q => V.ref q.1), rfl, st1.pot, SqL.of D1.hm, by rw [List.length_map]; have := D.ml; omega, fun m2 ys H2 st2 n2 m2p em pm => ?_⟩
    obtain ⟨mk2, rfl, pm2⟩ := perm_back pm
    refine ⟨by show 2 ≤ sizeLine; decide, fun aT hT => ?_⟩
    have D2 := D1.mono st2.k
    have s3 : Same H2 (upd H2 aT (.tup [.ref f2, .ref m2])) := same_new hT
    have e3 := upd_same (H := H2) (a := aT) (o := .tup [.ref f2, .ref m2])
    have S02 : StT p TT H H2 := Stp.t hP tb (st1.trans st2)
    have S03 := S02.same s3
    have ef3 := s3 _ _ (off_keep f2p st2.k ef)
    have em3 := s3 _ _ em
    have D3 := D2.mono (same_off s3)
    generalize upd H2 aT (.tup [.ref f2, .ref m2]) = H3 at s3 e3 S03 ef3 em3 D3 ⊢
    refine ⟨aT, _, rfl, SqT.of e3, rfl, _, _, rfl, _, _, rfl, rfl, ?_⟩
    have n1' := D.n1
    have n5' := D.n5
    -- the data of the starts, of the moves
    have l2 : mk2.length = mk.length := pm2.length_eq
    have lf2 : fs2.length = fs.length := pf2.length_eq
    have mv3 : Moves (off p H3) n mk2 := ⟨fun q hq => D3.mv.at_ q (pm2.mem_iff.mp hq), (pm2.map Prod.snd).nodup_iff.mpr D3.mv.nd⟩
    have st3 := D3.starts (fs := fs2) (pf2.nodup_iff.mpr D3.fn) (fun i hi => D3.fi i (pf2.mem_iff.mp hi)) (fun z => D3.f1 (by rw [z] at pf2; exact (List.nil_perm.mp pf2))) (by rw [lf2]; exact D3.f3)
    have mo3 := mv3.steps (by rw [l2]; exact D3.ml)
    have hA : ∀ o4, Hears K TT p H3 [some (.ref p), some (.ref d), some (.ref f2), some (.ref m2), o4] (fun E => tMake (ga K "Box") (spBox K) [] E (tCons (tDGet (tVar 1) (tC (.str "many"))) (tCons (tVar 2) (tCons (tVar 3) tNil)))) [.str "let"] := fun o4 => hears_of _ fun H R Q st qr ql => by
      have e1 := st.at_ dp (fun _ z => by cases z) (off_some D3.hd).2
      have mvH := mv3.ext st.k
      exact ⟨_, rfl, d, .int n, rfl, DGet.k (k := .inr "many") e1, _, rfl, _, rfl, box_call (.int n) (.lst (SqL.of (st.at_ f2p (fun _ z => by cases z) ef3)) (das_ints fs2)) (.lst (SqL.of (st.at_ m2p (fun _ z => by cases z) em3)) ((das_moves mvH).mono off_same)) (tups_list (SqL.of (st.at_ m2p (fun _ z => by cases z) em3)) (mvH.mono off_same)) rfl st3.1 mo3.1 (outL (n := n) (many_of n1') st3.2.2.1 mo3.2.2.1 (by omega) mo3.2.2.2.2 _ fun y H' s => ql rfl y H' s)⟩
    have e0d : ∀ H, Da K H (.ref e0) (.tuple []) := fun H => .tup (BM.e00 H) .nil
    have e0t : ∀ H, Tups K H (.ref e0) (.tuple []) := fun H _ => ⟨e0, [], [], rfl, .inr ⟨BM.e00 H, rfl⟩, .nil, fun i _ _ _ _ h => by simp at h⟩
    have hB : ∀ o4, Hears K TT p H3 [some (.ref p), some (.ref d), some (.ref f2), some (.ref m2), o4] (fun E => tMakeK (ga K "Box") 0 (["steps", "states", "starts"] : List Str).length (spBox K) kC E tNil (tCons (tCB (fun xs H Q => ∃ p ys, xs = [V.ref p] ∧ ((SqL K H p ys ∧ ∀ l, H l = none → Q (V.ref l) (upd H l (.tup ys))) ∨ (SqT K H p ys ∧ Q (V.ref p) H))) (tCons (tVar 3) tNil)) (tCons (tDGet (tVar 1) (tC (.str "many"))) (tCons (tCB (fun xs H Q => ∃ p ys, xs = [V.ref p] ∧ ((SqL K H p ys ∧ ∀ l, H l = none → Q (V.ref l) (upd H l (.tup ys))) ∨ (SqT K H p ys ∧ Q (V.ref p) H))) (tCons (tVar 2) tNil)) tNil)))) [.str "let"] := fun o4 => hears_of _ fun H R Q st qr ql => by
      have e1 := st.at_ dp (fun _ z => by cases z) (off_some D3.hd).2
      have mvH : Moves H n mk2 := (mv3.ext st.k).mono off_same
      refine ⟨_, rfl, m2, _, rfl, .inl ⟨SqL.of (st.at_ m2p (fun _ z => by cases z) em3), fun tm htm => ?_⟩⟩
      have s1 : Same H (upd H tm (.tup (mk2.map fun q => V.ref q.1))) := same_new htm
      have x1 := upd_same (H := H) (a := tm) (o := .tup (mk2.map fun q => V.ref q.1))
      generalize upd H tm (.tup (mk2.map fun q => V.ref q.1)) = J1 at s1 x1 ⊢
      refine ⟨_, rfl, d, .int n, rfl, DGet.k (k := .inr "many") (s1 _ _ e1), _, rfl, f2, _, rfl, .inl ⟨SqL.of (s1 _ _ (st.at_ f2p (fun _ z => by cases z) ef3)), fun tf htf => ?_⟩⟩
      have s2 : Same J1 (upd J1 tf (.tup (fs2.map V.int))) := same_new htf
      have x2 := upd_same (H := J1) (a := tf) (o := .tup (fs2.map V.int))
      generalize upd J1 tf (.tup (fs2.map V.int)) = J2 at s2 x2 ⊢
      have mv2 := mvH.mono (s1.trans s2)
      exact ⟨rfl, rfl, box_call (.int n) (.tup (SqT.of x2) (das_ints fs2)) (.tup (SqT.of (s2 _ _ x1)) (das_moves mv2)) (tups_tup (SqT.of (s2 _ _ x1)) mv2) rfl st3.2.1 mo3.2.1 (outL (n := n) (many_of n1') st3.2.2.2 mo3.2.2.2.1 (by omega) mo3.2.2.2.2 _ fun y H' s => ql rfl y H' ((s1.trans s2).trans s))⟩
    have hC : ∀ o4, Hears K TT p H3 [some (.ref p), some (.ref d), some (.ref f2), some (.ref m2), o4] (fun E => tMake (ga K "Box") (spBox K) [.ref e0] E (tCons (tDGet (tVar 1) (tC (.str "many"))) (tCons (tVar 2) tNil))) [.str "let"] := fun o4 => hears_of _ fun H R Q st qr ql => by
      have e1 := st.at_ dp (fun _ z => by cases z) (off_some D3.hd).2
      exact ⟨_, rfl, d, .int n, rfl, DGet.k (k := .inr "many") e1, _, rfl, box_call (.int n) (.lst (SqL.of (st.at_ f2p (fun _ z => by cases z) ef3)) (das_ints fs2)) (e0d H) (e0t H) rfl st3.1 rfl (outL (n := n) (many_of n1') st3.2.2.1 rfl (by omega) (by decide) _ fun y H' s => ql rfl y H' s)⟩
    have hD : ∀ o4, Hears K TT p H3 [some (.ref p), some (.ref d), some (.ref f2), some (.ref m2), o4] (fun E => tMakeK (ga K "Box") 0 (["starts", "states"] : List Str).length (spBox K) (kD (.ref e0)) E tNil (tCons (tLst (tCons (tC (.int 0)) tNil)) (tCons (tC (.int 1)) tNil))) [.str "let"] := fun o4 => hears_of _ fun H R Q st qr ql => by
      refine ⟨by show 1 ≤ sizeLine; decide, fun l0 hl0 => ?_⟩
      have s1 : Same H (upd H l0 (.lst [.int 0])) := same_new hl0
      have x1 := upd_same (H := H) (a := l0) (o := .lst [.int 0])
      generalize upd H l0 (.lst [.int 0]) = J1 at s1 x1 ⊢
      exact ⟨rfl, rfl, box_call (.int 1) (.lst (SqL.of x1) (.cons (.int 0) .nil)) (e0d J1) (e0t J1) rfl rfl rfl (outL (n := 1) rfl rfl rfl (by decide) (by decide) _ fun y H' s => ql rfl y H' (s1.trans s))⟩
    have hE : ∀ o4, Hears K TT p H3 [some (.ref p), some (.ref d), some (.ref f2), some (.ref m2), o4] (fun E => tMake (ga K "Box") (spBox K) [] E (tCons (tC (.int 1)) (tCons (tTup (tCons (tC (.int 0)) tNil)) (tCons (tTup tNil) tNil)))) [.str "let"] := fun o4 => hears_of _ fun H R Q st qr ql => by
      refine ⟨by show 1 ≤ sizeLine; decide, fun t0 ht0 => ?_⟩
      have s1 : Same H (upd H t0 (.tup [.int 0])) := same_new ht0
      have x1 := upd_same (H := H) (a := t0) (o := .tup [.int 0])
      generalize upd H t0 (.tup [.int 0]) = J1 at s1 x1 ⊢
      refine ⟨by show 0 ≤ sizeLine; decide, fun t1 ht1 => ?_⟩
      have s2 : Same J1 (upd J1 t1 (.tup [])) := same_new ht1
      have x2 := upd_same (H := J1) (a := t1) (o := .tup [])
      generalize upd J1 t1 (.tup []) = J2 at s2 x2 ⊢
      exact box_call (.int 1) (.tup (SqT.of (s2 _ _ x1)) (.cons (.int 0) .nil)) (.tup (SqT.of x2) .nil) (fun _ => ⟨t1, [], [], rfl, .inr ⟨SqT.of x2, rfl⟩, .nil, fun i _ _ _ _ h => by simp at h⟩) rfl rfl rfl (outL (n := 1) rfl rfl rfl (by decide) (by decide) _ fun y H' s => ql rfl y H' ((s1.trans s2).trans s))
    have Sr := StT.refl S03.pot S03.tabs
    refine lst_heard (hA _) Sr fun L Hb H4 sb hb Lp s4 r4 => ?_
    refine app_heard (hB _) sb rfl s4 hb Lp r4 (by decide) fun H5 s5 r5 => ?_
    refine app_heard (hC _) sb rfl s5 hb Lp r5 (by decide) fun H6 s6 r6 => ?_
    refine app_heard (hD _) sb rfl s6 hb Lp r6 (by decide) fun H7 s7 r7 => ?_
    refine app_heard (hE _) sb rfl s7 hb Lp r7 (by decide) fun H8 s8 r8 => ?_
    obtain ⟨Ds, ln, rs⟩ := r8
    refine ⟨_, rfl, rep_rows (row := [.str "let"]) (fun H R _ q => q) (Same.refl _) (by decide) (by decide) (by decide) fun M Es H9 s9 le rm => ?_⟩
    obtain ⟨dd, d1, d2, sh, ev⟩ := rows_eqv (K := K) (rd := [.str "let"]) (rs.mono s9) rm (by rw [ln, le]; rfl) (.cons (.str _) .nil) (by decide +kernel) (by decide +kernel)
    refine ⟨dd, dd, d1, d2, sh, sh, ?_⟩
    rw [ev]
    exact k H9 (((S03.trans sb).trans s8).same s9)
end
end K11
/-! ## K11E -/
set_option Elab.async false
set_option linter.all false
set_option maxRecDepth 100000
set_option maxHeartbeats 8000000
namespace K11
open PySem PySem.Spec PyProof.Rows L2 He Vx
open LamX (ExtN Tabs TabS)

/-- the deal as data -/
def dealD (n : Int) (fs : List Int) (mk : List (Addr × List L2.Key)) : PyData := .dict [(.str "many", .int n), (.str "firsts", .list (fs.map .int)), (.str "moves", .list (mk.map fun q => keyT q.2))]
theorem show_three {a b c : PyData} (ha : Lim 10 20000 a) (hb : Lim 10 20000 b) (hc : Lim 10 20000 c) : Show (.dict [(.str "many", a), (.str "firsts", b), (.str "moves", c)]) := by
  obtain ⟨a1, a2, a3⟩ := ha
  obtain ⟨b1, b2, b3⟩ := hb
  obtain ⟨c1, c2, c3⟩ := hc
  refine ⟨?_, ?_, ?_⟩
  · simp [PyData.showable, PyData.showableKv, a1, b1, c1]
  · simp only [PyData.depth, PyData.depthKv]
    omega
  · have q := dictText_len_le (PyData.shownKv [(.str "many", a), (.str "firsts", b), (.str "moves", c)])
    have e : (PyData.dict [(.str "many", a), (.str "firsts", b), (.str "moves", c)]).shown = dictText (PyData.shownKv [(.str "many", a), (.str "firsts", b), (.str "moves", c)]) := by simp only [PyData.shown]
    rw [e]
    have m1 : (PyData.str "many").shown.length = 6 := by decide +kernel
    have m2 : (PyData.str "firsts").shown.length = 8 := by decide +kernel
    have m3 : (PyData.str "moves").shown.length = 7 := by decide +kernel
    have m4 : ((": " : Str)).length = 2 := by decide +kernel
    have s : 100000 ≤ sizeLine := by decide
    simp only [PyData.shownKv, List.map_cons, List.map_nil, List.sum_cons, List.sum_nil, strLen_append, List.length_cons, List.length_nil] at q
    simp only [PyData.shownKv]
    omega
theorem DealAt.data {K : PySem.W.Frag} {H : Hp} {n : Int} {fs : List Int} {mk : List (Addr × List L2.Key)} {d f m : Addr} (h : DealAt H n fs mk d f m) : Da K H (.ref d) (dealD n fs mk) ∧ Show (dealD n fs mk) := by
  refine ⟨Da.dK h.hd (.cons (.int n) (.cons (.lst (SqL.of h.hf) (das_ints fs)) (.cons (.lst (SqL.of h.hm) (das_moves h.mv)) .nil))), ?_⟩
  have n1 := h.n1
  have n5 := h.n5
  have f3 := h.f3
  have ml := h.ml
  refine show_three ((lim_int (i := n) (by omega)).up (by decide) (by decide)) ((lim_list (k := 0) (n := 40) (m := 200) (fun e he => ?_) (by rw [List.length_map]; omega)).up (by decide) (by decide)) ((lim_list (k := 2) (n := 363) (m := 4000) (fun e he => ?_) (by rw [List.length_map]; omega)).up (by decide) (by decide))
  · obtain ⟨i, hi, rfl⟩ := List.mem_map.mp he
    obtain ⟨i0, i1⟩ := h.fi i hi
    exact lim_int (by omega)
  · obtain ⟨q, hq, rfl⟩ := List.mem_map.mp he
    exact key_lim n1 n5 (h.mv.at_ q hq).2
theorem lim_pos {r : Option Nat} (h : ∀ i, r = some i → i ≤ 9) : Lim 3 4000 (posD r) := by
  cases r with
  | none => exact ⟨rfl, Nat.zero_le _, by decide +kernel⟩
  | some i => exact (lim_int (i := (i : Int)) (by have := h i rfl; omega)).up (by decide) (by decide)
theorem pos_ok {r : Option Nat} (h : ∀ i, r = some i → i ≤ 9) : PyData.strOk (posD r).shown = true := by
  have t : ∀ i : Fin 10, PyData.strOk (PyData.int ((i.val : Nat) : Int)).shown = true := by decide +kernel
  cases r with
  | none => decide +kernel
  | some i => exact t ⟨i, by have := h i rfl; omega⟩
theorem pos_show {r : Option Nat} (h : ∀ i, r = some i → i ≤ 9) : Show (posD r) := by
  obtain ⟨a, b, c⟩ := lim_pos h
  exact ⟨a, Nat.le_trans b (by decide), Nat.le_trans c (by decide)⟩
def spRight (K : PySem.W.Frag) (T : List (Addr × Str)) : Sp := fun vs H Q _ => ∃ p : Addr, vs = [.ref p] ∧ Pot p H ∧ Tabs T H ∧ ∀ H', StT p T H H' → Q (.bl true) H'
section
variable {P : Program} {w : World} {K : PySem.W.Frag} {mg : Str → Option Value} {base : Heap}
theorem cd_right {f0 c Pt e0 : Addr} {TT : List (Addr × Str)} (F : At K mg "_law_right" s_law_right) (hm : mg "_law_right" = some (.ref f0)) (hcode : cdAt K f0 = .ref c) (TB : LamX.TabB base mg c Pt) (hmT : (Pt, qRight) ∈ TT) (hu : ∀ q ∈ TT, q.1 = Pt → q.2 = qRight)
    (T : BI mg) (ES : ErrSet P w K mg base) (XG : XcG K) (HK : HeardK K) (Fh : At K mg "_law_heard" s_law_heard) (BM : BoxM P w K mg base e0) (c__law_deal : Cd P w K mg base 3 "_law_deal" ["_law_pot_here", "_law_most", "_law_wide"] spDeal) (c__law_odd_many : Cd P w K mg base 3 "_law_odd_many" ["_law_pot_here"] (spOddMany K))
    (c__law_odd_firsts : Cd P w K mg base 3 "_law_odd_firsts" ["_law_pot_here", "_law_deal_here"] (spOF K)) (c__law_odd_moves : Cd P w K mg base 3 "_law_odd_moves" ["_law_pot_here", "_law_deal_here"] (spOM K)) (c__law_let_right : Cd P w K mg base 10 "_law_let_right" ["_law_pot_here", "_law_deal_here"] (spLet K TT)) : Cd P w K mg base 11 "_law_right" ["_law_pot_here"] (spRight K TT) := by
  obtain ⟨fB, fdB, d0, MB, FB, b3, v2, b2, kb1, kb2, kb3, kb4⟩ := BM.ex
  refine cd_mkC F hm sc_law_right (fun vs H Q E h => ?_) (fun _ _ _ _ _ _ us hl => match us, hl with | [_], _ => rfl) (fun A outer s H vs Q E hr hG h => ?_)
  · obtain ⟨p, rfl, _⟩ := h
    rfl
  · obtain ⟨p, rfl, hP, tb, k⟩ := h
    refine ⟨_, (pss_cons (ps_set (i := 1) sc_law_right.nd rfl (Or.inr rfl) (pe_cd c__law_deal (hr.mono (by decide)) hG (by rfl) (pa_cons (pv 0) (pa_cons pe_int (pa_cons pe_int pa_nil)))))
  (pss_cons (ps_asg (pe_tup (pa_cons (pe_dget (hu_of hr) (pv 1) pe_str (fun _ _ => rfl)) (pa_cons (pe_callB (call_reprD hG hr.units) (by rfl) T.repr bt_repr (pa_cons (pv 1) pa_nil)) pa_nil))) (pg_tup (by rfl) (pgs_cons (pg_name (i := 2) sc_law_right.nd rfl (Or.inr rfl)) (pgs_cons (pg_name (i := 3) sc_law_right.nd rfl (Or.inl rfl)) pgs_nil))))
  (pss_cons (ps_for PassesOwn.never rfl (pi_range1 (by rfl) T.range (pa_cons pe_int pa_nil)) (pg_name (i := 4) sc_law_right.nd rfl (Or.inl rfl)) (pss_cons (ps_asg (pe_tup (pa_cons (pe_cd c__law_odd_many (hr.mono (by decide)) hG (by rfl) (pa_cons (pv 0) pa_nil)) (pa_cons (pe_cd c__law_odd_firsts (hr.mono (by decide)) hG (by rfl) (pa_cons (pv 0) (pa_cons (pv 1) pa_nil))) (pa_cons (pe_cd c__law_odd_moves (hr.mono (by decide)) hG (by rfl) (pa_cons (pv 0) (pa_cons (pv 1) pa_nil))) pa_nil)))) (pg_tup (by rfl) (pgs_cons (pg_name (i := 5) sc_law_right.nd rfl (Or.inr rfl)) (pgs_cons (pg_name (i := 6) sc_law_right.nd rfl (Or.inr rfl)) (pgs_cons (pg_name (i := 7) sc_law_right.nd rfl (Or.inr rfl)) pgs_nil)))))
  (pss_cons (ps_set (i := 8) sc_law_right.nd rfl (Or.inl rfl) (pe_callB (call_reprD hG hr.units) (by rfl) T.repr bt_repr (pa_cons (pe_lst (pa_cons (pv 6) (pa_cons (pv 7) pa_nil))) pa_nil)))
  (pss_cons (ps_set (i := 9) sc_law_right.nd rfl (Or.inl rfl) (pe_lst (pa_cons (pe_heard (k := 7) Fh T ES XG HK hG (by rfl) TB hcode hmT hu (hr.mono (by decide)) (LamX.lamS_by (by rfl)) rfl (fun _ _ _ _ _ => rfl) (fun A outer s H E f c' hr2 => (L2.pe_make MB FB (hr2.mono (by decide)) (by rfl) BM.hm b3 .nil (passes_call (takes_of rfl rfl rfl rfl) (fun _ _ _ _ h => h)) (pa_cons (pv 5) (pa_cons (pe_ix (ix_tupK (K := K) rfl) (pv 6) pe_int (fun _ _ => rfl)) (pa_cons (pe_ix (ix_tupK (K := K) rfl) (pv 7) pe_int (fun _ _ => rfl)) pa_nil)))))) pa_nil)))
  (pss_cons (ps_expr (pe_bm PySem.F.plainAttrs_list PySem.F.slot_list_append PySem.F.type_list_append mt_append (pv 9) (pa_cons (pe_heard (k := 7) Fh T ES XG HK hG (by rfl) TB hcode hmT hu (hr.mono (by decide)) (LamX.lamS_by (by rfl)) rfl (fun _ _ _ _ _ => rfl) (fun A outer s H E f c' hr2 => (L2.pe_makeK0 MB FB (hr2.mono (by decide)) (by rfl) BM.hm kb1 (passes_call (takes_of rfl rfl rfl rfl) (fun _ _ _ _ h => h)) (pk_cons (pe_dget (hu_of hr2) (pv 1) pe_str (fun _ _ => rfl)) (pk_cons (pe_ix (ix_tupK (K := K) rfl) (pv 7) pe_int (fun _ _ => rfl)) (pk_cons (pv 5) pk_nil)))))) pa_nil)))
  (pss_cons (ps_expr (pe_bm PySem.F.plainAttrs_list PySem.F.slot_list_append PySem.F.type_list_append mt_append (pv 9) (pa_cons (pe_heard (k := 7) Fh T ES XG HK hG (by rfl) TB hcode hmT hu (hr.mono (by decide)) (LamX.lamS_by (by rfl)) rfl (fun _ _ _ _ _ => rfl) (fun A outer s H E f c' hr2 => (L2.pe_make MB FB (hr2.mono (by decide)) (by rfl) BM.hm b2 v2 (passes_call (takes_of rfl rfl rfl rfl) (fun _ _ _ _ h => h)) (pa_cons (pv 5) (pa_cons (pe_dget (hu_of hr2) (pv 1) pe_str (fun _ _ => rfl)) pa_nil))))) pa_nil)))
  (pss_cons (ps_if (pt_cmpR (op_neD hr.units) (pv 9) (pe_op op_rep (pe_lst (pa_cons (pe_lst (pa_cons pe_str (pa_cons (pe_callB (call_reprD hG hr.units) (by rfl) T.repr bt_repr (pa_cons (pv 5) pa_nil)) (pa_cons pe_bl pa_nil)))) pa_nil)) pe_int) (nomark _)) (pss_one (ps_ret pe_bl)) pss_nil)
  (pss_cons (ps_set (i := 9) sc_law_right.nd rfl (Or.inl rfl) (pe_lst (pa_cons (pe_heard (k := 7) Fh T ES XG HK hG (by rfl) TB hcode hmT hu (hr.mono (by decide)) (LamX.lamS_by (by rfl)) rfl (fun _ _ _ _ _ => rfl) (fun A outer s H E f c' hr2 => (L2.pe_make MB FB (hr2.mono (by decide)) (by rfl) BM.hm b3 .nil (passes_call (takes_of rfl rfl rfl rfl) (fun _ _ _ _ h => h)) (pa_cons (pv 2) (pa_cons (pe_ix (ix_tupK (K := K) rfl) (pv 6) pe_int (fun _ _ => rfl)) (pa_cons (pe_ix (ix_tupK (K := K) rfl) (pv 7) pe_int (fun _ _ => rfl)) pa_nil)))))) pa_nil)))
  (pss_cons (ps_expr (pe_bm PySem.F.plainAttrs_list PySem.F.slot_list_append PySem.F.type_list_append mt_append (pv 9) (pa_cons (pe_heard (k := 7) Fh T ES XG HK hG (by rfl) TB hcode hmT hu (hr.mono (by decide)) (LamX.lamS_by (by rfl)) rfl (fun _ _ _ _ _ => rfl) (fun A outer s H E f c' hr2 => (L2.pe_makeK0 MB FB (hr2.mono (by decide)) (by rfl) BM.hm kb2 (passes_call (takes_of rfl rfl rfl rfl) (fun _ _ _ _ h => h)) (pk_cons (pe_dget (hu_of hr2) (pv 1) pe_str (fun _ _ => rfl)) (pk_cons (pe_ix (ix_tupK (K := K) rfl) (pv 6) pe_int (fun _ _ => rfl)) (pk_cons (pv 2) pk_nil)))))) pa_nil)))
  (pss_cons (ps_expr (pe_bm PySem.F.plainAttrs_list PySem.F.slot_list_append PySem.F.type_list_append mt_append (pv 9) (pa_cons (pe_heard (k := 7) Fh T ES XG HK hG (by rfl) TB hcode hmT hu (hr.mono (by decide)) (LamX.lamS_by (by rfl)) rfl (fun _ _ _ _ _ => rfl) (fun A outer s H E f c' hr2 => (L2.pe_make MB FB (hr2.mono (by decide)) (by rfl) BM.hm b2 v2 (passes_call (takes_of rfl rfl rfl rfl) (fun _ _ _ _ h => h)) (pa_cons (pv 2) (pa_cons (pe_ix (ix_tupK (K := K) rfl) (pv 6) pe_int (fun _ _ => rfl)) pa_nil))))) pa_nil)))
  (pss_cons (ps_if (pt_cmpR (op_neD hr.units) (pv 9) (pe_op op_rep (pe_lst (pa_cons (pe_lst (pa_cons pe_str (pa_cons (pe_callB (call_reprD hG hr.units) (by rfl) T.repr bt_repr (pa_cons (pe_ix ix_tup (pv 6) pe_int (fun _ _ => rfl)) pa_nil)) (pa_cons pe_bl pa_nil)))) pa_nil)) pe_int) (nomark _)) (pss_one (ps_ret pe_bl)) pss_nil)
  (pss_cons (ps_set (i := 9) sc_law_right.nd rfl (Or.inl rfl) (pe_lst (pa_cons (pe_heard (k := 7) Fh T ES XG HK hG (by rfl) TB hcode hmT hu (hr.mono (by decide)) (LamX.lamS_by (by rfl)) rfl (fun _ _ _ _ _ => rfl) (fun A outer s H E f c' hr2 => (L2.pe_make MB FB (hr2.mono (by decide)) (by rfl) BM.hm b3 .nil (passes_call (takes_of rfl rfl rfl rfl) (fun _ _ _ _ h => h)) (pa_cons (pv 2) (pa_cons (pe_dget (hu_of hr2) (pv 1) pe_str (fun _ _ => rfl)) (pa_cons (pe_ix (ix_tupK (K := K) rfl) (pv 7) pe_int (fun _ _ => rfl)) pa_nil)))))) pa_nil)))
  (pss_cons (ps_expr (pe_bm PySem.F.plainAttrs_list PySem.F.slot_list_append PySem.F.type_list_append mt_append (pv 9) (pa_cons (pe_heard (k := 7) Fh T ES XG HK hG (by rfl) TB hcode hmT hu (hr.mono (by decide)) (LamX.lamS_by (by rfl)) rfl (fun _ _ _ _ _ => rfl) (fun A outer s H E f c' hr2 => (L2.pe_makeK0 MB FB (hr2.mono (by decide)) (by rfl) BM.hm kb2 (passes_call (takes_of rfl rfl rfl rfl) (fun _ _ _ _ h => h)) (pk_cons (pe_ix (ix_tupK (K := K) rfl) (pv 7) pe_int (fun _ _ => rfl)) (pk_cons (pe_callTy (call_tuple_ofK (K := K) rfl) (by rfl) T.tuple bt_tuple (pa_cons (pe_dget (hu_of hr2) (pv 1) pe_str (fun _ _ => rfl)) pa_nil)) (pk_cons (pv 2) pk_nil)))))) pa_nil)))
  (pss_cons (ps_if (PW.pt (pw_or (pt_cmpR (op_neD hr.units) (pv 9) (pe_op op_rep (pe_lst (pa_cons (pe_lst (pa_cons pe_str (pa_cons (pe_callB (call_reprD hG hr.units) (by rfl) T.repr bt_repr (pa_cons (pe_ix ix_tup (pv 7) pe_int (fun _ _ => rfl)) pa_nil)) (pa_cons pe_bl pa_nil)))) pa_nil)) pe_int) (nomark _)) (pw_or1 (pt_cmpR op_ne (pe_callB (call_reprD hG hr.units) (by rfl) T.repr bt_repr (pa_cons (pe_lst (pa_cons (pv 6) (pa_cons (pv 7) pa_nil))) pa_nil)) (pv 8) (nomark _))))) (pss_one (ps_ret pe_bl)) pss_nil)
  (pss_one (ps_if (pt_not (pt_val (pe_cd c__law_let_right (hr.mono (by decide)) hG (by rfl) (pa_cons (pv 0) (pa_cons (pv 1) pa_nil))))) (pss_one (ps_ret pe_bl)) pss_nil))))))))))))))))
  (pss_one (ps_ret (pe_cmpR op_eq (pe_callB (call_reprD hG hr.units) (by rfl) T.repr bt_repr (pa_cons (pv 1) pa_nil)) (pv 3) (nomark _))))))), ?_⟩
    refine ⟨_, rfl, p, rfl, hP, fun n fs mk d fa m H1 st1 D1 => ?_⟩
    have S1 : StT p TT H H1 := Stp.t hP tb st1
    have dp : d ≠ p := (off_some D1.hd).1
    have eD1 := (off_some D1.hd).2
    obtain ⟨dd1, ds1⟩ := D1.data (K := K)
    have n1 := D1.n1
    have n5 := D1.n5
    refine ⟨_, rfl, d, .int n, rfl, DGet.k (k := .inr "many") eD1, _, rfl, .ref d, dealD n fs mk, rfl, dd1.mono off_same, ds1.1, ds1.2.1, ds1.2.2, by show 2 ≤ sizeLine; decide, fun aT hT => ?_⟩
    generalize hsh : (dealD n fs mk).shown = sh
    have s2 : Same H1 (upd H1 aT (.tup [.int n, .str sh])) := same_new hT
    have e2 := upd_same (H := H1) (a := aT) (o := .tup [.int n, .str sh])
    generalize upd H1 aT (.tup [.int n, .str sh]) = H2 at s2 e2 ⊢
    refine ⟨aT, _, rfl, SqT.of e2, rfl, _, _, rfl, _, _, rfl, rfl, ?_⟩
    have S2 := S1.same s2
    have D2 := D1.mono (same_off s2)
    refine ⟨6, rfl, by decide, by decide, ?_⟩
    refine for_range (lo := 0) (n := 6) (fun i σ H' => ∃ o4 o5 o6 o7 o8 o9 : Option V, σ = [some (.ref p), some (.ref d), some (.int n), some (.str sh), o4, o5, o6, o7, o8, o9] ∧ StT p TT H2 H') ⟨_, _, _, _, _, _, rfl, StT.refl S2.pot S2.tabs⟩ (fun i σ H' _ z => ?_) (fun σ H' z => ?_)
    · obtain ⟨o4, o5, o6, o7, o8, o9, rfl, st⟩ := z
      refine ⟨_, rfl, p, rfl, st.pot, fun x dx H3 t3 dax hx => ?_⟩
      have st3 := st.stp t3
      have D3 := D2.ext st3.k
      refine ⟨_, rfl, _, rfl, p, d, n, fs, mk, fa, m, rfl, t3.pot, D3, fun tF xF eF rF H4 t4 etF daF okF limF sF rF9 => ?_⟩
      have st4 := st3.stp t4
      have D4 := D2.ext st4.k
      refine ⟨_, rfl, _, rfl, p, d, n, fs, mk, fa, m, rfl, t4.pot, D4, fun tM xM eM rM H5 t5 etM daM tuM okM limM sM rM9 => ?_⟩
      have st5 := st4.stp t5
      refine ⟨by show 3 ≤ sizeLine; decide, fun aU hU => ?_⟩
      have s6 : Same H5 (upd H5 aU (.tup [x, .ref tF, .ref tM])) := same_new hU
      have e6 := upd_same (H := H5) (a := aU) (o := .tup [x, .ref tF, .ref tM])
      generalize upd H5 aU (.tup [x, .ref tF, .ref tM]) = H6 at s6 e6 ⊢
      refine ⟨aU, _, rfl, SqT.of e6, rfl, _, _, rfl, _, _, rfl, _, _, rfl, rfl, ?_⟩
      have st6 := st5.same s6
      have D6 := D2.ext st6.k
      -- all of it, where it stands now
      have dax6 : Da K (off p H6) x dx := ((dax.mono t4.k).mono t5.k).mono (same_off s6)
      have etF6 : off p H6 tF = some (.tup [xF, posV rF]) := same_off s6 _ _ (t5.k _ _ etF)
      have etM6 : off p H6 tM = some (.tup [xM, posV rM]) := same_off s6 _ _ etM
      have daF6 : Da K (off p H6) xF eF := (daF.mono t5.k).mono (same_off s6)
      have daM6 : Da K (off p H6) xM eM := daM.mono (same_off s6)
      have tuM6 : Tups K (off p H6) xM eM := tuM.mono (same_off s6)
      obtain ⟨ok1, ok2, ok3, ok4, ok5⟩ := odd_many_facts dx hx
      have hmx : manyD dx = none := odd_many_none dx hx
      have kd : ∀ J, Same (off p H6) J → Da K J (.ref tF) (.tuple [eF, posD rF]) ∧ Da K J (.ref tM) (.tuple [eM, posD rM]) := fun J s => ⟨.tup (SqT.of (s _ _ etF6)) (.cons (daF6.mono s) (.cons (da_pos rF) .nil)), .tup (SqT.of (s _ _ etM6)) (.cons (daM6.mono s) (.cons (da_pos rM) .nil))⟩
      have kshow : Show (.list [.tuple [eF, posD rF], .tuple [eM, posD rM]]) := by
        have q := lim_list (k := 4) (n := 18000) (m := 40000) (ds := [.tuple [eF, posD rF], .tuple [eM, posD rM]]) (fun e he => by
          rcases List.mem_cons.mp he with rfl | he
          · exact (lim_tup (k := 3) (n := 4000) (m := 9000) (fun e he => by
              rcases List.mem_cons.mp he with rfl | he
              · exact limF.up (by decide) (by decide)
              · cases List.mem_singleton.mp he
                exact lim_pos rF9) (by show 2 * 4002 + 3 ≤ 9000; decide)).up (by decide) (by decide)
          · cases List.mem_singleton.mp he
            exact (lim_tup (k := 3) (n := 8000) (m := 18000) (fun e he => by
              rcases List.mem_cons.mp he with rfl | he
              · exact limM.up (by decide) (by decide)
              · cases List.mem_singleton.mp he
                exact (lim_pos rM9).up (Nat.le_refl _) (by decide)) (by show 2 * 8002 + 3 ≤ 18000; decide)).up (by decide) (by decide)) (by show 2 * 18002 + 2 ≤ 40000; decide)
        exact ⟨q.1, Nat.le_trans q.2.1 (by decide), Nat.le_trans q.2.2 (by decide)⟩
      refine ⟨_, rfl, _, rfl, by show 2 ≤ sizeLine; decide, fun l0 hl0 => ?_⟩
      have s7 : Same H6 (upd H6 l0 (.lst [.ref tF, .ref tM])) := same_new hl0
      have e7 := upd_same (H := H6) (a := l0) (o := .lst [.ref tF, .ref tM])
      have l0p : l0 ≠ p := st6.pot.new hl0
      generalize upd H6 l0 (.lst [.ref tF, .ref tM]) = B at s7 e7 ⊢
      obtain ⟨kF, kM⟩ := kd _ (same_off (p := p) s7)
      refine ⟨.ref l0, _, rfl, .lst (SqL.of e7) (.cons (kF.mono off_same) (.cons (kM.mono off_same) .nil)), kshow.1, kshow.2.1, kshow.2.2, ?_⟩
      generalize hkp : (PyData.list [.tuple [eF, posD rF], .tuple [eM, posD rM]]).shown = kp
      have stB := st6.same s7
      have DB := D2.ext stB.k
      have dpB := (off_some DB.hd).1
      have eDB := (off_some DB.hd).2
      have stk := DB.starts DB.fn DB.fi DB.f1 DB.f3
      have mok := DB.mv.steps DB.ml
      have fap : fa ≠ p := (off_some DB.hf).1
      have mp : m ≠ p := (off_some DB.hm).1
      have tFp : tF ≠ p := (off_some etF6).1
      have tMp : tM ≠ p := (off_some etM6).1
      have bF : B tF = some (.tup [xF, posV rF]) := s7 _ _ (off_some etF6).2
      have bM : B tM = some (.tup [xM, posV rM]) := s7 _ _ (off_some etM6).2
      have daxB := dax6.mono (same_off (p := p) s7)
      have daFB := daF6.mono (same_off (p := p) s7)
      have daMB := daM6.mono (same_off (p := p) s7)
      have tuMB := tuM6.mono (same_off (p := p) s7)
      have e0d : ∀ H, Da K H (.ref e0) (.tuple []) := fun H => .tup (BM.e00 H) .nil
      have e0t : ∀ H, Tups K H (.ref e0) (.tuple []) := fun H _ => ⟨e0, [], [], rfl, .inr ⟨BM.e00 H, rfl⟩, .nil, fun i _ _ _ _ h => by simp at h⟩
      have shx : Show dx := ⟨ok2, Nat.le_trans ok3 (by decide), Nat.le_trans ok4 (by decide)⟩
      have hn : manyD (.int n) = some n := many_of n1
      -- what is read in a lambda
      have rd : ∀ J, StT p TT B J → (J tF = some (.tup [xF, posV rF]) ∧ J tM = some (.tup [xM, posV rM])) ∧ (J d = some (.dK [(.inr "many", .int n), (.inr "firsts", .ref fa), (.inr "moves", .ref m)]) ∧ Da K J x dx) ∧ (Da K J xF eF ∧ Da K J xM eM) ∧ Tups K J xM eM ∧ (SqL K J fa (fs.map V.int) ∧ SqL K J m (mk.map fun q => V.ref q.1) ∧ Moves J n mk) := fun J sj =>
        ⟨⟨sj.at_ tFp (fun _ z => by cases z) bF, sj.at_ tMp (fun _ z => by cases z) bM⟩, ⟨sj.at_ dpB (fun _ z => by cases z) eDB, (da_ext sj.k daxB).mono off_same⟩, ⟨(da_ext sj.k daFB).mono off_same, (da_ext sj.k daMB).mono off_same⟩, (tuMB.ext sj.k).mono off_same,
          SqL.of (sj.at_ fap (fun _ z => by cases z) (off_some DB.hf).2), SqL.of (sj.at_ mp (fun _ z => by cases z) (off_some DB.hm).2), (DB.mv.ext sj.k).mono off_same⟩
      have h1 : ∀ o9, Hears K TT p B [some (.ref p), some (.ref d), some (.int n), some (.str sh), some (.int (0 + (i : Int))), some x, some (.ref tF), some (.ref tM), some (.str kp), o9] (fun E => tMake (ga K "Box") (spBox K) [] E (tCons (tVar 5) (tCons (tOp (rIxT K) (tVar 6) (tC (.int 0))) (tCons (tOp (rIxT K) (tVar 7) (tC (.int 0))) tNil)))) [.str "states", .str dx.shown, .bl true] := fun o9 => hears_of _ fun J R Q sj qr _ => by
        obtain ⟨⟨r1, r2⟩, ⟨r3, r4⟩, ⟨r5, r6⟩, r7, r8, r9, r10⟩ := rd J sj
        exact ⟨_, rfl, _, rfl, tF, _, 0, xF, rfl, rfl, SqT.of r1, rfl, _, rfl, tM, _, 0, xM, rfl, rfl, SqT.of r2, rfl, box_call r4 r5 r6 r7 ok1 okF okM (outS hmx r4 shx qr)⟩
      have h2 : ∀ o9, Hears K TT p B [some (.ref p), some (.ref d), some (.int n), some (.str sh), some (.int (0 + (i : Int))), some x, some (.ref tF), some (.ref tM), some (.str kp), o9] (fun E => tMakeK (ga K "Box") 0 (["starts", "steps", "states"] : List Str).length (spBox K) kA E tNil (tCons (tDGet (tVar 1) (tC (.str "firsts"))) (tCons (tOp (rIxT K) (tVar 7) (tC (.int 0))) (tCons (tVar 5) tNil)))) [.str "states", .str dx.shown, .bl true] := fun o9 => hears_of _ fun J R Q sj qr _ => by
        obtain ⟨⟨r1, r2⟩, ⟨r3, r4⟩, ⟨r5, r6⟩, r7, r8, r9, r10⟩ := rd J sj
        exact ⟨_, rfl, d, .ref fa, rfl, DGet.k (k := .inr "firsts") r3, _, rfl, tM, _, 0, xM, rfl, rfl, SqT.of r2, rfl, _, rfl, rfl, rfl, box_call r4 (.lst r8 (das_ints fs)) r6 r7 ok1 stk.1 okM (outS hmx r4 shx qr)⟩
      have h3 : ∀ o9, Hears K TT p B [some (.ref p), some (.ref d), some (.int n), some (.str sh), some (.int (0 + (i : Int))), some x, some (.ref tF), some (.ref tM), some (.str kp), o9] (fun E => tMake (ga K "Box") (spBox K) [.ref e0] E (tCons (tVar 5) (tCons (tDGet (tVar 1) (tC (.str "firsts"))) tNil))) [.str "states", .str dx.shown, .bl true] := fun o9 => hears_of _ fun J R Q sj qr _ => by
        obtain ⟨⟨r1, r2⟩, ⟨r3, r4⟩, ⟨r5, r6⟩, r7, r8, r9, r10⟩ := rd J sj
        exact ⟨_, rfl, _, rfl, d, .ref fa, rfl, DGet.k (k := .inr "firsts") r3, box_call r4 (.lst r8 (das_ints fs)) (e0d J) (e0t J) ok1 stk.1 rfl (outS hmx r4 shx qr)⟩
      have a1 : ∀ o9, Hears K TT p B [some (.ref p), some (.ref d), some (.int n), some (.str sh), some (.int (0 + (i : Int))), some x, some (.ref tF), some (.ref tM), some (.str kp), o9] (fun E => tMake (ga K "Box") (spBox K) [] E (tCons (tVar 2) (tCons (tOp (rIxT K) (tVar 6) (tC (.int 0))) (tCons (tOp (rIxT K) (tVar 7) (tC (.int 0))) tNil)))) [.str "starts", .str (posD rF).shown, .bl true] := fun o9 => hears_of _ fun J R Q sj qr _ => by
        obtain ⟨⟨r1, r2⟩, ⟨r3, r4⟩, ⟨r5, r6⟩, r7, r8, r9, r10⟩ := rd J sj
        exact ⟨_, rfl, _, rfl, tF, _, 0, xF, rfl, rfl, SqT.of r1, rfl, _, rfl, tM, _, 0, xM, rfl, rfl, SqT.of r2, rfl, box_call (.int n) r5 r6 r7 rfl okF okM (outA hn sF rF9 qr)⟩
      have a2 : ∀ o9, Hears K TT p B [some (.ref p), some (.ref d), some (.int n), some (.str sh), some (.int (0 + (i : Int))), some x, some (.ref tF), some (.ref tM), some (.str kp), o9] (fun E => tMakeK (ga K "Box") 0 (["steps", "starts", "states"] : List Str).length (spBox K) kB E tNil (tCons (tDGet (tVar 1) (tC (.str "moves"))) (tCons (tOp (rIxT K) (tVar 6) (tC (.int 0))) (tCons (tVar 2) tNil)))) [.str "starts", .str (posD rF).shown, .bl true] := fun o9 => hears_of _ fun J R Q sj qr _ => by
        obtain ⟨⟨r1, r2⟩, ⟨r3, r4⟩, ⟨r5, r6⟩, r7, r8, r9, r10⟩ := rd J sj
        exact ⟨_, rfl, d, .ref m, rfl, DGet.k (k := .inr "moves") r3, _, rfl, tF, _, 0, xF, rfl, rfl, SqT.of r1, rfl, _, rfl, rfl, rfl, box_call (.int n) r5 (.lst r9 (das_moves r10)) (tups_list r9 r10) rfl okF mok.1 (outA hn sF rF9 qr)⟩
      have a3 : ∀ o9, Hears K TT p B [some (.ref p), some (.ref d), some (.int n), some (.str sh), some (.int (0 + (i : Int))), some x, some (.ref tF), some (.ref tM), some (.str kp), o9] (fun E => tMake (ga K "Box") (spBox K) [.ref e0] E (tCons (tVar 2) (tCons (tOp (rIxT K) (tVar 6) (tC (.int 0))) tNil))) [.str "starts", .str (posD rF).shown, .bl true] := fun o9 => hears_of _ fun J R Q sj qr _ => by
        obtain ⟨⟨r1, r2⟩, ⟨r3, r4⟩, ⟨r5, r6⟩, r7, r8, r9, r10⟩ := rd J sj
        exact ⟨_, rfl, _, rfl, tF, _, 0, xF, rfl, rfl, SqT.of r1, rfl, box_call (.int n) r5 (e0d J) (e0t J) rfl okF rfl (outA hn sF rF9 qr)⟩
      have p1 : ∀ o9, Hears K TT p B [some (.ref p), some (.ref d), some (.int n), some (.str sh), some (.int (0 + (i : Int))), some x, some (.ref tF), some (.ref tM), some (.str kp), o9] (fun E => tMake (ga K "Box") (spBox K) [] E (tCons (tVar 2) (tCons (tDGet (tVar 1) (tC (.str "firsts"))) (tCons (tOp (rIxT K) (tVar 7) (tC (.int 0))) tNil)))) [.str "steps", .str (posD rM).shown, .bl true] := fun o9 => hears_of _ fun J R Q sj qr _ => by
        obtain ⟨⟨r1, r2⟩, ⟨r3, r4⟩, ⟨r5, r6⟩, r7, r8, r9, r10⟩ := rd J sj
        exact ⟨_, rfl, _, rfl, d, .ref fa, rfl, DGet.k (k := .inr "firsts") r3, _, rfl, tM, _, 0, xM, rfl, rfl, SqT.of r2, rfl, box_call (.int n) (.lst r8 (das_ints fs)) r6 r7 rfl stk.1 okM (outP hn stk.2.2.1 sM rM9 qr)⟩
      have p2 : ∀ o9, Hears K TT p B [some (.ref p), some (.ref d), some (.int n), some (.str sh), some (.int (0 + (i : Int))), some x, some (.ref tF), some (.ref tM), some (.str kp), o9] (fun E => tMakeK (ga K "Box") 0 (["steps", "starts", "states"] : List Str).length (spBox K) kB E tNil (tCons (tOp (rIxT K) (tVar 7) (tC (.int 0))) (tCons (tCB (fun xs H Q => ∃ p ys, xs = [V.ref p] ∧ ((SqL K H p ys ∧ ∀ l, H l = none → Q (V.ref l) (upd H l (.tup ys))) ∨ (SqT K H p ys ∧ Q (V.ref p) H))) (tCons (tDGet (tVar 1) (tC (.str "firsts"))) tNil)) (tCons (tVar 2) tNil)))) [.str "steps", .str (posD rM).shown, .bl true] := fun o9 => hears_of _ fun J R Q sj qr _ => by
        obtain ⟨⟨r1, r2⟩, ⟨r3, r4⟩, ⟨r5, r6⟩, r7, r8, r9, r10⟩ := rd J sj
        refine ⟨_, rfl, tM, _, 0, xM, rfl, rfl, SqT.of r2, rfl, _, rfl, d, .ref fa, rfl, DGet.k (k := .inr "firsts") r3, fa, _, rfl, .inl ⟨r8, fun tt htt => ?_⟩⟩
        have s1 : Same J (upd J tt (.tup (fs.map V.int))) := same_new htt
        have x1 := upd_same (H := J) (a := tt) (o := .tup (fs.map V.int))
        generalize upd J tt (.tup (fs.map V.int)) = J1 at s1 x1 ⊢
        exact ⟨_, rfl, rfl, rfl, box_call (.int n) (.tup (SqT.of x1) (das_ints fs)) (r6.mono s1) (r7.mono s1) rfl stk.2.1 okM (outP hn stk.2.2.2 sM rM9 fun D H' s hD => qr D H' (s1.trans s) hD)⟩
      have SB := StT.refl stB.pot stB.tabs
      refine lst_heard (h1 _) SB fun L Hb J1 sb hb Lp t1 w1 => ?_
      refine app_heard (h2 _) sb rfl t1 hb Lp w1 (by decide) fun J2 t2 w2 => ?_
      refine app_heard (h3 _) sb rfl t2 hb Lp w2 (by decide) fun J3 t3 w3 => ?_
      obtain ⟨Ds, ln, rs⟩ := w3
      have g3 := sb.trans t3
      refine ⟨_, rfl, rep_rows (row := [.str "states", .str dx.shown, .bl true]) (fun J R s q => ⟨_, rfl, x, dx, rfl, (rd J (g3.same s)).2.1.2, shx.1, shx.2.1, shx.2.2, q⟩) (Same.refl _) (by show 3 ≤ 100; decide) (by decide) (by decide) fun M Es J4 s4 le rm => ?_⟩
      obtain ⟨dd, d1, d2, sh1, ev⟩ := rows_eqv (K := K) (rd := [.str "states", .str dx.shown, .bool true]) (rs.mono s4) rm (by rw [ln, le]; rfl) (.cons (.str _) (.cons (.str _) (.cons (.bl _) .nil))) (by simp only [PyData.canLayAll0, PyData.canLay0, ok5]; decide +kernel) (by simp only [PyData.depthAll, PyData.depth]; decide)
      refine ⟨dd, dd, d1, d2, sh1, sh1, ?_⟩
      rw [ev]
      have g4 := g3.same s4
      refine ⟨false, rfl, iteF ?_⟩
      refine lst_heard (a1 _) g4 fun L2 Hb2 J5 sb2 hb2 Lp2 t5 w5 => ?_
      refine app_heard (a2 _) (g4.trans sb2) rfl t5 hb2 Lp2 w5 (by decide) fun J6 t6 w6 => ?_
      refine app_heard (a3 _) (g4.trans sb2) rfl t6 hb2 Lp2 w6 (by decide) fun J7 t7 w7 => ?_
      obtain ⟨Ds2, ln2, rs2⟩ := w7
      have g7 := (g4.trans sb2).trans t7
      have pF := pos_show rF9
      refine ⟨_, rfl, rep_rows (row := [.str "starts", .str (posD rF).shown, .bl true]) (fun J R s q => by
        have e1 := (rd J (g7.same s)).1.1
        exact ⟨_, rfl, tF, _, 1, posV rF, rfl, rfl, SqT.of e1, rfl, _, posD rF, rfl, da_pos rF, pF.1, pF.2.1, pF.2.2, q⟩) (Same.refl _) (by show 3 ≤ 100; decide) (by decide) (by decide) fun M2 Es2 J8 s8 le2 rm2 => ?_⟩
      obtain ⟨dd2, d12, d22, sh2, ev2⟩ := rows_eqv (K := K) (rd := [.str "starts", .str (posD rF).shown, .bool true]) (rs2.mono s8) rm2 (by rw [ln2, le2]; rfl) (.cons (.str _) (.cons (.str _) (.cons (.bl _) .nil))) (by simp only [PyData.canLayAll0, PyData.canLay0, pos_ok rF9]; decide +kernel) (by simp only [PyData.depthAll, PyData.depth]; decide)
      refine ⟨dd2, dd2, d12, d22, sh2, sh2, ?_⟩
      rw [ev2]
      have g8 := g7.same s8
      refine ⟨false, rfl, iteF ?_⟩
      refine lst_heard (p1 _) g8 fun L3 Hb3 J9 sb3 hb3 Lp3 t9 w9 => ?_
      refine app_heard (p2 _) (g8.trans sb3) rfl t9 hb3 Lp3 w9 (by decide) fun J10 t10 w10 => ?_
      obtain ⟨Ds3, ln3, rs3⟩ := w10
      have g10 := (g8.trans sb3).trans t10
      have pM := pos_show rM9
      refine ⟨_, rfl, rep_rows (row := [.str "steps", .str (posD rM).shown, .bl true]) (fun J R s q => by
        have e1 := (rd J (g10.same s)).1.2
        exact ⟨_, rfl, tM, _, 1, posV rM, rfl, rfl, SqT.of e1, rfl, _, posD rM, rfl, da_pos rM, pM.1, pM.2.1, pM.2.2, q⟩) (Same.refl _) (by show 3 ≤ 100; decide) (by decide) (by decide) fun M3 Es3 J11 s11 le3 rm3 => ?_⟩
      obtain ⟨dd3, d13, d23, sh3, ev3⟩ := rows_eqv (K := K) (rd := [.str "steps", .str (posD rM).shown, .bool true]) (rs3.mono s11) rm3 (by rw [ln3, le3]; rfl) (.cons (.str _) (.cons (.str _) (.cons (.bl _) .nil))) (by simp only [PyData.canLayAll0, PyData.canLay0, pos_ok rM9]; decide +kernel) (by simp only [PyData.depthAll, PyData.depth]; decide)
      refine ⟨dd3, dd3, d13, d23, sh3, sh3, ?_⟩
      rw [ev3]
      have g11 := g10.same s11
      refine ⟨false, rfl, iteF ?_⟩
      refine ⟨_, rfl, _, rfl, by show 2 ≤ sizeLine; decide, fun l1 hl1 => ?_⟩
      have s12 : Same J11 (upd J11 l1 (.lst [.ref tF, .ref tM])) := same_new hl1
      have e12 := upd_same (H := J11) (a := l1) (o := .lst [.ref tF, .ref tM])
      generalize upd J11 l1 (.lst [.ref tF, .ref tM]) = J12 at s12 e12 ⊢
      have g12 := g11.same s12
      have r12 := rd J12 g12
      have kF2 : Da K J12 (.ref tF) (.tuple [eF, posD rF]) := .tup (SqT.of r12.1.1) (.cons r12.2.2.1.1 (.cons (da_pos rF) .nil))
      have kM2 : Da K J12 (.ref tM) (.tuple [eM, posD rM]) := .tup (SqT.of r12.1.2) (.cons r12.2.2.1.2 (.cons (da_pos rM) .nil))
      refine ⟨.ref l1, _, rfl, .lst (SqL.of e12) (.cons kF2 (.cons kM2 .nil)), kshow.1, kshow.2.1, kshow.2.2, ?_⟩
      rw [hkp]
      refine ⟨_, rfl, ?_⟩
      refine ⟨rfl, false, ?_, iteF ?_⟩
      · show V.bl _ = V.bl false
        simp
      have gE := stB.trans g12
      refine ⟨_, rfl, _, rfl, p, d, n, fs, mk, fa, m, rfl, g12.pot, g12.tabs, D2.ext gE.k, fun J13 s13 => ⟨true, rfl, ?_⟩⟩
      exact ⟨_, _, _, _, _, _, rfl, gE.trans s13⟩
    · obtain ⟨o4, o5, o6, o7, o8, o9, rfl, st⟩ := z
      have D' := D2.ext st.k
      obtain ⟨da, _⟩ := D'.data (K := K)
      refine ⟨_, rfl, .ref d, dealD n fs mk, rfl, da.mono off_same, ds1.1, ds1.2.1, ds1.2.2, _, rfl, rfl, ?_⟩
      rw [hsh, decide_eq_true rfl]
      exact k H' (S2.trans st)
end
end K11
/-! ## K11F -/
set_option Elab.async false
set_option linter.all false
set_option maxRecDepth 100000
set_option maxHeartbeats 4000000
namespace K11
open PySem PySem.Spec PyProof.Rows L2 He Vx
open LamX (ExtN Tabs TabS)

section
variable {P : Program} {w : World} {K : PySem.W.Frag} {mg : Str → Option Value} {base : Heap}
theorem fn_mk {f : Addr} {fd : FuncData} {k : Nat} {x : Str} {st : Stmt} {sp : Sp} {ps N : List Str} (F : Fun K x x st f fd) (S : FnScope N ps (defScope st)) (len : ∀ vs (H : Hp) Q E, sp vs H Q E → vs.length = ps.length)
    (body : ∀ (f : Addr) (cdv : Value) (A : Around) (outer : List Env) (s : Shared) (H : Hp) (vs : List V) (Q : VK) (E : XK), Room k (A.deeper (envOfC x (defScope st) s.heap.objs.size f cdv)) → Gd (A.deeper (envOfC x (defScope st) s.heap.objs.size f cdv)) → sp vs H Q E →
      ∃ t, PSs (cxOf CX0 P w K mg base N x (defScope st) f cdv A outer s H E).nox (defBody st) t ∧ t { nx := fun _ H' => Q .non H', rt := Q } (start N vs) H) : FnG P w K mg base CX0 (k + 1) f fd ps sp :=
  okG F S len fun cdv A outer s H vs Q E hr hG h => by
    obtain ⟨t, h1, h2⟩ := body f cdv A outer s H vs Q E hr hG h
    exact ⟨t, h1.nox, h2⟩
/-- the law: whatever the script, True -/
def spLaw (K : PySem.W.Frag) (T : List (Addr × Str)) : Sp := fun vs H Q _ => ∃ (a : Addr) (ns : List Int), vs = [.ref a] ∧ SqL K H a (ns.map V.int) ∧ ns.length ≤ 1000 ∧ Tabs T H ∧ ∀ H', Q (.bl true) H'
theorem fn_law {fa : Addr} {fd : FuncData} {TT : List (Addr × Str)} (F : Fun K "law" "law" s_law fa fd) (T : BI mg) (c__law_right : Cd P w K mg base 11 "_law_right" ["_law_pot_here"] (spRight K TT)) (c__law_pot : Cd P w K mg base 1 "_law_pot" ["_law_script", "_law_k"] (spPot K)) : FnG P w K mg base CX0 12 fa fd ["_law_script"] (spLaw K TT) := by
  refine fn_mk F sc_law (fun vs H Q E h => ?_) (fun f cdv A outer s H vs Q E hr hG h => ?_)
  · obtain ⟨a, ns, rfl, _⟩ := h
    rfl
  · obtain ⟨a, ns, rfl, hS, hl, tb, k⟩ := h
    refine ⟨_, (pss_one (ps_ret (pe_callB (cr_all rfl) (by rfl) T.all bt_all (pa_cons (pe_lc (own := [("_law_k", 1)]) (g := gName 1) (tt := tYes) (by rfl) sc_law.nd (pi_range1 (by rfl) T.range (pa_cons (pe_callB (call_max2 rfl) (by rfl) T.max bt_max (pa_cons pe_int (pa_cons (pe_callB (call_min2 rfl) (by rfl) T.min bt_min (pa_cons (pe_callB call_len_seq (by rfl) T.len PySem.boot_len (pa_cons (pv 0) pa_nil)) (pa_cons pe_int pa_nil))) pa_nil))) pa_nil)) (blkOk_by (own := [("_law_k", 1)]) (N := ["_law_script", "_law_k"]) (sc := defScope s_law) (by decide +kernel)) (fun _ _ _ _ _ => pg_name (i := 1) sc_law.nd rfl (Or.inl rfl)) (fun _ _ _ _ _ => pts_nil) (fun _ _ _ _ _ => (pe_cd c__law_right (hr.mono (by decide)) hG (by rfl) (pa_cons (pe_cd c__law_pot (hr.mono (by decide)) hG (by rfl) (pa_cons (pv 0) (pa_cons (pv 1) pa_nil))) pa_nil)))) pa_nil)))), ?_⟩
    refine in_ret (in_cb (in_cons ?_))
    have h4 : ∀ n : Int, 0 ≤ n → ∃ m : Nat, 1 ≤ m ∧ m ≤ 4 ∧ (if (if 4 < n then (4 : Int) else n) > 1 then (if 4 < n then (4 : Int) else n) else 1) = (m : Int) := fun n hn => by
      refine ⟨(if (if 4 < n then (4 : Int) else n) > 1 then (if 4 < n then (4 : Int) else n) else 1).toNat, ?_, ?_, ?_⟩ <;> (split <;> split <;> omega)
    obtain ⟨m, m1, m4, em⟩ := h4 ((ns.map V.int).length : Nat) (by omega)
    refine ⟨_, rfl, a, _, rfl, .inl hS, _, _, rfl, _, _, rfl, _, rfl, ?_, ?_, fun D hD => ?_⟩
    · rw [em]
      omega
    · rw [em]
      omega
    · rw [em]
      refine lc_range (lo := 0) (n := m) (fun i H' => H D = none ∧ ExtN H H' ∧ Tabs TT H' ∧ H' D = some (.lst ((List.replicate i true).map V.bl))) ⟨hD, ExtN.of (same_new hD), tb.ext (same_new hD), upd_same⟩
        (fun i H' hi z => ⟨by rfl, ?_⟩) fun H' z => ?_
      · obtain ⟨z1, z2, zt, z3⟩ := z
        refine ⟨_, rfl, _, rfl, a, _, ns, rfl, seqL_ext z2 hS, by omega, by omega, hl, fun p H2 hp s2 P2 => ?_⟩
        refine ⟨p, rfl, P2, zt.ext s2, fun H4 st4 => ?_⟩
        have s4 : ExtN H' H4 := fun c o ec nt => by
          have nc : c ≠ p := fun z => by
            rw [z, hp] at ec
            cases ec
          exact (off_some (st4.k c o ((off_ne nc).trans (s2 _ _ ec)) nt)).2
        have e4 := s4 _ _ z3 fun _ z => by cases z
        refine ⟨_, e4, by rw [List.length_map, List.length_replicate]; exact small1000 (by omega), z1, fun c o ec nt => ?_, tabs_at st4.tabs e4 fun b u n h => by rw [upd_ne n]; exact h, ?_⟩
        · rw [upd_ne (ne_of_none ec z1)]
          exact s4 _ _ (z2 c o ec nt) nt
        · rw [upd_same, List.replicate_succ', List.map_append]
          rfl
      · obtain ⟨z1, z2, zt, z3⟩ := z
        refine ⟨D, _, rfl, SqL.of z3, ?_⟩
        have e : (List.replicate m true).all id = true := by
          rw [List.all_eq_true]
          intro b hb
          rw [List.eq_of_mem_replicate hb]
          rfl
        rw [e]
        exact k H'
end
end K11
/-! ## G32 -/
set_option Elab.async false
set_option linter.all false
set_option maxRecDepth 100000
set_option maxHeartbeats 4000000
namespace Vx
open PySem PySem.Spec PyProof.Rows L2
section
variable {P : Program} {w : World} {K : PySem.W.Frag} {mg mb : Str → Option Value} {k : Nat} {fa a : Addr} {fd : FuncData} {x : Str} {sp : Sp} {t : Shared} {us : List Value} {zs : List Int} {cs : List (Addr × Addr)}
/-- a code object's table at the start: empty -/
abbrev tab0 : Obj := { cls := .none, data := .fields #[] }
/-- the law's call at an abstract heap that tracks at most the script and the tables cs of code objects -/
theorem callT (inK : K.In t.heap) (gN : t.heap.Ns mainGlobals mg) (bN : t.heap.Ns builtinsNs mb) (bOk : ∀ y : Str, y ≠ "__name__" → mb y = bootBuiltins y) (noL : t.heap.NoLimit) (noG : t.gens = #[])
    (mt : ∀ p ∈ cs, t.heap.get? p.2 = some tab0) (ct : ∀ p ∈ cs, PySem.W.codeHdIn K p.1 p.2 = true) (nt : ∀ p ∈ cs, K.lookup p.2 = none)
    (bm : ∃ (b : Addr) (o : Obj), mg "__builtins__" = some (.ref b) ∧ b ≠ builtinsNs ∧ t.heap.get? b = some o ∧ o.cls = .type "module" ∧ o.dict = some builtinsNs ∧ o.data = .plain)
    (scr : t.heap.get? a = some { cls := .type "list", data := .seq us.toArray }) (room : Room k callerA) (fn : ∀ base : Heap, K.In base → base.Ns mainGlobals mg → (∀ p ∈ cs, LamX.TabB base mg p.1 p.2) → FnG P w K mg base CX0 k fa fd [x] sp)
    (bnd : ∀ (s : Shared) (u : Value), BindsTo s fd ⟨[u], []⟩ [(x, u)]) {H : Hp} (prom : sp [.ref a] H (fun v _ => v = .bl true) fun _ _ _ => False) (good : HOk P w H t.heap)
    (onl : ∀ b u, H b = some u → (b = a ∧ ∃ o xs, u = .frz o (.lst xs)) ∨ ∃ p ∈ cs, b = p.2 ∧ u = .tbl #[]) (offK : (H a).isSome = true → K.lookup a = none) (isT : ∀ p ∈ cs, H p.2 = some (.tbl #[])) :
    codeAny (model P w) callerA (.call (.ref fa) ⟨[.ref a], []⟩) (fun r s' => r = .ok (.ret (.bool true)) ∧ OldK t.heap s'.heap ∧ s'.os = t.os ∧ AllBare s'.gens) t := by
  have keepO : ∀ {b : Addr} {o : Obj}, t.heap.get? b = some o → (∀ us n, o.data ≠ .seq us n) → o.data ≠ .fields #[] → (hidT t.heap H).get? b = some o := by
    intro b o eo n1 n2
    refine hidT_get eo ?_
    rcases hb : H b with _ | u
    · rfl
    · rcases onl b u hb with ⟨rfl, _⟩ | ⟨p, hp, rfl, _⟩
      · rw [scr] at eo
        cases eo
        exact (n1 _ _ rfl).elim
      · rw [mt p hp] at eo
        cases eo
        exact (n2 rfl).elim
  have keepN : ∀ {b : Addr} {m : Str → Option Value}, t.heap.Ns b m → (hidT t.heap H).Ns b m := by
    rintro b m ⟨o, es, n, h1, h2, h3⟩
    exact ⟨o, es, n, keepO h1 (fun us n z => by rw [h2] at z; cases z) (fun z => by rw [h2] at z; cases z), h2, h3⟩
  have keepK : K.In (hidT t.heap H) := by
    intro b o eb
    refine hidT_get (inK b o eb) ?_
    rcases hb : H b with _ | u
    · rfl
    · rcases onl b u hb with ⟨rfl, _⟩ | ⟨p, hp, rfl, _⟩
      · rw [offK (by rw [hb]; rfl)] at eb
        cases eb
      · rw [nt p hp] at eb
        cases eb
  obtain ⟨ml, l1, l2⟩ := noL
  have tabs : ∀ p ∈ cs, LamX.TabB (hidT t.heap H) mg p.1 p.2 := fun p hp => by
    obtain ⟨b, o, b1, b2, b3, b4, b5, b6⟩ := bm
    refine ⟨PySem.W.codeHd_of_K keepK (ct p hp), ⟨b, o, b1, b2, fun q => ?_, fun q => ?_, keepO b3 (fun us n z => by rw [b6] at z; cases z) (fun z => by rw [b6] at z; cases z), b4, b5, b6⟩, fun q => ?_⟩
    · obtain ⟨o2, es, n, h1, h2, _⟩ := gN
      rw [q, h1] at b3
      cases b3
      rw [h2] at b6
      cases b6
    · rw [q, mt p hp] at b3
      cases b3
      cases b6
    · obtain ⟨o2, es, n, h1, h2, _⟩ := gN
      rw [q, mt p hp] at h1
      cases h1
      cases h2
  have env : Env0 P w K mg (hidT t.heap H) callerA [] t H :=
    ⟨rfl, ⟨keepK, keepN gN, ⟨mb, keepN bN, bOk⟩, ml, keepN l1, l2⟩, fun _ _ e => of_hidT e, Nat.le_of_eq (hidT_size _ _), trivial, (fun _ hb => nomatch hb), good, .of_eq noG⟩
  have go := (fn _ keepK (keepN gN) tabs).go callerA [] t H ⟨[.ref a], []⟩ [.ref a] [.ref a] _ _ room rfl env (bnd t (.ref a)) (.cons rfl .nil) prom
  refine codeAny_mono go ?_
  rintro (er | fl) s2 out
  · exact out.elim
  · rcases fl with _ | _ | _ | u
    all_goals first | exact out.elim | skip
    obtain ⟨v, H2, sameOs, bare, kept, good2, rv, hv⟩ := out
    cases (show v = .bl true from hv)
    cases (show u = Value.bool true from rv)
    -- a table has grown, or stays; all else stays
    have same : ∀ b o, t.heap.get? b = some o → s2.heap.get? b = some o ∨ ∃ p ∈ cs, b = p.2 ∧ ∃ more : Array Value, s2.heap.get? b = some { cls := .none, data := .fields more } := by
      intro b o eb
      rcases hb : H b with _ | u
      · exact .inl (kept.keep b o eb hb (fun z => nomatch (show b ∈ ([] : List Addr) from z)) (fun z => nomatch z))
      · rcases onl b u hb with ⟨_, ob, xs, rfl⟩ | ⟨p, hp, e, rfl⟩
        · have q1 := (good b _ hb).1
          have q2 := (good2 b _ (kept.frzs b ob _ hb)).1
          rw [eb] at q1
          cases q1
          exact .inl q2
        · obtain ⟨more, z⟩ := kept.tbls b #[] hb
          exact .inr ⟨p, hp, e, _, good2 b _ z⟩
    refine ⟨rfl, ⟨fun b o eb => ?_, fun b o eb => ?_⟩, sameOs, bare⟩
    · rcases same b o eb with h | ⟨p, hp, rfl, more, h⟩
      · exact .inl h
      · rw [mt p hp] at eb
        cases eb
        exact .inr (.inl ⟨((PySem.W.codeHd_of_K inK (ct p hp)).tab (mt p hp)).isCodeTable, rfl, #[], more, rfl, by rw [Array.empty_append]; exact h⟩)
    · rcases same b o eb with h | ⟨p, hp, rfl, more, h⟩
      · exact ⟨o, h⟩
      · exact ⟨_, h⟩
/-- the tables, tracked; the script beside them, or not -/
def trkT (cs : List (Addr × Addr)) (H : Hp) : Hp := fun b => if b ∈ cs.map (·.2) then some (.tbl #[]) else H b
theorem callGT (inK : K.In t.heap) (gN : t.heap.Ns mainGlobals mg) (bN : t.heap.Ns builtinsNs mb) (bOk : ∀ y : Str, y ≠ "__name__" → mb y = bootBuiltins y) (noL : t.heap.NoLimit) (noG : t.gens = #[])
    (mt : ∀ p ∈ cs, t.heap.get? p.2 = some tab0) (ct : ∀ p ∈ cs, PySem.W.codeHdIn K p.1 p.2 = true) (nt : ∀ p ∈ cs, K.lookup p.2 = none)
    (bm : ∃ (b : Addr) (o : Obj), mg "__builtins__" = some (.ref b) ∧ b ≠ builtinsNs ∧ t.heap.get? b = some o ∧ o.cls = .type "module" ∧ o.dict = some builtinsNs ∧ o.data = .plain)
    (scr : t.heap.get? a = some { cls := .type "list", data := .seq us.toArray }) (ii : IntsAre us zs) (few : zs.length ≤ sizeLine) (room : Room k callerA)
    (fn : ∀ base : Heap, K.In base → base.Ns mainGlobals mg → (∀ p ∈ cs, LamX.TabB base mg p.1 p.2) → FnG P w K mg base CX0 k fa fd [x] sp) (bnd : ∀ (s : Shared) (u : Value), BindsTo s fd ⟨[u], []⟩ [(x, u)])
    (prom : ∀ H : Hp, (∀ p ∈ cs, H p.2 = some (.tbl #[])) → SqL K H a (zs.map V.int) → sp [.ref a] H (fun v _ => v = .bl true) fun _ _ _ => False) :
    codeAny (model P w) callerA (.call (.ref fa) ⟨[.ref a], []⟩) (fun r s' => r = .ok (.ret (.bool true)) ∧ OldK t.heap s'.heap ∧ s'.os = t.os ∧ AllBare s'.gens) t := by
  have rel := vals_ints ii
  have len := ii.length
  have out : a ∉ cs.map (·.2) := fun z => by
    obtain ⟨p, hp, e⟩ := List.mem_map.mp z
    have q := mt p hp
    rw [e, scr] at q
    cases q
  have isT : ∀ (H : Hp), ∀ p ∈ cs, trkT cs H p.2 = some (.tbl #[]) := fun H p hp => if_pos (List.mem_map.mpr ⟨p, hp, rfl⟩)
  have offT : ∀ (H : Hp) {b : Addr}, b ∉ cs.map (·.2) → trkT cs H b = H b := fun H b hb => if_neg hb
  have tabG : ∀ (H : Hp) {b : Addr} {u : HO}, b ∈ cs.map (·.2) → trkT cs H b = some u → u = .tbl #[] ∧ ∃ p ∈ cs, b = p.2 := fun H b u hb e => by
    have z := (if_pos hb).symm.trans e
    cases z
    obtain ⟨p, hp, e2⟩ := List.mem_map.mp hb
    exact ⟨rfl, p, hp, e2.symm⟩
  rcases hk : K.lookup a with _ | o
  · have at_ : trk { cls := .type "list", data := .seq us.toArray } (zs.map V.int) a a = some (.frz { cls := .type "list", data := .seq us.toArray } (.lst (zs.map V.int))) := if_pos rfl
    have at2 := (offT (trk { cls := .type "list", data := .seq us.toArray } (zs.map V.int) a) out).trans at_
    refine callT (H := trkT cs (trk { cls := .type "list", data := .seq us.toArray } (zs.map V.int) a)) inK gN bN bOk noL noG mt ct nt bm scr room fn bnd (prom _ (isT _) (.inl (.inr ⟨_, at2⟩))) ?_ ?_ (fun _ => hk) (isT _)
    · intro b u eu
      by_cases hm : b ∈ cs.map (·.2)
      · obtain ⟨rfl, p, hp, rfl⟩ := tabG _ hm eu
        exact mt p hp
      · rw [offT _ hm] at eu
        by_cases hb : b = a
        · subst hb
          cases at_.symm.trans eu
          exact ⟨scr, by rw [List.length_map]; exact few, us, _, rel, scr⟩
        · cases (if_neg hb).symm.trans eu
    · intro b u eu
      by_cases hm : b ∈ cs.map (·.2)
      · obtain ⟨rfl, p, hp, rfl⟩ := tabG _ hm eu
        exact .inr ⟨p, hp, rfl, rfl⟩
      · rw [offT _ hm] at eu
        by_cases hb : b = a
        · subst hb
          cases at_.symm.trans eu
          exact .inl ⟨rfl, _, _, rfl⟩
        · cases (if_neg hb).symm.trans eu
  · have eo := inK a o hk
    rw [scr] at eo
    cases eo
    refine callT (H := trkT cs fun _ => none) inK gN bN bOk noL noG mt ct nt bm scr room fn bnd (prom _ (isT _) (.inr ⟨_, us.toArray, _, hk, rfl, rfl, rfl, by rw [List.size_toArray, len]; exact few, by simpa using rel⟩)) ?_ ?_ (fun z => by rw [offT _ out] at z; cases z) (isT _)
    · intro b u eu
      by_cases hm : b ∈ cs.map (·.2)
      · obtain ⟨rfl, p, hp, rfl⟩ := tabG _ hm eu
        exact mt p hp
      · rw [offT _ hm] at eu
        cases eu
    · intro b u eu
      by_cases hm : b ∈ cs.map (·.2)
      · obtain ⟨rfl, p, hp, rfl⟩ := tabG _ hm eu
        exact .inr ⟨p, hp, rfl, rfl⟩
      · rw [offT _ hm] at eu
        cases eu
end
/-- the end of a law with lambdas whose def keeps its promise where no repr is open -/
theorem walkT {l : PySem.W.OpenLaw} {n k : Nat} {q : Program} {loose : List Str} {XP : (Str → Option Value) → Heap → Prop} {YP : World → Heap → Prop} {d : DefRec} {x : Str} (most : l.most = some n) (n2 : n ≤ sizeLine) (nodf : d.params.defaults = []) (room : Room k callerA)
    (F : ∀ (w : World) (mg : Str → Option Value) (fa : Addr) (h : Heap), YP w h → h.Ns mainGlobals mg → mg d.name = some (.ref fa) → ∃ (K : PySem.W.Frag) (fd : FuncData) (sp : Sp) (cs : List (Addr × Addr)), K.In h ∧ (∀ p ∈ cs, h.get? p.2 = some tab0) ∧ (∀ p ∈ cs, PySem.W.codeHdIn K p.1 p.2 = true) ∧ (∀ p ∈ cs, K.lookup p.2 = none) ∧ (∀ (s : Shared) (u : Value), BindsTo s fd ⟨[u], []⟩ [(x, u)]) ∧
      (∀ (H : Hp) (a : Addr) (zs : List Int), zs.length ≤ n → (∀ p ∈ cs, H p.2 = some (.tbl #[])) → SqL K H a (zs.map V.int) → sp [.ref a] H (fun v _ => v = .bl true) fun _ _ _ => False) ∧ ∀ base : Heap, K.In base → base.Ns mainGlobals mg → (∀ p ∈ cs, LamX.TabB base mg p.1 p.2) → FnG l.prog w K mg base CX0 k fa fd [x] sp) :
    PySem.W.WalkO q loose XP YP l.row.toRowW d [] (fun f vs => PySem.call f vs) := by
  refine Att.attach_call most nodf fun w t0 t mg mb fa o pm cd doc a us zs G Y ho hd hcd hmg scr ii len noG => ?_
  obtain ⟨K, fd, sp, cs, inK, mt, ct, nt, bnd, prom, fn⟩ := F w mg fa _ Y G.T.g hmg
  exact callGT inK G.T.g G.T.b G.T.builtins G.T.nolimit noG mt ct nt G.T.bmain scr ii (Nat.le_trans len n2) room fn bnd fun H hT hS => prom H a zs len hT hS
end Vx
/-! ## HF12 -/
set_option Elab.async false
set_option linter.all false
set_option maxRecDepth 100000
set_option maxHeartbeats 4000000
namespace K11
open PySem PySem.Spec PyProof.Rows L2 He Vx
open LamX (ExtN Tabs TabS)
section
variable {P : Program} {w : World} {K : PySem.W.Frag} {mg : Str → Option Value} {base h : Heap}
theorem funD_at {g : Addr} {d : DefD} (e : fnAt K g = d.val) (c : okAt K g d = true) : ∃ fd, FunD K d.name d.qual d.params d.body d.scope (d.dvs K) (d.kws K) g fd := by
  obtain ⟨kp, c2⟩ := ba c
  unfold fnAt at e
  cases q : K.lookup g with
  | none =>
    rw [q] at c2
    cases c2
  | some o =>
    obtain ⟨oc, od, dt, osl⟩ := o
    rw [q] at c2 e
    cases dt with
    | func fd =>
      obtain ⟨n1, n2, n3, n4, n5, n6, n7, n8, n9, n10, n11, n12, n13, n14, n15⟩ := fd
      have e2 : (some (n1, n2, n3, n4, n5, n6, n7, n15) : FnW) = some (d.name, d.qual, d.params, .stmts d.body, d.scope, mainGlobals, [], builtinsNs) := e
      simp only [Option.some.injEq, Prod.mk.injEq] at e2
      obtain ⟨h1, h2, h3, h4, h5, h6, h7, h8⟩ := e2
      subst h1 h2 h3 h4 h5 h6 h7 h8
      obtain ⟨k1, k2⟩ := ba (show (PySem.W.codeIn K n13 d.qual && (dflB K n8 (d.dvs K) && kwdB K n9 (d.kws K))) = true from c2)
      obtain ⟨k3, k4⟩ := ba k2
      exact ⟨_, ⟨oc, od, n8, n9, n10, n11, n12, n13, n14, osl, rfl, q, k1, dflB_ok k3, kwdB_ok k4⟩, kp⟩
    | _ => cases c2
structure XF (K : PySem.W.Frag) : Prop where
  xg : xgB K = true
  ec : ∀ c ∈ ecs, c.ok K = true
  e0 : ∀ c ∈ ec0, c.ok0 K = true
  he : heardB K = true
  bx : boxB K = true
theorem xf_of (o : xbK K = true) : XF K := by
  obtain ⟨h1, o⟩ := ba o
  obtain ⟨h2, o⟩ := ba o
  obtain ⟨h3, o⟩ := ba o
  obtain ⟨h4, h5⟩ := ba o
  exact ⟨h1, List.all_eq_true.mp h2, List.all_eq_true.mp h3, h4, h5⟩
theorem e_InvalidStates (X : K.In h) (G : h.Ns mainGlobals mg) (x : XF K) (c : SaysD faK fnK K) : ErrC P w K mg base xVal "InvalidStates" "value" (ga K "InvalidStates") := by
  obtain ⟨fd, F⟩ := c.def_ 22 (d := dM "InvalidStates" "InvalidStates.__init__" (met 8 0)) rfl
  exact errC_of X G (c := ⟨"InvalidStates", xVal, "value", ""⟩) (x.ec _ (List.mem_of_getElem? (i := 0) rfl)) F ⟨_, _, _, _, rfl⟩ ⟨rfl, rfl, rfl, by decide +kernel, rfl, by decide +kernel, by decide +kernel⟩ rfl rfl rfl rfl (fun _ _ _ _ _ _ _ _ => rfl) (fun _ _ _ _ _ _ _ _ => rfl)
theorem e_InvalidStarts (X : K.In h) (G : h.Ns mainGlobals mg) (x : XF K) (c : SaysD faK fnK K) : ErrC P w K mg base xVal "InvalidStarts" "position" (ga K "InvalidStarts") := by
  obtain ⟨fd, F⟩ := c.def_ 23 (d := dM "InvalidStarts" "InvalidStarts.__init__" (met 9 0)) rfl
  exact errC_of X G (c := ⟨"InvalidStarts", xVal, "position", ""⟩) (x.ec _ (List.mem_of_getElem? (i := 1) rfl)) F ⟨_, _, _, _, rfl⟩ ⟨rfl, rfl, rfl, by decide +kernel, rfl, by decide +kernel, by decide +kernel⟩ rfl rfl rfl rfl (fun _ _ _ _ _ _ _ _ => rfl) (fun _ _ _ _ _ _ _ _ => rfl)
theorem e_InvalidSteps (X : K.In h) (G : h.Ns mainGlobals mg) (x : XF K) (c : SaysD faK fnK K) : ErrC P w K mg base xVal "InvalidSteps" "position" (ga K "InvalidSteps") := by
  obtain ⟨fd, F⟩ := c.def_ 24 (d := dM "InvalidSteps" "InvalidSteps.__init__" (met 10 0)) rfl
  exact errC_of X G (c := ⟨"InvalidSteps", xVal, "position", ""⟩) (x.ec _ (List.mem_of_getElem? (i := 2) rfl)) F ⟨_, _, _, _, rfl⟩ ⟨rfl, rfl, rfl, by decide +kernel, rfl, by decide +kernel, by decide +kernel⟩ rfl rfl rfl rfl (fun _ _ _ _ _ _ _ _ => rfl) (fun _ _ _ _ _ _ _ _ => rfl)
theorem e_InvalidStep (X : K.In h) (G : h.Ns mainGlobals mg) (x : XF K) (c : SaysD faK fnK K) : ErrC P w K mg base xVal "InvalidStep" "value" (ga K "InvalidStep") := by
  obtain ⟨fd, F⟩ := c.def_ 25 (d := dM "InvalidStep" "InvalidStep.__init__" (met 11 0)) rfl
  exact errC_of X G (c := ⟨"InvalidStep", xVal, "value", ""⟩) (x.ec _ (List.mem_of_getElem? (i := 3) rfl)) F ⟨_, _, _, _, rfl⟩ ⟨rfl, rfl, rfl, by decide +kernel, rfl, by decide +kernel, by decide +kernel⟩ rfl rfl rfl rfl (fun _ _ _ _ _ _ _ _ => rfl) (fun _ _ _ _ _ _ _ _ => rfl)
theorem e_InvalidState (X : K.In h) (G : h.Ns mainGlobals mg) (x : XF K) (c : SaysD faK fnK K) : ErrC P w K mg base xVal "InvalidState" "value" (ga K "InvalidState") := by
  obtain ⟨fd, F⟩ := c.def_ 26 (d := dM "InvalidState" "InvalidState.__init__" (met 12 0)) rfl
  exact errC_of X G (c := ⟨"InvalidState", xVal, "value", ""⟩) (x.ec _ (List.mem_of_getElem? (i := 4) rfl)) F ⟨_, _, _, _, rfl⟩ ⟨rfl, rfl, rfl, by decide +kernel, rfl, by decide +kernel, by decide +kernel⟩ rfl rfl rfl rfl (fun _ _ _ _ _ _ _ _ => rfl) (fun _ _ _ _ _ _ _ _ => rfl)
theorem e_TooMany (X : K.In h) (G : h.Ns mainGlobals mg) (x : XF K) (c : SaysD faK fnK K) : ErrC2 P w K mg base xAri "TooMany" "what" "limit" (ga K "TooMany") := by
  obtain ⟨fd, F⟩ := c.def_ 27 (d := dM "TooMany" "TooMany.__init__" (met 14 0)) rfl
  exact errC2_of X G (c := ⟨"TooMany", xAri, "what", "limit"⟩) (x.ec _ (List.mem_of_getElem? (i := 5) rfl)) F ⟨_, _, _, _, _, _, _, _, rfl⟩ ⟨rfl, rfl, rfl, by decide +kernel, rfl, by decide +kernel, by decide +kernel⟩ rfl rfl rfl rfl rfl rfl rfl (fun _ _ _ _ _ _ _ _ _ => rfl) (fun _ _ _ _ _ _ _ _ _ => rfl)
theorem e_BoxError (X : K.In h) (G : h.Ns mainGlobals mg) (x : XF K) : Err0 K mg xVal "BoxError" (ga K "BoxError") := err0_of X G (c := ⟨"BoxError", xVal, "", ""⟩) (x.e0 _ (List.mem_of_getElem? (i := 0) rfl))
theorem e_LimitError (X : K.In h) (G : h.Ns mainGlobals mg) (x : XF K) : Err0 K mg xAri "LimitError" (ga K "LimitError") := err0_of X G (c := ⟨"LimitError", xAri, "", ""⟩) (x.e0 _ (List.mem_of_getElem? (i := 1) rfl))
theorem es_of (X : K.In h) (G : h.Ns mainGlobals mg) (x : XF K) (c : SaysD faK fnK K) : ErrSet P w K mg base := ⟨e_BoxError X G x, e_InvalidStates X G x c, e_InvalidStarts X G x c, e_InvalidSteps X G x c, e_InvalidStep X G x c, e_InvalidState X G x c, e_LimitError X G x, e_TooMany X G x c⟩
theorem at_is_integer (X : K.In h) (G : h.Ns mainGlobals mg) (c : SaysD faK fnK K) : At K mg "is_integer" s_is_integer := ⟨by
  obtain ⟨fd, F⟩ := c.def_ 0 (d := dD "is_integer" s_is_integer) rfl
  exact ⟨_, fd, funD_fun F, glo_ok X G (c.fact 26 (f := .glo "is_integer") rfl)⟩⟩
theorem at_is_name (X : K.In h) (G : h.Ns mainGlobals mg) (c : SaysD faK fnK K) : At K mg "is_name" s_is_name := ⟨by
  obtain ⟨fd, F⟩ := c.def_ 1 (d := dD "is_name" s_is_name) rfl
  exact ⟨_, fd, funD_fun F, glo_ok X G (c.fact 27 (f := .glo "is_name") rfl)⟩⟩
theorem at_is_list (X : K.In h) (G : h.Ns mainGlobals mg) (c : SaysD faK fnK K) : At K mg "is_list" s_is_list := ⟨by
  obtain ⟨fd, F⟩ := c.def_ 2 (d := dD "is_list" s_is_list) rfl
  exact ⟨_, fd, funD_fun F, glo_ok X G (c.fact 28 (f := .glo "is_list") rfl)⟩⟩
theorem at_is_state (X : K.In h) (G : h.Ns mainGlobals mg) (c : SaysD faK fnK K) : At K mg "is_state" s_is_state := ⟨by
  obtain ⟨fd, F⟩ := c.def_ 3 (d := dD "is_state" s_is_state) rfl
  exact ⟨_, fd, funD_fun F, glo_ok X G (c.fact 29 (f := .glo "is_state") rfl)⟩⟩
theorem at_first_wrong (X : K.In h) (G : h.Ns mainGlobals mg) (c : SaysD faK fnK K) : At K mg "first_wrong" s_first_wrong := ⟨by
  obtain ⟨fd, F⟩ := c.def_ 4 (d := dD "first_wrong" s_first_wrong) rfl
  exact ⟨_, fd, funD_fun F, glo_ok X G (c.fact 30 (f := .glo "first_wrong") rfl)⟩⟩
theorem at_check_parts (X : K.In h) (G : h.Ns mainGlobals mg) (c : SaysD faK fnK K) : At K mg "check_parts" s_check_parts := ⟨by
  obtain ⟨fd, F⟩ := c.def_ 5 (d := dD "check_parts" s_check_parts) rfl
  exact ⟨_, fd, funD_fun F, glo_ok X G (c.fact 31 (f := .glo "check_parts") rfl)⟩⟩
theorem at_check_limits (X : K.In h) (G : h.Ns mainGlobals mg) (c : SaysD faK fnK K) : At K mg "check_limits" s_check_limits := ⟨by
  obtain ⟨fd, F⟩ := c.def_ 6 (d := dD "check_limits" s_check_limits) rfl
  exact ⟨_, fd, funD_fun F, glo_ok X G (c.fact 32 (f := .glo "check_limits") rfl)⟩⟩
theorem at_check_starts (X : K.In h) (G : h.Ns mainGlobals mg) (c : SaysD faK fnK K) : At K mg "check_starts" s_check_starts := ⟨by
  obtain ⟨fd, F⟩ := c.def_ 7 (d := dD "check_starts" s_check_starts) rfl
  exact ⟨_, fd, funD_fun F, glo_ok X G (c.fact 33 (f := .glo "check_starts") rfl)⟩⟩
theorem at_check_steps (X : K.In h) (G : h.Ns mainGlobals mg) (c : SaysD faK fnK K) : At K mg "check_steps" s_check_steps := ⟨by
  obtain ⟨fd, F⟩ := c.def_ 8 (d := dD "check_steps" s_check_steps) rfl
  exact ⟨_, fd, funD_fun F, glo_ok X G (c.fact 34 (f := .glo "check_steps") rfl)⟩⟩
theorem at__law_pot (X : K.In h) (G : h.Ns mainGlobals mg) (c : SaysD faK fnK K) : At K mg "_law_pot" s_law_pot := ⟨by
  obtain ⟨fd, F⟩ := c.def_ 9 (d := dD "_law_pot" s_law_pot) rfl
  exact ⟨_, fd, funD_fun F, glo_ok X G (c.fact 35 (f := .glo "_law_pot") rfl)⟩⟩
theorem at__law_draw (X : K.In h) (G : h.Ns mainGlobals mg) (c : SaysD faK fnK K) : At K mg "_law_draw" s_law_draw := ⟨by
  obtain ⟨fd, F⟩ := c.def_ 10 (d := dD "_law_draw" s_law_draw) rfl
  exact ⟨_, fd, funD_fun F, glo_ok X G (c.fact 36 (f := .glo "_law_draw") rfl)⟩⟩
theorem at__law_pick (X : K.In h) (G : h.Ns mainGlobals mg) (c : SaysD faK fnK K) : At K mg "_law_pick" s_law_pick := ⟨by
  obtain ⟨fd, F⟩ := c.def_ 11 (d := dD "_law_pick" s_law_pick) rfl
  exact ⟨_, fd, funD_fun F, glo_ok X G (c.fact 37 (f := .glo "_law_pick") rfl)⟩⟩
theorem at__law_mixed (X : K.In h) (G : h.Ns mainGlobals mg) (c : SaysD faK fnK K) : At K mg "_law_mixed" s_law_mixed := ⟨by
  obtain ⟨fd, F⟩ := c.def_ 12 (d := dD "_law_mixed" s_law_mixed) rfl
  exact ⟨_, fd, funD_fun F, glo_ok X G (c.fact 38 (f := .glo "_law_mixed") rfl)⟩⟩
theorem at__law_menu (X : K.In h) (G : h.Ns mainGlobals mg) (c : SaysD faK fnK K) : At K mg "_law_menu" s_law_menu := ⟨by
  obtain ⟨fd, F⟩ := c.def_ 13 (d := dD "_law_menu" s_law_menu) rfl
  exact ⟨_, fd, funD_fun F, glo_ok X G (c.fact 39 (f := .glo "_law_menu") rfl)⟩⟩
theorem at__law_deal (X : K.In h) (G : h.Ns mainGlobals mg) (c : SaysD faK fnK K) : At K mg "_law_deal" s_law_deal := ⟨by
  obtain ⟨fd, F⟩ := c.def_ 14 (d := dD "_law_deal" s_law_deal) rfl
  exact ⟨_, fd, funD_fun F, glo_ok X G (c.fact 40 (f := .glo "_law_deal") rfl)⟩⟩
theorem at__law_heard (X : K.In h) (G : h.Ns mainGlobals mg) (c : SaysD faK fnK K) : At K mg "_law_heard" s_law_heard := ⟨by
  obtain ⟨fd, F⟩ := c.def_ 15 (d := dD "_law_heard" s_law_heard) rfl
  exact ⟨_, fd, funD_fun F, glo_ok X G (c.fact 41 (f := .glo "_law_heard") rfl)⟩⟩
theorem at__law_odd_many (X : K.In h) (G : h.Ns mainGlobals mg) (c : SaysD faK fnK K) : At K mg "_law_odd_many" s_law_odd_many := ⟨by
  obtain ⟨fd, F⟩ := c.def_ 16 (d := dD "_law_odd_many" s_law_odd_many) rfl
  exact ⟨_, fd, funD_fun F, glo_ok X G (c.fact 42 (f := .glo "_law_odd_many") rfl)⟩⟩
theorem at__law_odd_firsts (X : K.In h) (G : h.Ns mainGlobals mg) (c : SaysD faK fnK K) : At K mg "_law_odd_firsts" s_law_odd_firsts := ⟨by
  obtain ⟨fd, F⟩ := c.def_ 17 (d := dD "_law_odd_firsts" s_law_odd_firsts) rfl
  exact ⟨_, fd, funD_fun F, glo_ok X G (c.fact 43 (f := .glo "_law_odd_firsts") rfl)⟩⟩
theorem at__law_odd_moves (X : K.In h) (G : h.Ns mainGlobals mg) (c : SaysD faK fnK K) : At K mg "_law_odd_moves" s_law_odd_moves := ⟨by
  obtain ⟨fd, F⟩ := c.def_ 18 (d := dD "_law_odd_moves" s_law_odd_moves) rfl
  exact ⟨_, fd, funD_fun F, glo_ok X G (c.fact 44 (f := .glo "_law_odd_moves") rfl)⟩⟩
theorem at__law_let_right (X : K.In h) (G : h.Ns mainGlobals mg) (c : SaysD faK fnK K) : At K mg "_law_let_right" s_law_let_right := ⟨by
  obtain ⟨fd, F⟩ := c.def_ 19 (d := dD "_law_let_right" s_law_let_right) rfl
  exact ⟨_, fd, funD_fun F, glo_ok X G (c.fact 45 (f := .glo "_law_let_right") rfl)⟩⟩
theorem at__law_right (X : K.In h) (G : h.Ns mainGlobals mg) (c : SaysD faK fnK K) : At K mg "_law_right" s_law_right := ⟨by
  obtain ⟨fd, F⟩ := c.def_ 20 (d := dD "_law_right" s_law_right) rfl
  exact ⟨_, fd, funD_fun F, glo_ok X G (c.fact 46 (f := .glo "_law_right") rfl)⟩⟩
theorem at_law (X : K.In h) (G : h.Ns mainGlobals mg) (c : SaysD faK fnK K) : At K mg "law" s_law := ⟨by
  obtain ⟨fd, F⟩ := c.def_ 21 (d := dD "law" s_law) rfl
  exact ⟨_, fd, funD_fun F, glo_ok X G (c.fact 47 (f := .glo "law") rfl)⟩⟩
theorem bi_K (X : K.In h) (G : h.Ns mainGlobals mg) (c : SaysD faK fnK K) : BI mg := bi_of X G fun i f e => c.fact i (f := f) (by
  rw [show faK = biFa ++ faD from rfl, List.getElem?_append_left (List.getElem?_eq_some_iff.mp e).1]
  exact e)
theorem heard_of (x : XF K) : HeardK K := by
  obtain ⟨h1, h2⟩ := ba x.he
  exact ⟨fun a ha b hb => of_decide_eq_true (List.all_eq_true.mp (List.all_eq_true.mp h1 a ha) b hb), fun a ha => of_decide_eq_true (List.all_eq_true.mp h2 a ha)⟩
theorem valB_ok {f : Str} {i : Int} (h : valB K f i = true) : ∃ u, ClX.CVal K (ga K "Box") (.type "type") f (.int i) u := by
  unfold valB at h
  split at h
  · rename_i j t e
    exact ⟨_, e, t, by rw [of_decide_eq_true h]⟩
  · cases h
theorem tup0B_ok {a : Addr} (h : tup0B K a = true) (H : Hp) : SqT K H a [] := by
  unfold tup0B at h
  split at h
  · rename_i c od its n sl e
    obtain ⟨h1, h2⟩ := ba h
    have h3 := List.isEmpty_iff.mp h2
    refine .inr ⟨_, its, n, e, ?_, rfl, ?_, ?_⟩
    · rw [of_decide_eq_true h1]
    · rw [← Array.length_toList, h3]
      exact Nat.zero_le _
    · rw [h3]
      exact .nil
  · cases h
theorem cread_box {C : Addr} (h : PySem.W.readsIn K C (.type "type") = true) : ClX.CRead K C (.type "type") := by
  refine ⟨h, ?_⟩
  unfold PySem.W.readsIn at h
  obtain ⟨h, _⟩ := ba h
  obtain ⟨h, _⟩ := ba h
  obtain ⟨h, h3⟩ := ba h
  obtain ⟨_, h2⟩ := ba h
  unfold PySem.W.specialIn
  rw [beq_iff_eq.mp h2, Option.bind_some]
  exact beq_iff_eq.mp h3
theorem boxC_of (X : K.In h) (G : h.Ns mainGlobals mg) (x : XF K) (c : SaysD faK fnK K) (st : fnAt K (sgK K) = dStep.val) (T : BI mg) (cs : Co P w K mg base CX0 2 "is_state" ["states", "value"] (spS K stateD)) (cn : Co P w K mg base CX0 1 "is_name" ["value"] (spP K nameD)) : BoxC P w K mg base (ga K "Box") := by
  obtain ⟨b1, b⟩ := ba x.bx
  obtain ⟨b2, b⟩ := ba b
  obtain ⟨b3, b⟩ := ba b
  obtain ⟨b4, b⟩ := ba b
  obtain ⟨b5, b6⟩ := ba b
  obtain ⟨fd, F⟩ := funD_at (d := dStep) st b3
  obtain ⟨w1, w2⟩ := He5.wrapB_ok b2
  have F2 : Fun K "is_step" "Box.is_step" s_Box_is_step (sgK K) fd := funD_fun F
  exact ⟨glo_ok X G (c.fact 48 (f := .glo "Box") rfl), ⟨.type "type", _, sgK K, fd, cread_box b1, ⟨w1, w2, (ba b3).1⟩, ok_is_step F2 T cs cn, F2.binds (ps := ["states", "value"]) (fun _ _ _ _ _ _ us hl => match us, hl with | [_, _], _ => rfl), valB_ok b4, valB_ok b5⟩,
    cls_ok (c.fact 49 (f := .cls "Box") rfl), noat_ok (c.fact 50 (f := .noat "Box" "_states") rfl), noat_ok (c.fact 51 (f := .noat "Box" "_starts") rfl), noat_ok (c.fact 52 (f := .noat "Box" "_steps") rfl)⟩
theorem kA_rel {vs zs : List V} {us ws : List Value} (r1 : Vals vs us) (r2 : Vals zs ws) : Vals (kA vs zs) (kA us ws) := by
  rcases r1 with _ | ⟨a, _ | ⟨_, _⟩⟩ <;> rcases r2 with _ | ⟨b, _ | ⟨c, _ | ⟨d, _ | ⟨_, _⟩⟩⟩⟩ <;> first | exact .nil | exact .cons a (.cons d (.cons b (.cons c .nil)))
theorem kB_rel {vs zs : List V} {us ws : List Value} (r1 : Vals vs us) (r2 : Vals zs ws) : Vals (kB vs zs) (kB us ws) := by
  rcases r1 with _ | ⟨a, _ | ⟨_, _⟩⟩ <;> rcases r2 with _ | ⟨b, _ | ⟨c, _ | ⟨d, _ | ⟨_, _⟩⟩⟩⟩ <;> first | exact .nil | exact .cons a (.cons d (.cons c (.cons b .nil)))
theorem kC_rel {vs zs : List V} {us ws : List Value} (r1 : Vals vs us) (r2 : Vals zs ws) : Vals (kC vs zs) (kC us ws) := by
  rcases r1 with _ | ⟨a, _ | ⟨_, _⟩⟩ <;> rcases r2 with _ | ⟨b, _ | ⟨c, _ | ⟨d, _ | ⟨_, _⟩⟩⟩⟩ <;> first | exact .nil | exact .cons a (.cons c (.cons d (.cons b .nil)))
theorem kD_rel {e : V} {d0 : Value} (r0 : Vals [e] [d0]) {vs : List V} {us : List Value} {zs : List V} {ws : List Value} (r1 : Vals vs us) (r2 : Vals zs ws) : Vals (kD e vs zs) (kD d0 us ws) := by
  rcases r1 with _ | ⟨a, _ | ⟨_, _⟩⟩ <;> rcases r2 with _ | ⟨b, _ | ⟨c, _ | ⟨_, _⟩⟩⟩ <;> first | exact .nil | exact .cons a (.cons c (.cons b r0))
theorem box_binds {f : Addr} {fd : FuncData} {e0 : Addr} (F : FunD K "__init__" "Box.__init__" (defArgs s_Box___init__) (defBody s_Box___init__) (defScope s_Box___init__) [V.ref e0] [] f fd) :
    ∃ d0 : Value, L2.Binds K fd psB [] ∧ Vals [V.ref e0] [d0] ∧ L2.Binds K fd psB [d0] ∧ KBn K fd psB 1 ["starts", "steps", "states"] kA kA ∧ KBn K fd psB 1 ["steps", "starts", "states"] kB kB ∧ KBn K fd psB 1 ["steps", "states", "starts"] kC kC ∧ KBn K fd psB 1 ["starts", "states"] (kD d0) (kD (V.ref e0)) := by
  obtain ⟨oc, od, dV, kV, doc, pm, an, cdv, ct, osl, rfl, lk, hcd, hD, _⟩ := F.ex
  rcases hD with ⟨e, _⟩ | ⟨_, T, o, its, m, rfl, lT, oT, rT⟩
  · cases e
  · match its, rT with
    | [d0], rT =>
      have key : ∀ (args : Args) (bs : List (Str × Value)), (∃ k, bindArgs (PySem.W.fnOf "__init__" "Box.__init__" (defArgs s_Box___init__) (defBody s_Box___init__) (defScope s_Box___init__) (.ref T) kV doc pm an cdv ct) args = seqItems? (.ref T) >>= k ∧ k (some [d0].toArray) = pure bs) →
          ∀ s : Shared, K.In s.heap → BindsTo s (PySem.W.fnOf "__init__" "Box.__init__" (defArgs s_Box___init__) (defBody s_Box___init__) (defScope s_Box___init__) (.ref T) kV doc pm an cdv ct) args bs := fun args bs h s X => by
        obtain ⟨k, e1, e2⟩ := h
        refine BindsTo.of_looks fun M => ?_
        rw [e1]
        exact looks_items X lT oT (.of_pure e2)
      refine ⟨d0, fun s us X hl => ?_, rT, fun s us X hl => ?_, ⟨fun s us ws X l1 l2 => ?_, kA_rel⟩, ⟨fun s us ws X l1 l2 => ?_, kB_rel⟩, ⟨fun s us ws X l1 l2 => ?_, kC_rel⟩, ⟨fun s us ws X l1 l2 => ?_, kD_rel rT⟩⟩
      · have hl : us.length = 4 := by
          rw [List.append_nil] at hl
          exact hl
        match us, hl with
        | [a, b, c, d], _ => exact key _ _ ⟨_, rfl, rfl⟩ s X
      · have hl : us.length = 3 := by
          rw [List.length_append] at hl
          exact Nat.succ.inj hl
        match us, hl with
        | [a, b, c], _ => exact key _ _ ⟨_, rfl, rfl⟩ s X
      · match us, ws, l1, l2 with
        | [a], [b, c, d], _, _ => exact key _ _ ⟨_, rfl, rfl⟩ s X
      · match us, ws, l1, l2 with
        | [a], [b, c, d], _, _ => exact key _ _ ⟨_, rfl, rfl⟩ s X
      · match us, ws, l1, l2 with
        | [a], [b, c, d], _, _ => exact key _ _ ⟨_, rfl, rfl⟩ s X
      · match us, ws, l1, l2 with
        | [a], [b, c], _, _ => exact key _ _ ⟨_, rfl, rfl⟩ s X
theorem boxM_of (X : K.In h) (G : h.Ns mainGlobals mg) (x : XF K) (c : SaysD faK fnK K) (T : BI mg) (ES : ErrSet P w K mg base) (CB : BoxC P w K mg base (ga K "Box"))
    (p2 : Co P w K mg base (L2.CX P w) 5 "check_parts" ["states", "starts", "steps"] (spParts K)) (p3 : Co P w K mg base CX0 1 "check_limits" ["states", "steps"] (spLimits K)) : BoxM P w K mg base (e0K K) := by
  obtain ⟨_, b⟩ := ba x.bx
  obtain ⟨_, b⟩ := ba b
  obtain ⟨_, b⟩ := ba b
  obtain ⟨_, b⟩ := ba b
  obtain ⟨_, b6⟩ := ba b
  obtain ⟨fd, F⟩ := c.def_ 28 (d := dBox) rfl
  obtain ⟨d0, q1, q2, q3, q4, q5, q6, q7⟩ := box_binds (e0 := e0K K) F
  exact ⟨glo_ok X G (c.fact 48 (f := .glo "Box") rfl), tup0B_ok b6, _, fd, d0, mkr_ok (c.fact 53 (f := .mkr "Box") rfl), ok_init F T ES CB p2 p3, q1, q2, q3, q4, q5, q6, q7⟩
/-- the tables' names -/
def ttK (K : PySem.W.Frag) : List (Addr × Str) := [((cT K ("_law_let_right", none)).2, qLet), ((cT K ("_law_right", none)).2, qRight)]
theorem law_fn (X : K.In base) (G : base.Ns mainGlobals mg) (x : XF K) (c : SaysD faK fnK K) (st : fnAt K (sgK K) = dStep.val) (ne : (cT K ("_law_let_right", none)).2 ≠ (cT K ("_law_right", none)).2) (c1 : codeV K "_law_let_right" = .ref (cT K ("_law_let_right", none)).1) (c2 : codeV K "_law_right" = .ref (cT K ("_law_right", none)).1)
    (tb : ∀ p ∈ tfK.map (cT K), LamX.TabB base mg p.1 p.2) {fd : FuncData} (F : Fun K "law" "law" s_law (ga K "law") fd) : FnG P w K mg base CX0 12 (ga K "law") fd ["_law_script"] (spLaw K (ttK K)) := by
  have T := bi_K X G c
  have ES : ErrSet P w K mg base := es_of X G x c
  have XG := xgB_ok x.xg
  have HK := heard_of x
  have p1 := co_is_integer (P := P) (w := w) (base := base) (at_is_integer X G c) T
  have p2 := co_is_list (P := P) (w := w) (base := base) (at_is_list X G c) T
  have p3 := co_is_name (P := P) (w := w) (base := base) (at_is_name X G c) T
  have p4 := co_is_state (at_is_state X G c) p1
  have p5 := co_first_wrong (P := P) (w := w) (base := base) (at_first_wrong X G c) T
  have CB := boxC_of X G x c st T p4 p3
  have p6 := co_check_starts (at_check_starts X G c) T ES p2 p4 p5
  have p7 := co_check_steps (at_check_steps X G c) T ES CB p2 p5
  have p8 := co_check_parts (at_check_parts X G c) T ES p1 p6 p7
  have p9 := co_check_limits (at_check_limits X G c) T CB
  have BM := boxM_of X G x c T ES CB p8 p9
  have draw := cd_draw (P := P) (w := w) (base := base) (at__law_draw X G c) T
  have pick := cd_pick (at__law_pick X G c) T draw
  have pot := cd_pot (P := P) (w := w) (base := base) (at__law_pot X G c) T
  have mixed := cd_mixed (at__law_mixed X G c) T draw
  have menu := cd_menu (at__law_menu X G c) T draw
  have deal := cd_deal (at__law_deal X G c) T draw pick menu
  have om := cd_odd_many (at__law_odd_many X G c) pick
  have of := cd_odd_firsts (at__law_odd_firsts X G c) T draw pick mixed
  have oo := cd_odd_moves (at__law_odd_moves X G c) T draw pick mixed
  have lr := cd_let_right (TT := ttK K) (at__law_let_right X G c) (glo_ok X G (c.fact 45 (f := .glo "_law_let_right") rfl)) c1 (tb (cT K ("_law_let_right", none)) (List.mem_cons_self ..)) (List.mem_cons_self ..) (fun q hq e => by
      rcases List.mem_cons.mp hq with rfl | hq
      · rfl
      · cases List.mem_singleton.mp hq
        exact absurd e.symm ne) T ES XG HK (at__law_heard X G c) BM mixed
  have right := cd_right (TT := ttK K) (at__law_right X G c) (glo_ok X G (c.fact 46 (f := .glo "_law_right") rfl)) c2 (tb (cT K ("_law_right", none)) (List.mem_cons_of_mem _ (List.mem_cons_self ..))) (List.mem_cons_of_mem _ (List.mem_cons_self ..)) (fun q hq e => by
      rcases List.mem_cons.mp hq with rfl | hq
      · exact absurd e ne
      · cases List.mem_singleton.mp hq
        rfl) T ES XG HK (at__law_heard X G c) BM deal om of oo lr
  exact fn_law F T right pot
theorem facts (s : SaysK h K) : ∃ fd : FuncData, (∀ (s : Shared) (v : Value), BindsTo s fd ⟨[v], []⟩ [("_law_script", v)]) ∧
    ∀ base : Heap, K.In base → base.Ns mainGlobals mg → (∀ p ∈ tfK.map (cT K), LamX.TabB base mg p.1 p.2) → FnG P w K mg base CX0 12 (ga K "law") fd ["_law_script"] (spLaw K (ttK K)) := by
  obtain ⟨fd, F⟩ := s.d.def_ 21 (d := dD "law" s_law) rfl
  have b := FunD.bindsA (ps := ["_law_script"]) F fun _ _ _ _ _ _ us hl => match us, hl with | [_], _ => rfl
  exact ⟨fd, fun s v => b s [v] rfl, fun base hB gB tb => law_fn hB gB (xf_of s.xb) s.d s.st s.ne s.c1 s.c2 tb (funD_fun F)⟩
end
end K11
/-! ## KFIN11 -/
set_option Elab.async false
set_option linter.all false
set_option maxRecDepth 100000
set_option maxHeartbeats 0
open PySem PySem.W PySem.Calls PyProof.Rows
theorem PySem.Challenge.cw_aheadbehind_k11_boxes_refused_holds : PySem.Challenge.rw_aheadbehind_k11_boxes_refused.Holds := by
  w_on; o_law
  refine HandSHeadRun.head_any (r := K11.R) (q := K11.qv) (H := K11.hk) (ob := K11.ob) (M := 20000) (loose := K11.names) (d := HandSHeadRun.topDef K11.R.prog 38) (kwd := []) K11.ob_eq
    (by kernel_rfl) (fun s => by kernel_rfl) K11.run (by kernel_rfl) (by kernel_rfl) (by kernel_rfl) (by rfl) (by first | assumption | decide +kernel) (by decide +kernel) ⟨rfl, rfl, rfl, rfl, rfl, by decide +kernel⟩ ?hw ?hc
  case hw => w_witness2
  case hc =>
    refine Vx.walkT (l := PySem.Challenge.rw_aheadbehind_k11_boxes_refused) (n := 63) (k := 12) (x := "_law_script") rfl (by decide) (by kernel_rfl) ⟨rfl, by decide, by decide⟩ ?F
    intro w mg fa h Y G hmg0
    obtain ⟨K, KX, s⟩ := Y
    have hmg : mg ("law" : PySem.Str) = some (.ref fa) := by
      have e : (HandSHeadRun.topDef K11.R.prog 38).name = ("law" : PySem.Str) := by kernel_rfl
      rw [← e]
      exact hmg0
    cases hmg.symm.trans (He.glo_ok KX G (s.d.fact 47 (f := .glo "law") rfl))
    obtain ⟨fd, hb, hF⟩ := K11.facts (P := (PySem.Challenge.rw_aheadbehind_k11_boxes_refused).prog) (w := w) (mg := mg) s
    refine ⟨K, fd, K11.spLaw K (K11.ttK K), K11.tfK.map (He.cT K), KX, fun p hp => ?_, fun p hp => ?_, fun p hp => ?_, hb, fun H a zs hl hT hS => ⟨a, zs, rfl, hS, Nat.le_trans hl (by decide), fun q hq => ?_, fun _ => rfl⟩, hF⟩
    · obtain ⟨q, hq, rfl⟩ := List.mem_map.mp hp
      exact s.empty q hq
    · obtain ⟨q, hq, rfl⟩ := List.mem_map.mp hp
      exact s.hd q hq
    · obtain ⟨q, hq, rfl⟩ := List.mem_map.mp hp
      exact s.out q hq
    · rcases List.mem_cons.mp hq with rfl | hq
      · exact LamX.TabS.nil (hT _ (List.mem_cons_self ..))
      · cases List.mem_singleton.mp hq
        exact LamX.TabS.nil (hT _ (List.mem_cons_of_mem _ (List.mem_cons_self ..)))
