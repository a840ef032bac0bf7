import PyProof.Rows.All
import Wide.All
import OpenK.AllK
import Wide.FinOn
import PySem.Challenge.RW_aheadbehind_k10_errors_and_basics
import HandS.ForMost
import HandS.RaiseMore
import HandS.Exc
import HandS.ExcInit
import HandS.ExcIs
import HandS.ExcField
import HandS.IsInst
import KE.KExcInit
import HandS.ExcValue
import HandS.Defaults
import HandS.Evl
import HandS.HeadHook1
import HandS.HeadHook2
import HandS.Head0
import HandS.Head1
import HandS.Head2
import HandS.HeadEnd
import HandS.WideBits
import HandS.Wide
import HandS.StrMore
import HandS.Style
import HandS.Walk
import HandS.TupLe
import KE.KDictDisplayH
import HandS.Dict
import PyProof.StrOps2
import PyProof.Rows.ReprOcc
import KE.KxText
import HandS.Text
import PyProof.ReprLen
import HandS.Ends
import KE.KStateDown
/-! ## G0 -/
set_option Elab.async false
set_option linter.all false
set_option maxRecDepth 100000
set_option maxHeartbeats 4000000
namespace Vx
open PySem PySem.Spec PyProof.Rows L2

/-- no repr is open around -/
abbrev Gd (A : Around) : Prop := A.guards = some []

/-- a def's promise, kept wherever no repr is open around -/
structure FnG (P : Program) (w : World) (K : PySem.W.Frag) (mg : Str → Option Value)
    (base : Heap) (CX : CXT) (k : Nat) (f : Addr) (fd : FuncData) (ps : List Str) (sp : Sp) : Prop where
  ln : ∀ vs H Q E, sp vs H Q E → vs.length = ps.length
  go : ∀ (A : Around) (outer : List Env) (s : Shared) (H : Hp) (args : Args)
    (us : List Value) (vs : List V) (Q : VK) (E : XK), Room k A → Gd A →
    Env0 P w K mg base A outer s H → BindsTo s fd args (ps.zip us) → Vals vs us → sp vs H Q E →
    codeAny (model P w) A (.call (.ref f) args) (CR CX outer P w H s Q E) s

section
variable {P : Program} {w : World} {K : PySem.W.Frag} {mg : Str → Option Value}
  {base : Heap} {CX : CXT} {k : Nat} {f : Addr} {fd : FuncData} {ps : List Str} {sp : Sp}
theorem FnG.of (F : FnOk P w K mg base CX k f fd ps sp) : FnG P w K mg base CX k f fd ps sp :=
  ⟨F.len, fun A o s H a us vs Q E r _ => F.run A o s H a us vs Q E r⟩
theorem FnG.up {j : Nat} (F : FnG P w K mg base CX j f fd ps sp) (h : j ≤ k) : FnG P w K mg base CX k f fd ps sp :=
  ⟨F.ln, fun A o s H a us vs Q E r => F.go A o s H a us vs Q E (r.mono h)⟩

/-- a def by its body, where no repr is open -/
theorem okG {x qual : Str} {st : Stmt} {N : List Str} (F : Fun K x qual st f fd) (S : FnScope N ps (defScope st))
    (len : ∀ vs H Q E, sp vs H Q E → vs.length = ps.length)
    (hbody : ∀ (cdv : Value) (A : Around) (outer : List Env) (s : Shared) (H : Hp) (vs : List V) (Q : VK) (E : XK),
      Room k (A.deeper (envOfC qual (defScope st) s.heap.objs.size f cdv)) →
      Gd (A.deeper (envOfC qual (defScope st) s.heap.objs.size f cdv)) → sp vs H Q E →
      ∃ t, PSs (cxOf CX P w K mg base N qual (defScope st) f cdv A outer s H E) (defBody st) t ∧
        t { nx := fun _ H' => Q .non H', rt := Q } (start N vs) H) :
    FnG P w K mg base CX (k + 1) f fd ps sp := by
  obtain ⟨oc, od, kV, doc, pm, an, cdv, ct, osl, rfl, lk, hcd⟩ := F.ex
  refine ⟨len, fun A outer s H args us vs Q E hr hG e0 hb r hsp => ?_⟩
  have hL := len vs H Q E hsp
  have kx : K.In s.heap := e0.mod.kin.keeps (fun b o z => (e0.bs b o z).1)
  have nl : s.heap.NoLimit := e0.mod.nolimit.keeps (fun b o z => (e0.bs b o z).1)
  have hk2 : ∀ y ∈ ps.zip us, (defScope st).names.lookup y.1 = some .local ∨
      ((defScope st).names.lookup y.1 = some .cell ∧
        ((cellsFrom (s.heap.objs.size + 1) (defScope st).names []).lookup y.1).isSome = true) := by
    rintro ⟨n, v⟩ hy
    rcases S.par n (List.of_mem_zip hy).1 with z | z
    · exact Or.inl z
    · exact Or.inr ⟨z, PySem.W.cellsFrom_some _ _ _ (Or.inl z)⟩
  refine codeAny_call_function hr.depth (kx _ _ lk) rfl S.co S.gen rfl
    (PySem.W.codeRec_of kx hcd) (hb _ _ _ _ ?_)
  refine wpAny_newFunctionEnv_cells S.kind hk2 (fun env he s1 x1 => ?_)
  subst he
  refine ⟨nl.keeps x1.toInCall.keep, codeAny_func ?_⟩
  obtain ⟨t, ht, hq⟩ := hbody cdv A outer s H vs Q E (hr.deeper _) hG hsp
  have J0 : Inv (cxOf CX P w K mg base N qual (defScope st) f cdv A outer s H E) [] (start N vs) H s1 :=
    inv_start S hr.hd e0 hL r x1
  refine wpAny_mono (ht.run [] s1 (start N vs) H _ J0 hq) (fun fl s2 z => ?_) (fun e s2 z => z)
  cases fl with
  | ret u =>
    obtain ⟨v, σ1, H1, J, rv, q⟩ := z
    exact ⟨v, H1, J.os, J.bare, J.base, J.hok, rv, q⟩
  | next =>
    obtain ⟨σ1, H1, J, q⟩ := z
    exact ⟨V.non, H1, J.os, J.bare, J.base, J.hok, rfl, q⟩
  | brk =>
    obtain ⟨_, _, _, q⟩ := z
    exact q.elim
  | cont =>
    obtain ⟨_, _, _, q⟩ := z
    exact q.elim
end

section
variable {X : Cx} {CX : CXT} {k : Nat} {f : Addr} {fd : FuncData} {ps : List Str} {sp : Sp} {dvs : List V}
  {ds : List Value} {E : XK} {x : Str} {p pos : Pos} {e : Expr} {es : List Expr} {t : TA}
theorem goG {pins : List (Addr × Obj)} {σ : L2.St} {H : Hp} {s : Shared} {Q : VK} {us : List Value} {vs : List V}
    (F : FnG X.prog X.w X.K X.mg X.base CX k f fd ps sp) (hr : Room k X.A) (hG : Gd X.A)
    (hb : Binds X.K fd ps ds) (hd : Vals dvs ds) (hx : Passes CX X E) (I : Inv X pins σ H s)
    (r : Vals vs us) (h : sp (vs ++ dvs) H Q E) :
    wpAny (model X.prog X.w) X.A (call (.ref f) us) (EP X pins σ Q) X.xe s := by
  have r3 := r.append hd
  have hL : (us ++ ds).length = ps.length := r3.length.symm.trans (F.ln _ _ _ _ h)
  refine wpAny_call (codeAny_mono (F.go X.A X.stack s H ⟨us, []⟩ (us ++ ds) (vs ++ dvs) Q E hr hG I.env0
    (hb s us I.kIn hL) r3 h) (fun r s' z => ?_))
  cases r with
  | error er => exact hx pins σ H s er s' I z
  | ok fl =>
    cases fl with
    | ret u => exact I.after z
    | next => exact z.elim
    | brk => exact z.elim
    | cont => exact z.elim
/-- f(e, ..) -/
theorem pe_callG (F : FnG X.prog X.w X.K X.mg X.base CX k f fd ps sp) (hr : Room k X.A) (hG : Gd X.A)
    (hg : Gl X x) (hm : X.mg x = some (.ref f)) (hk : PySem.W.keepIn X.K (.ref f) = true)
    (hb : Binds X.K fd ps ds) (hd : Vals dvs ds) (hx : Passes CX X E) (ha : PA X (e :: es) t)
    (hdb : (x == ("__debug__" : Str)) = false := by decide)
    (he : starEach (e :: es) X.env = (false, eval e X.env) :: starEach es X.env := by rfl)
    (hpl : (backTo pos (starEach es X.env)).any (·.1) = false := by rfl) :
    PE X (.Call (.Name x p) (e :: es) [] pos) (tCall sp dvs E t) := by
  refine ⟨fun pins s σ H Q I h => wpAny_Call_Name_kw (ld_glob I hg hm ?_ hdb)⟩
  exact PySem.W.callWith_K (h₀ := X.base) I.ok.mod.kin hk
    (thn (ha.run pos pins s σ H _ I h) fun us s1 ⟨vs, H1, I1, r, q⟩ =>
      ⟨I1.kIn, goG F hr hG hb hd hx I1 r q⟩) he hpl
end

/-- repr of data: None, bools, ints, texts, lists, tuples, dicts -/
inductive Dd (K : PySem.W.Frag) (H : Hp) : V → PyData → Prop
  | d0 {v d} : Dp K H v d → Dd K H v d
end Vx

/-! ## G1 -/
set_option Elab.async false
set_option linter.all false
set_option maxRecDepth 100000
set_option maxHeartbeats 4000000
namespace Vx
open PySem PySem.Spec PyProof.Rows L2

def keyD : Key → PyData
  | .inl i => .int i
  | .inr x => .str x
def keyT (k : List Key) : PyData := .tuple (k.map keyD)

mutual
/-- v reads as the data d -/
inductive Da (K : PySem.W.Frag) (H : Hp) : V → PyData → Prop
  | non : Da K H .non .none
  | bl (b : Bool) : Da K H (.bl b) (.bool b)
  | int (i : Int) : Da K H (.int i) (.int i)
  | str (x : Str) : Da K H (.str x) (.str x)
  | lst {a : Addr} {xs : List V} {ds : List PyData} : SqL K H a xs → Das K H xs ds → Da K H (.ref a) (.list ds)
  | tup {a : Addr} {xs : List V} {ds : List PyData} : SqT K H a xs → Das K H xs ds → Da K H (.ref a) (.tuple ds)
  | dK {a : Addr} {kvs : List (Key × V)} {ds : List PyData} : H a = some (.dK kvs) →
      Das K H (kvs.map Prod.snd) ds → Da K H (.ref a) (.dict ((kvs.map fun p => keyD p.1).zip ds))
  | dT {a : Addr} {kvs : List (List Key × V)} {ds : List PyData} : H a = some (.dT kvs) →
      Das K H (kvs.map Prod.snd) ds → Da K H (.ref a) (.dict ((kvs.map fun p => keyT p.1).zip ds))
inductive Das (K : PySem.W.Frag) (H : Hp) : List V → List PyData → Prop
  | nil : Das K H [] []
  | cons {v : V} {vs : List V} {d : PyData} {ds : List PyData} : Da K H v d → Das K H vs ds → Das K H (v :: vs) (d :: ds)
end

section
variable {K : PySem.W.Frag} {H H' : Hp}
theorem Das.len : ∀ {vs : List V} {ds : List PyData}, Das K H vs ds → vs.length = ds.length
  | _, _, .nil => rfl
  | _, _, .cons _ h => by rw [List.length_cons, List.length_cons, Das.len h]
theorem Das.app : ∀ {vs ws : List V} {ds es : List PyData}, Das K H vs ds → Das K H ws es → Das K H (vs ++ ws) (ds ++ es)
  | _, _, _, _, .nil, h => h
  | _, _, _, _, .cons a b, h => .cons a (Das.app b h)
theorem Das.get : ∀ {vs : List V} {ds : List PyData} {i : Nat} {v : V}, Das K H vs ds → vs[i]? = some v → ∃ d, ds[i]? = some d ∧ Da K H v d
  | _, _, _, _, .nil, e => by simp at e
  | _, _, 0, _, .cons (d := d) a b, e => by
    simp at e
    subst e
    exact ⟨d, rfl, a⟩
  | _, _, i + 1, _, .cons a b, e => by
    obtain ⟨d, h1, h2⟩ := Das.get (i := i) b (by simpa using e)
    exact ⟨d, by simpa using h1, h2⟩
theorem Das.rep {v : V} {d : PyData} (h : Da K H v d) : ∀ n : Nat, Das K H (List.replicate n v) (List.replicate n d)
  | 0 => .nil
  | n + 1 => .cons h (Das.rep h n)
theorem Das.take : ∀ {vs : List V} {ds : List PyData} (n : Nat), Das K H vs ds → Das K H (vs.take n) (ds.take n)
  | _, _, 0, _ => .nil
  | _, _, _ + 1, .nil => .nil
  | _, _, n + 1, .cons a b => .cons a (Das.take n b)
theorem Das.drop : ∀ {vs : List V} {ds : List PyData} (n : Nat), Das K H vs ds → Das K H (vs.drop n) (ds.drop n)
  | _, _, 0, h => h
  | _, _, _ + 1, .nil => .nil
  | _, _, n + 1, .cons a b => Das.drop n b
theorem seqT {a : Addr} {xs : List V} (e : Same H H') (h : SqT K H a xs) : SqT K H' a xs := by
  rcases h with (h | ⟨o, h⟩) | h
  · exact .inl (.inl (e _ _ h))
  · exact .inl (.inr ⟨o, e _ _ h⟩)
  · exact .inr h
mutual
theorem Da.mono (e : Same H H') : ∀ {v : V} {d : PyData}, Da K H v d → Da K H' v d
  | _, _, .non => .non
  | _, _, .bl b => .bl b
  | _, _, .int i => .int i
  | _, _, .str x => .str x
  | _, _, .lst h g => .lst (e.seq h) (Das.mono e g)
  | _, _, .tup h g => .tup (seqT e h) (Das.mono e g)
  | _, _, .dK h g => .dK (e _ _ h) (Das.mono e g)
  | _, _, .dT h g => .dT (e _ _ h) (Das.mono e g)
theorem Das.mono (e : Same H H') : ∀ {vs : List V} {ds : List PyData}, Das K H vs ds → Das K H' vs ds
  | _, _, .nil => .nil
  | _, _, .cons a b => .cons (Da.mono e a) (Das.mono e b)
end
end

/-! ### reading in the machine's heap -/
section
variable {X : Cx} {pins : List (Addr × Obj)} {σ : L2.St} {H : Hp} {s : Shared}
theorem key_reads {h : Heap} : ∀ {k : Key} {v : Value}, keyIs k v = true → ∃ as, Reads h v (keyD k) as := by
  intro k v e
  rcases keyIs_shape e with ⟨i, t, rfl, rfl⟩ | ⟨x, t, rfl, rfl⟩
  · exact ⟨_, .int i t⟩
  · exact ⟨_, .str x t⟩
theorem kV_reads {h : Heap} : ∀ {ks : List Key} {us : List Value}, Vals (ks.map kV) us → ∃ as, ReadsAll h us (ks.map keyD) as
  | [], _, .nil => ⟨_, .nil⟩
  | .inl i :: ks, _, .cons r t => by
    obtain ⟨tk, rfl⟩ := r
    obtain ⟨as, q⟩ := kV_reads t
    exact ⟨_, .cons (.int i tk) q⟩
  | .inr x :: ks, _, .cons r t => by
    obtain ⟨tk, rfl⟩ := r
    obtain ⟨as, q⟩ := kV_reads t
    exact ⟨_, .cons (.str x tk) q⟩
/-- the entries of a dict with int and text keys -/
theorem pairs_keys {h : Heap} : ∀ {es : List DictEntry} {vs : List (Key × Value)}, Pairs (mixKind X.prog X.w) es vs →
    ∃ as, ReadsAll h (es.map (·.key)) (vs.map fun p => keyD p.1) as
  | _, _, .nil => ⟨_, .nil⟩
  | _, _, .cons hk _ r => by
    obtain ⟨as, q⟩ := key_reads (h := h) hk
    obtain ⟨bs, q2⟩ := pairs_keys r
    exact ⟨_, .cons q q2⟩
theorem pairs_vals : ∀ {es : List DictEntry} {vs : List (Key × Value)}, Pairs (mixKind X.prog X.w) es vs → es.map (·.val) = vs.map Prod.snd
  | _, _, .nil => rfl
  | _, _, .cons _ hv r => by rw [List.map_cons, List.map_cons, hv, pairs_vals r]
theorem kv_vals {κ : Type} : ∀ {kvs : List (κ × V)} {vs : List (κ × Value)}, KV kvs vs → Vals (kvs.map Prod.snd) (vs.map Prod.snd)
  | _, _, .nil => .nil
  | _, _, .cons r t => .cons r.2 (kv_vals t)
theorem kv_keys {κ : Type} : ∀ {kvs : List (κ × V)} {vs : List (κ × Value)}, KV kvs vs → kvs.map Prod.fst = vs.map Prod.fst
  | _, _, .nil => rfl
  | _, _, .cons r t => by rw [List.map_cons, List.map_cons, r.1, kv_keys t]
theorem dk_at (I : Inv X pins σ H s) {a : Addr} {kvs : List (Key × V)} (h : H a = some (.dK kvs)) :
    (a == sysModules) = false ∧ ∃ (o : Obj) (es : Array DictEntry) (n : Nat), s.heap.get? a = some o ∧ o.cls = .type "dict" ∧ o.data = .dict es n ∧
      (∃ as, ReadsAll s.heap (es.toList.map (·.key)) (kvs.map fun p => keyD p.1) as) ∧ Vals (kvs.map Prod.snd) (es.toList.map (·.val)) := by
  obtain ⟨_, hs, vs, kv, o, es, ep, ho, hx, hd, _, hp, _⟩ := (show ObjOk X.prog X.w H s.heap a (.dK kvs) from I.hok a _ h)
  refine ⟨hs, o, es, ep, ho, hx.1, hd, ?_, ?_⟩
  · obtain ⟨as, q⟩ := pairs_keys (X := X) (h := s.heap) hp
    refine ⟨as, ?_⟩
    have e : (kvs.map fun p => keyD p.1) = vs.map fun p => keyD p.1 := by
      have e1 := congrArg (List.map keyD) (kv_keys kv)
      rw [List.map_map, List.map_map] at e1
      exact e1
    rw [e]
    exact q
  · rw [pairs_vals hp]
    exact kv_vals kv
theorem dt_keys (I : Inv X pins σ H s) : ∀ {kvs : List (List Key × V)} {xs : List (List Key × Addr × Value)},
    Paired (fun (p : List Key × V) (q : List Key × Addr × Value) => p.1 = q.1 ∧ H q.2.1 = some (.tup (p.1.map kV)) ∧ RelV p.2 q.2.2) kvs xs →
    ∃ as, ReadsAll s.heap (xs.map fun x => Value.ref x.2.1) (kvs.map fun p => keyT p.1) as
  | _, _, .nil => ⟨_, .nil⟩
  | _, _, .cons r t => by
    obtain ⟨as, q⟩ := dt_keys I t
    obtain ⟨its, rv, ⟨o, ho, hc, n, hd⟩, _⟩ := I.tuple (SqT.of r.2.1)
    obtain ⟨bs, q2⟩ := kV_reads (h := s.heap) rv
    exact ⟨_, .cons (.tuple ho hc hd q2) q⟩
theorem dt_vals : ∀ {kvs : List (List Key × V)} {xs : List (List Key × Addr × Value)},
    Paired (fun (p : List Key × V) (q : List Key × Addr × Value) => p.1 = q.1 ∧ H q.2.1 = some (.tup (p.1.map kV)) ∧ RelV p.2 q.2.2) kvs xs →
    Vals (kvs.map Prod.snd) (xs.map fun x => x.2.2)
  | _, _, .nil => .nil
  | _, _, .cons r t => .cons r.2.2 (dt_vals t)
theorem dt_at (I : Inv X pins σ H s) {a : Addr} {kvs : List (List Key × V)} (h : H a = some (.dT kvs)) :
    (a == sysModules) = false ∧ ∃ (o : Obj) (es : Array DictEntry) (n : Nat), s.heap.get? a = some o ∧ o.cls = .type "dict" ∧ o.data = .dict es n ∧
      (∃ as, ReadsAll s.heap (es.toList.map (·.key)) (kvs.map fun p => keyT p.1) as) ∧ Vals (kvs.map Prod.snd) (es.toList.map (·.val)) := by
  obtain ⟨_, hs, xs, pr, o, es, ep, ho, hx, hd, he, _⟩ := (show ObjOk X.prog X.w H s.heap a (.dT kvs) from I.hok a _ h)
  refine ⟨hs, o, es, ep, ho, hx.1, hd, ?_, ?_⟩
  · obtain ⟨as, q⟩ := dt_keys I pr
    refine ⟨as, ?_⟩
    rw [he, List.map_map]
    exact q
  · rw [he, List.map_map]
    exact dt_vals pr
mutual
theorem Da.reads (I : Inv X pins σ H s) : ∀ {v : V} {d : PyData} {u : Value}, Da X.K H v d → RelV v u → ∃ as, Reads s.heap u d as
  | _, _, _, .non, r => by
    cases r
    exact ⟨_, .none⟩
  | _, _, _, .bl b, r => by
    cases r
    exact ⟨_, .bool b⟩
  | _, _, _, .int i, r => by
    obtain ⟨t, rfl⟩ := r
    exact ⟨_, .int i t⟩
  | _, _, _, .str x, r => by
    obtain ⟨t, rfl⟩ := r
    exact ⟨_, .str x t⟩
  | _, _, _, .lst h g, r => by
    cases r
    obtain ⟨its, rv, ⟨o, n, ho, hc, _, hd⟩, _⟩ := I.list h
    obtain ⟨as, q⟩ := Das.reads I g rv
    exact ⟨_, .list ho hc hd q⟩
  | _, _, _, .tup h g, r => by
    cases r
    obtain ⟨its, rv, ⟨o, ho, hc, n, hd⟩, _⟩ := I.tuple h
    obtain ⟨as, q⟩ := Das.reads I g rv
    exact ⟨_, .tuple ho hc hd q⟩
  | _, _, _, .dK (kvs := kvs) (ds := ds) h g, r => by
    cases r
    obtain ⟨_, o, es, n, ho, hc, hd, ⟨as, qk⟩, rv⟩ := dk_at I h
    obtain ⟨bs, q⟩ := Das.reads I g rv
    have hl : (kvs.map fun p => keyD p.1).length = ds.length := by rw [List.length_map, ← g.len, List.length_map]
    exact ⟨_, .dict ho hc hd (by rw [List.map_fst_zip (Nat.le_of_eq hl)]; exact qk) (by rw [List.map_snd_zip (Nat.le_of_eq hl.symm)]; exact q)⟩
  | _, _, _, .dT (kvs := kvs) (ds := ds) h g, r => by
    cases r
    obtain ⟨_, o, es, n, ho, hc, hd, ⟨as, qk⟩, rv⟩ := dt_at I h
    obtain ⟨bs, q⟩ := Das.reads I g rv
    have hl : (kvs.map fun p => keyT p.1).length = ds.length := by rw [List.length_map, ← g.len, List.length_map]
    exact ⟨_, .dict ho hc hd (by rw [List.map_fst_zip (Nat.le_of_eq hl)]; exact qk) (by rw [List.map_snd_zip (Nat.le_of_eq hl.symm)]; exact q)⟩
theorem Das.reads (I : Inv X pins σ H s) : ∀ {vs : List V} {ds : List PyData} {us : List Value}, Das X.K H vs ds → Vals vs us → ∃ as, ReadsAll s.heap us ds as
  | _, _, _, .nil, r => by
    cases r
    exact ⟨_, .nil⟩
  | _, _, _, .cons a b, r => by
    cases r with
    | cons r1 r2 =>
      obtain ⟨as, q1⟩ := Da.reads I a r1
      obtain ⟨bs, q2⟩ := Das.reads I b r2
      exact ⟨_, .cons q1 q2⟩
end
end
end Vx

/-! ## G2 -/
set_option Elab.async false
set_option linter.all false
set_option maxRecDepth 100000
set_option maxHeartbeats 4000000
namespace Vx
open PySem PySem.Spec PyProof.Rows L2

section
variable {X : Cx} {pins : List (Addr × Obj)} {σ : L2.St} {H : Hp} {s : Shared}
/-- keys have no dict in them -/
theorem keyD_nd (k : Key) : (keyD k).hasDict = false := by cases k <;> rfl
theorem keysD_nd : ∀ ks : List Key, PyData.hasDictAll (ks.map keyD) = false
  | [] => rfl
  | k :: ks => by
    show ((keyD k).hasDict || PyData.hasDictAll (ks.map keyD)) = false
    rw [keyD_nd, keysD_nd ks]
    rfl
theorem allK_nd {α : Type} (f : α → PyData) (hf : ∀ a, (f a).hasDict = false) : ∀ l : List α, PyData.hasDictAll (l.map f) = false
  | [] => rfl
  | a :: l => by
    show ((f a).hasDict || PyData.hasDictAll (l.map f)) = false
    rw [hf, allK_nd f hf l]
    rfl
theorem keyT_nd (k : List Key) : (keyT k).hasDict = false := keysD_nd k

/-- a dict whose keys and values are shown -/
theorem Da.rep_dict {prog : Program} {w : World} {h : Heap} {a : Addr} {o : Obj} {es : Array DictEntry} {n : Nat} {kvs : List (PyData × PyData)} {ks ds : List PyData} {as as1 : List Addr}
    (rd : Reads h (.ref a) (.dict kvs) as) (hsys : (a == sysModules) = false) (ho : h.get? a = some o) (hc : o.cls = .type "dict") (hd : o.data = .dict es n)
    (qk : ReadsAll h (es.toList.map (·.key)) ks as1) (hnd : PyData.hasDictAll ks = false) (e1 : kvs.map (·.1) = ks) (e2 : kvs.map (·.2) = ds)
    (hs : (PyData.dict kvs).showable = true) (hz : (PyData.dict kvs).shown.length ≤ sizeLine)
    (hv : PyData.showableAll ds = true → (∀ t ∈ PyData.shownAll ds, t.length ≤ sizeLine) →
      ∃ bs, ReadAtMost h (PyData.depthAll ds) bs ∧ ReprAllK prog w bs h (PyData.depthAll ds) (es.toList.map (·.val)) (PyData.shownAll ds)) :
    ∃ bs, ReadAtMost h (PyData.dict kvs).depth bs ∧ ReprK prog w bs h (PyData.dict kvs).depth (.ref a) (PyData.dict kvs).shown := by
  subst e1 e2
  have hz' : (dictText (PyData.shownKv kvs)).length ≤ sizeLine := by simpa only [PyData.shown] using hz
  obtain ⟨hs1, hs2⟩ := PyData.showableKv_split kvs (by simpa [PyData.showable] using hs)
  obtain ⟨b1, hb1, k1⟩ := ReprAllK.of_readsAll (prog := prog) (w := w) qk hs1 (fun z => by rw [hnd] at z; cases z)
    fun t ht => by
      obtain ⟨p, hp, hl⟩ := PyData.shownKv_key_le kvs t ht
      exact Nat.le_trans hl (Nat.le_trans (dictText_mem_le hp) hz')
  obtain ⟨b2, hb2, k2⟩ := hv hs2 fun t ht => by
    obtain ⟨p, hp, hl⟩ := PyData.shownKv_val_le kvs t ht
    exact Nat.le_trans hl (Nat.le_trans (dictText_mem_le hp) hz')
  have hb := (hb1.mono (PyData.depthAll_keys_le kvs)).append (hb2.mono (PyData.depthAll_vals_le kvs))
  have hna : a ∉ b1 ++ b2 := not_mem_of_deeper rd (by simp only [PyData.depth]; omega) hb
  refine ⟨a :: (b1 ++ b2), ReadAtMost.cons rd (by simp only [PyData.depth]; omega) hb, ?_⟩
  simp only [PyData.depth, PyData.shown, PyData.shownKv_eq]
  exact ReprK.dict ho hc hd hsys hna (ReprEntriesK.of_two es.toList _ _
    (k1.more_le (fun b z => List.mem_append_left _ z) (PyData.depthAll_keys_le kvs))
    (k2.more_le (fun b z => List.mem_append_right _ z) (PyData.depthAll_vals_le kvs)))

mutual
theorem Da.rep (I : Inv X pins σ H s) : ∀ {v : V} {d : PyData} {u : Value}, Da X.K H v d → RelV v u → d.showable = true → d.shown.length ≤ sizeLine →
    ∃ bs, ReadAtMost s.heap d.depth bs ∧ ReprK X.prog X.w bs s.heap d.depth u d.shown
  | _, _, _, .non, r, _, _ => by
    cases r
    exact ⟨[], (fun _ h => nomatch h), by simp only [PyData.shown]; exact .of_is ReprIs.none _ _ _⟩
  | _, _, _, .bl b, r, _, _ => by
    cases r
    exact ⟨[], (fun _ h => nomatch h), by simp only [PyData.shown]; exact .of_is (ReprIs.bool b) _ _ _⟩
  | _, _, _, .int i, r, hs, _ => by
    obtain ⟨t, rfl⟩ := r
    exact ⟨[], (fun _ h => nomatch h), by simp only [PyData.shown]; exact .of_is (ReprIs.int t (by simpa [PyData.showable] using hs)) _ _ _⟩
  | _, _, _, .str x, r, _, hz => by
    obtain ⟨t, rfl⟩ := r
    exact ⟨[], (fun _ h => nomatch h), by simp only [PyData.shown]; exact .of_is (ReprIs.str x t (by simpa only [PyData.shown] using hz)) _ _ _⟩
  | _, _, _, .lst (a := a) (xs := xs) (ds := ds) h g, r, hs, hz => by
    have hz' : (listText (PyData.shownAll ds)).length ≤ sizeLine := by simpa only [PyData.shown] using hz
    obtain ⟨as, rd⟩ := Da.reads I (.lst h g) r
    cases r
    obtain ⟨its, rv, ⟨o, n, ho, hc, _, hd⟩, _⟩ := I.list h
    obtain ⟨bs, hb, hk⟩ := Das.rep' I g rv (by simpa [PyData.showable] using hs) fun t ht => Nat.le_trans (listText_mem_le ht) hz'
    have hna : a ∉ bs := not_mem_of_deeper rd (by simp only [PyData.depth]; omega) hb
    refine ⟨a :: bs, ReadAtMost.cons rd (by simp only [PyData.depth]; omega) hb, ?_⟩
    simp only [PyData.depth, PyData.shown]
    cases rv with
    | nil =>
      have e0 : ds = [] := by
        have q := g.len
        cases ds with
        | nil => rfl
        | cons _ _ => cases q
      subst e0
      simp only [PyData.shownAll, listText_nil]
      exact ReprK.listEmpty ho hc hd
    | cons rx rl => exact ReprK.list ho hc hd hna (by simpa using hk.length_eq) fun i y e => hk.item i y (by simpa using e)
  | _, _, _, .tup (a := a) (xs := xs) (ds := ds) h g, r, hs, hz => by
    have hz' : (tupleText (PyData.shownAll ds)).length ≤ sizeLine := by simpa only [PyData.shown] using hz
    obtain ⟨as, rd⟩ := Da.reads I (.tup h g) r
    cases r
    obtain ⟨its, rv, ⟨o, ho, hc, n, hd⟩, _⟩ := I.tuple h
    obtain ⟨bs, hb, hk⟩ := Das.rep' I g rv (by simpa [PyData.showable] using hs) fun t ht => Nat.le_trans (tupleText_mem_le ht) hz'
    have hna : a ∉ bs := not_mem_of_deeper rd (by simp only [PyData.depth]; omega) hb
    refine ⟨a :: bs, ReadAtMost.cons rd (by simp only [PyData.depth]; omega) hb, ?_⟩
    simp only [PyData.depth, PyData.shown]
    exact ReprK.tuple ho hc hd hna (by simpa using hk)
  | _, _, _, .dK (a := a) (kvs := kvs) (ds := ds) h g, r, hs, hz => by
    obtain ⟨as, rd⟩ := Da.reads I (.dK h g) r
    cases r
    obtain ⟨hsys, o, es, n, ho, hc, hd, ⟨as1, qk⟩, rv⟩ := dk_at I h
    have hl : (kvs.map fun p => keyD p.1).length = ds.length := by rw [List.length_map, ← g.len, List.length_map]
    exact Da.rep_dict rd hsys ho hc hd qk (allK_nd _ (fun p => keyD_nd p.1) kvs) (List.map_fst_zip (Nat.le_of_eq hl)) (List.map_snd_zip (Nat.le_of_eq hl.symm)) hs hz fun h1 h2 => Das.rep' I g rv h1 h2
  | _, _, _, .dT (a := a) (kvs := kvs) (ds := ds) h g, r, hs, hz => by
    obtain ⟨as, rd⟩ := Da.reads I (.dT h g) r
    cases r
    obtain ⟨hsys, o, es, n, ho, hc, hd, ⟨as1, qk⟩, rv⟩ := dt_at I h
    have hl : (kvs.map fun p => keyT p.1).length = ds.length := by rw [List.length_map, ← g.len, List.length_map]
    exact Da.rep_dict rd hsys ho hc hd qk (allK_nd _ (fun p => keyT_nd p.1) kvs) (List.map_fst_zip (Nat.le_of_eq hl)) (List.map_snd_zip (Nat.le_of_eq hl.symm)) hs hz fun h1 h2 => Das.rep' I g rv h1 h2
theorem Das.rep' (I : Inv X pins σ H s) : ∀ {vs : List V} {ds : List PyData} {us : List Value}, Das X.K H vs ds → Vals vs us → PyData.showableAll ds = true →
    (∀ t ∈ PyData.shownAll ds, t.length ≤ sizeLine) → ∃ bs, ReadAtMost s.heap (PyData.depthAll ds) bs ∧ ReprAllK X.prog X.w bs s.heap (PyData.depthAll ds) us (PyData.shownAll ds)
  | _, _, _, .nil, r, _, _ => by
    cases r
    exact ⟨[], (fun _ h => nomatch h), by simp only [PyData.shownAll]; exact .nil⟩
  | _, _, _, .cons (d := d) (ds := ds) a b, r, hs, hz => by
    cases r with
    | cons r1 r2 =>
      have hs' : d.showable = true ∧ PyData.showableAll ds = true := by simpa [PyData.showableAll] using hs
      obtain ⟨b1, hb1, k1⟩ := Da.rep I a r1 hs'.1 (hz _ (by simp only [PyData.shownAll]; exact List.mem_cons_self ..))
      obtain ⟨b2, hb2, k2⟩ := Das.rep' I b r2 hs'.2 fun t ht => hz t (by simp only [PyData.shownAll]; exact List.mem_cons_of_mem _ ht)
      refine ⟨b1 ++ b2, fun c hm => ?_, ?_⟩
      · simp only [PyData.depthAll]
        rcases List.mem_append.mp hm with hm | hm
        · obtain ⟨d', as', r', hd'⟩ := hb1 c hm
          exact ⟨d', as', r', Nat.le_trans hd' (Nat.le_max_left _ _)⟩
        · obtain ⟨d', as', r', hd'⟩ := hb2 c hm
          exact ⟨d', as', r', Nat.le_trans hd' (Nat.le_max_right _ _)⟩
      · simp only [PyData.depthAll, PyData.shownAll]
        exact .cons ((k1.more fun c hc => List.mem_append_left _ hc).level_le (Nat.le_max_left _ _)) (k2.more_le (fun c hc => List.mem_append_right _ hc) (Nat.le_max_right _ _))
end
end
end Vx

/-! ## G3 -/
set_option Elab.async false
set_option linter.all false
set_option maxRecDepth 100000
set_option maxHeartbeats 4000000
namespace Vx
open PySem PySem.Spec PyProof.Rows L2

section
variable {X : Cx} {pins : List (Addr × Obj)} {σ : L2.St} {H : Hp} {s : Shared}
theorem repr_list_end {l : List V} {a : Addr} {ds : List PyData} (I : Inv X pins σ H s) (h : SqL X.K H a l) (g : Das X.K H l ds)
    (hs : (PyData.list ds).showable = true) (hz : (PyData.list ds).shown.length ≤ sizeLine) {A : Around} {E : Value → Shared → Prop} {Q : Value → Shared → Prop}
    (hg : A.guards = some []) (hu : A.units + ((PyData.list ds).depth + 1) < cLine)
    (hq : ∀ h' u tk, (∀ b o, s.heap.get? b = some o → h'.get? b = some o) → Q (.str (PyData.list ds).shown u) { s with heap := h', toks := tk }) :
    wpAny (model X.prog X.w) A (call (.builtin "repr") [.ref a]) Q E s := by
  have hz' : (listText (PyData.shownAll ds)).length ≤ sizeLine := by simpa only [PyData.shown] using hz
  obtain ⟨as, rd⟩ := Da.reads I (.lst h g) rfl
  obtain ⟨its, rv, ⟨o, n, ho, hc, _, hd⟩, _⟩ := I.list h
  obtain ⟨bs, hb, hk⟩ := Das.rep' I g rv (by simpa [PyData.showable] using hs) fun t ht => Nat.le_trans (listText_mem_le ht) hz'
  have hna : a ∉ bs := not_mem_of_deeper rd (by simp only [PyData.depth]; omega) hb
  simp only [PyData.depth] at hu
  refine call_repr_slot (by omega) ⟨o, ho, hc⟩ F.slot_list_repr.toG ?_
  have hu' : A.in1.units + (PyData.depthAll ds + 1) < cLine := by
    show A.units + 1 + (PyData.depthAll ds + 1) < cLine
    omega
  cases rv with
  | nil =>
    have e0 : ds = [] := by
      have q := g.len
      cases ds with
      | nil => rfl
      | cons _ _ => cases q
    subst e0
    simp only [PyData.shown, PyData.shownAll, listText_nil] at hq
    exact call_list_repr_empty ⟨o, ho, hc⟩ ho hd ⟨_, _, rfl, hq s.heap _ _ fun _ _ e => e⟩
  | cons rx rl =>
    simp only [PyData.shown] at hq
    exact call_list_reprK ho hc hd hna (by simpa using hk.length_eq) (fun i y e => hk.item i y (by simpa using e)) hg (fun b _ => Clear.nil b) hu'
      (fun _ _ e => e) (fun h' u tk q => ⟨_, _, rfl, hq h' u tk q⟩) hz'
theorem repr_tup_end {l : List V} {a : Addr} {ds : List PyData} (I : Inv X pins σ H s) (h : SqT X.K H a l) (g : Das X.K H l ds)
    (hs : (PyData.tuple ds).showable = true) (hz : (PyData.tuple ds).shown.length ≤ sizeLine) {A : Around} {E : Value → Shared → Prop} {Q : Value → Shared → Prop}
    (hg : A.guards = some []) (hu : A.units + ((PyData.tuple ds).depth + 1) < cLine)
    (hq : ∀ h' u tk, (∀ b o, s.heap.get? b = some o → h'.get? b = some o) → Q (.str (PyData.tuple ds).shown u) { s with heap := h', toks := tk }) :
    wpAny (model X.prog X.w) A (call (.builtin "repr") [.ref a]) Q E s := by
  have hz' : (tupleText (PyData.shownAll ds)).length ≤ sizeLine := by simpa only [PyData.shown] using hz
  obtain ⟨as, rd⟩ := Da.reads I (.tup h g) rfl
  obtain ⟨its, rv, ⟨o, ho, hc, n, hd⟩, _⟩ := I.tuple h
  obtain ⟨bs, hb, hk⟩ := Das.rep' I g rv (by simpa [PyData.showable] using hs) fun t ht => Nat.le_trans (tupleText_mem_le ht) hz'
  have hna : a ∉ bs := not_mem_of_deeper rd (by simp only [PyData.depth]; omega) hb
  simp only [PyData.depth] at hu
  refine call_repr_slot (by omega) ⟨o, ho, hc⟩ F.slot_tuple_repr ?_
  have hu' : A.in1.units + (PyData.depthAll ds + 1) < cLine := by
    show A.units + 1 + (PyData.depthAll ds + 1) < cLine
    omega
  simp only [PyData.shown] at hq
  exact call_tuple_reprK ho hc hd hna (by simpa using hk) hg (fun b _ => Clear.nil b) hu' (fun _ _ e => e) (fun h' u tk q => ⟨_, _, rfl, hq h' u tk q⟩) hz'
theorem repr_dict_end {a : Addr} {o : Obj} {es : Array DictEntry} {n : Nat} {kvs : List (PyData × PyData)} {ks ds : List PyData} {as as1 : List Addr}
    (rd : Reads s.heap (.ref a) (.dict kvs) as) (hsys : (a == sysModules) = false) (ho : s.heap.get? a = some o) (hc : o.cls = .type "dict") (hd : o.data = .dict es n)
    (qk : ReadsAll s.heap (es.toList.map (·.key)) ks as1) (hnd : PyData.hasDictAll ks = false) (e1 : kvs.map (·.1) = ks) (e2 : kvs.map (·.2) = ds)
    (hs : (PyData.dict kvs).showable = true) (hz : (PyData.dict kvs).shown.length ≤ sizeLine)
    (hv : PyData.showableAll ds = true → (∀ t ∈ PyData.shownAll ds, t.length ≤ sizeLine) →
      ∃ bs, ReadAtMost s.heap (PyData.depthAll ds) bs ∧ ReprAllK X.prog X.w bs s.heap (PyData.depthAll ds) (es.toList.map (·.val)) (PyData.shownAll ds))
    {A : Around} {E : Value → Shared → Prop} {Q : Value → Shared → Prop}
    (hg : A.guards = some []) (hu : A.units + ((PyData.dict kvs).depth + 1) < cLine)
    (hq : ∀ h' u tk, (∀ b o, s.heap.get? b = some o → h'.get? b = some o) → Q (.str (PyData.dict kvs).shown u) { s with heap := h', toks := tk }) :
    wpAny (model X.prog X.w) A (call (.builtin "repr") [.ref a]) Q E s := by
  subst e1 e2
  have hz' : (dictText (PyData.shownKv kvs)).length ≤ sizeLine := by simpa only [PyData.shown] using hz
  obtain ⟨hs1, hs2⟩ := PyData.showableKv_split kvs (by simpa [PyData.showable] using hs)
  obtain ⟨b1, hb1, k1⟩ := ReprAllK.of_readsAll (prog := X.prog) (w := X.w) qk hs1 (fun z => by rw [hnd] at z; cases z)
    fun t ht => by
      obtain ⟨p, hp, hl⟩ := PyData.shownKv_key_le kvs t ht
      exact Nat.le_trans hl (Nat.le_trans (dictText_mem_le hp) hz')
  obtain ⟨b2, hb2, k2⟩ := hv hs2 fun t ht => by
    obtain ⟨p, hp, hl⟩ := PyData.shownKv_val_le kvs t ht
    exact Nat.le_trans hl (Nat.le_trans (dictText_mem_le hp) hz')
  have hb := (hb1.mono (PyData.depthAll_keys_le kvs)).append (hb2.mono (PyData.depthAll_vals_le kvs))
  have hna : a ∉ b1 ++ b2 := not_mem_of_deeper rd (by simp only [PyData.depth]; omega) hb
  simp only [PyData.depth] at hu
  refine call_repr_slot (by omega) ⟨o, ho, hc⟩ F.slot_dict_repr ?_
  have hu' : A.in1.units + (PyData.depthKv kvs + 1) < cLine := by
    show A.units + 1 + (PyData.depthKv kvs + 1) < cLine
    omega
  simp only [PyData.shown, PyData.shownKv_eq] at hq
  exact call_dict_reprK ho hc hd hsys hna (ReprEntriesK.of_two es.toList _ _
      (k1.more_le (fun b z => List.mem_append_left _ z) (PyData.depthAll_keys_le kvs))
      (k2.more_le (fun b z => List.mem_append_right _ z) (PyData.depthAll_vals_le kvs))) hg (fun b _ => Clear.nil b) hu'
    (fun _ _ e => e) (fun h' u tk q => ⟨_, _, rfl, hq h' u tk q⟩) (by rw [← PyData.shownKv_eq]; exact hz')

/-- repr(x), x data -/
def rRepr (K : PySem.W.Frag) : List V → Hp → VK → Prop := fun xs H Q => ∃ x d, xs = [x] ∧ Da K H x d ∧ d.showable = true ∧ d.depth ≤ 50 ∧ d.shown.length ≤ sizeLine ∧ Q (.str d.shown) H
theorem call_reprD (hG : Gd X.A) (hu : X.A.units + 64 < cLine) : CallR X (.builtin "repr") (rRepr X.K) := by
  intro pins s σ H xs us Q I r h
  obtain ⟨x, d, rfl, hd, hs, hn, hz, q⟩ := h
  cases r with
  | cons rx rr =>
    cases rr
    have fin : ∀ h' u tk, (∀ b o, s.heap.get? b = some o → h'.get? b = some o) → EP X pins σ Q (.str d.shown u) { s with heap := h', toks := tk } :=
      fun h' u tk k => ⟨.str d.shown, H, I.kept (h' := h') (t' := tk) k, ⟨u, rfl⟩, q⟩
    cases hd with
    | non =>
      cases rx
      simp only [PyData.shown] at fin
      exact PySem.P.repr_of_none (fin s.heap _ _ fun _ _ e => e)
    | bl b =>
      cases rx
      simp only [PyData.shown] at fin
      exact PySem.P.repr_of_bool (fin s.heap _ _ fun _ _ e => e)
    | int i =>
      obtain ⟨t, rfl⟩ := rx
      simp only [PyData.shown] at fin
      exact PySem.P.repr_of_int (by simpa [PyData.showable] using hs) (fin s.heap _ _ fun _ _ e => e)
    | str y =>
      obtain ⟨t, rfl⟩ := rx
      simp only [PyData.shown] at fin
      exact PySem.P.repr_of_str (fin s.heap _ _ fun _ _ e => e) (by simpa only [PyData.shown] using hz)
    | lst h g =>
      cases rx
      exact repr_list_end I h g hs hz hG (by omega) fin
    | tup h g =>
      cases rx
      exact repr_tup_end I h g hs hz hG (by omega) fin
    | dK h g =>
      cases rx
      rename_i a kvs ds
      obtain ⟨as, rd⟩ := Da.reads I (.dK h g) rfl
      obtain ⟨hsys, o, es, n, ho, hc, hd, ⟨as1, qk⟩, rv⟩ := dk_at I h
      have hl : (kvs.map fun p => keyD p.1).length = ds.length := by rw [List.length_map, ← g.len, List.length_map]
      exact repr_dict_end rd hsys ho hc hd qk (allK_nd _ (fun p => keyD_nd p.1) kvs) (List.map_fst_zip (Nat.le_of_eq hl))
        (List.map_snd_zip (Nat.le_of_eq hl.symm)) hs hz (fun h1 h2 => Das.rep' I g rv h1 h2) hG (by omega) fin
    | dT h g =>
      cases rx
      rename_i a kvs ds
      obtain ⟨as, rd⟩ := Da.reads I (.dT h g) rfl
      obtain ⟨hsys, o, es, n, ho, hc, hd, ⟨as1, qk⟩, rv⟩ := dt_at I h
      have hl : (kvs.map fun p => keyT p.1).length = ds.length := by rw [List.length_map, ← g.len, List.length_map]
      exact repr_dict_end rd hsys ho hc hd qk (allK_nd _ (fun p => keyT_nd p.1) kvs) (List.map_fst_zip (Nat.le_of_eq hl))
        (List.map_snd_zip (Nat.le_of_eq hl.symm)) hs hz (fun h1 h2 => Das.rep' I g rv h1 h2) hG (by omega) fin
end
end Vx

/-! ## G4 -/
set_option Elab.async false
set_option linter.all false
set_option maxRecDepth 100000
set_option maxHeartbeats 4000000
namespace Vx
open PySem PySem.Spec PyProof.Rows L2
open PySem.W PySem.Calls

/-- one of the built-in classes over which the package's errors stand -/
structure XB where
  B : String
  nw : String
  ini : String
  bm : List Value
  F : ExcBaseFacts B nw ini bm
  S : StoreFacts B bm "object.__setattr__" "object"
def xVal : XB := ⟨_, _, _, _, F.excBase_ValueError, F.store_ValueError⟩
def xLook : XB := ⟨_, _, _, _, F.excBase_LookupError, F.store_LookupError⟩
def xRun : XB := ⟨_, _, _, _, F.excBase_RuntimeError, F.store_RuntimeError⟩
def xAri : XB := ⟨_, _, _, _, F.excBase_ArithmeticError, F.store_ArithmeticError⟩

/-! ### making one, with keywords too -/
section
variable {M : Model} {A : Around} {E : Value → Shared → Prop} {h : Heap} {g : Array GenState} {d : Drawn} {t : Nat} {os : OsState}
variable {nm q : Str} {C N : Addr} {bs bm bmB : List Value} {hdct : Bool} {sn : List Str} {sub : List Value} {ab : Bool} {col : Option Bool} {dd : Option Addr}
  {k0 k1 k2 k3 k5 : Option Value} {B newId initId : String} {kw : List (Str × Value)}
theorem xnew_check (F : ExcBaseFacts B newId initId bmB) (tl : ∀ X : String, bm.contains (.type X) = bmB.contains (.type X)) {rest : List Value} {Q : Unit → Shared → Prop}
    (cC : h.get? C = some (excClassObj nm q C N bs bm hdct sn sub ab col dd k0 k1 k2 k3 k5 newId)) (hq : Q () ⟨h, g, d, t, os⟩) :
    wpAny M A (checkBuiltinCall newId ⟨.ref C :: rest, kw⟩) Q E ⟨h, g, d, t, os⟩ := by
  have in1 : (Value.ref C :: bm).contains (.type B) = true := by
    rw [List.contains_cons, tl, F.hasB, Bool.or_true]
  have ns := F.noStar
  simp only [checkBuiltinCall, F.newKind, F.newSplit, F.newRow]
  repeat (first
    | refine wpAny_loadPart_at cC ?_
    | (refine wpAny_isSubtype_exc cC ?_
       rw [in1])
    | refine wpAny_staticBase_exc cC ?_
    | refine wpAny_madeBy_exc cC ?_
    | simp only [bne_self_eq_false, Bool.false_eq_true, if_false]
    | wp_step)
  all_goals exact hq
end
section
variable {prog : Program} {w : World} {A : Around} {E : Value → Shared → Prop} {R : Result → Shared → Prop} {h : Heap} {g : Array GenState} {d : Drawn} {t : Nat} {os : OsState}
variable {nm q : Str} {C N : Addr} {bs bm bmB : List Value} {hdct : Bool} {sn : List Str} {sub : List Value} {ab : Bool} {col : Option Bool} {dd : Option Addr}
  {k0 k1 k2 k3 k5 : Option Value} {B newId initId : String} {kw : List (Str × Value)}
theorem xnew_run (F : ExcBaseFacts B newId initId bmB) (tl : ∀ X : String, bm.contains (.type X) = bmB.contains (.type X)) {rest : List Value}
    (cC : h.get? C = some (excClassObj nm q C N bs bm hdct sn sub ab col dd k0 k1 k2 k3 k5 newId))
    (hq : R (.ok (.ret (.ref (h.objs.size + 1)))) ⟨(h.push (W.kdv_tup rest)).push (HandSPX.excO C h.objs.size), g, d, t, os⟩) (hl : rest.length ≤ sizeLine) :
    codeAny (model prog w) A (.builtin newId ⟨.ref C :: rest, kw⟩) R ⟨h, g, d, t, os⟩ := by
  have en := F.ends
  have in1 : (Value.ref C :: bm).contains (.type B) = true := by
    rw [List.contains_cons, tl, F.hasB, Bool.or_true]
  have in2 : (Value.ref C :: bm).contains (.type "AttributeError") = false := by
    rw [List.contains_cons, tl, F.noAttr]
    rfl
  have in3 : (Value.ref C :: bm).contains (.type "NameError") = false := by
    rw [List.contains_cons, tl, F.noName]
    rfl
  refine codeAny_builtinAt F.entry ?_
  unfold Builtin.«BaseException.__new__»
  refine PySem.wpAt_bind ?_
  show PySem.wpAt _ _ _ (stack >>= _) _ _ _
  refine PySem.wpAt_bind (PySem.wpAt_stack fun p below => PySem.wpAt_of_wpAny ?_)
  wp_walk
  refine PySem.wpAt_of_wpAny ?_
  rw [F.owner]
  repeat (first
    | with_reducible refine wpAny_madeHere_exc F.canon cC ?_
    | with_reducible refine wpAny_loadPart_at cC ?_
    | (with_reducible refine wpAny_isSubtype_exc cC ?_
       first
       | rw [in1]
       | rw [in2]
       | rw [in3])
    | wp_step)
  show R _ _
  rw [Heap.size_push]
  exact hq
theorem xtype_call (F : ExcBaseFacts B newId initId bmB) (tl : ∀ X : String, bm.contains (.type X) = bmB.contains (.type X)) {rest : List Value} {fI : Addr} {Q : Fin → Shared → Prop}
    (cC : h.get? C = some (excClassObj nm q C N bs bm hdct sn sub ab col dd k0 k1 k2 k3 k5 newId))
    (li : W.Looks (model prog w) h (typeLookup (.ref C) "__init__") (some (.ref fI))) (lb : ∀ self, W.Looks (model prog w) h (bindSpecial (.ref fI) self) (.ref fI, [self]))
    (hl : rest.length ≤ sizeLine)
    (hq : codeAny (model prog w) A (.call (.ref fI) ⟨.ref (h.objs.size + 1) :: rest, kw⟩)
      (fun r s' => match r with
        | .ok (.ret v) => v = .none ∧ Q (.done (.ret (.ref (h.objs.size + 1)))) s'
        | .ok _ => False
        | .error e => E e s')
      ⟨(h.push (W.kdv_tup rest)).push (HandSPX.excO C h.objs.size), g, d, t, os⟩) :
    wpAny (model prog w) A (Builtin.«type.__call__» ⟨.ref C :: rest, kw⟩) Q E ⟨h, g, d, t, os⟩ := by
  repeat (first
    | with_reducible refine wpAny_loadPart_at cC ?_
    | with_reducible refine wpAny_madeBy_exc cC ?_
    | wp_step)
  refine codeAny_call_builtin_code (Code.quiet_builtin _ F.quiet) (xnew_check F tl cC ?_)
  refine xnew_run F tl cC ?_ hl
  show wpAny _ _ _ _ _ _
  have kk : ∀ b o, h.get? b = some o → ((h.push (W.kdv_tup rest)).push (HandSPX.excO C h.objs.size)).get? b = some o :=
    fun b o z => Heap.get?_push_of_some _ (Heap.get?_push_of_some _ z)
  have cC2 := kk _ _ cC
  have hx : ((h.push (W.kdv_tup rest)).push (HandSPX.excO C h.objs.size)).get? (h.objs.size + 1) = some (HandSPX.excO C h.objs.size) := by heap_get
  have inC : (Value.ref C :: bm).contains (.ref C) = true := by simp
  have li2 := li.keeps kk
  have lb2 := (lb (.ref (h.objs.size + 1))).keeps kk
  unfold isInstance
  repeat (first
    | with_reducible refine wpAny_loadPart_at hx ?_
    | (with_reducible refine wpAny_isSubtype_exc cC2 ?_
       rw [inC])
    | wp_step)
  show wpAny _ _ (typeLookup (.ref C) _) _ _ _
  refine li2.at ?_
  refine wpAny_holding (wpAny_bind (lb2.at ?_))
  refine wpAny_bind (wpAny_call (codeAny_mono hq fun r s' z => ?_))
  rcases r with e | (v | _ | _ | _) <;> first | exact z | exact z.elim | skip
  obtain ⟨rfl, z⟩ := z
  first
    | exact wpAny_pure (wpAny_pure z)
    | (wp_walk
       exact z)
/-- C(.., k = ..) -/
theorem xcall (F : ExcBaseFacts B newId initId bmB) (tl : ∀ X : String, bm.contains (.type X) = bmB.contains (.type X)) {rest : List Value} {fI : Addr}
    (cC : h.get? C = some (excClassObj nm q C N bs bm hdct sn sub ab col dd k0 k1 k2 k3 k5 newId))
    (li : W.Looks (model prog w) h (typeLookup (.ref C) "__init__") (some (.ref fI))) (lb : ∀ self, W.Looks (model prog w) h (bindSpecial (.ref fI) self) (.ref fI, [self]))
    (hl : rest.length ≤ sizeLine)
    (hq : codeAny (model prog w) (A.under (.builtin "type.__call__" ⟨.ref C :: rest, kw⟩)) (.call (.ref fI) ⟨.ref (h.objs.size + 1) :: rest, kw⟩) (W.InitBack (h.objs.size + 1) R)
      ⟨(h.push (W.kdv_tup rest)).push (HandSPX.excO C h.objs.size), g, d, t, os⟩) :
    codeAny (model prog w) A (.call (.ref C) ⟨rest, kw⟩) R ⟨h, g, d, t, os⟩ := by
  have f1 := PySem.tc_lookup
  have f2 := PySem.tc_bind (.ref C)
  have ty : (⟨h, g, d, t, os⟩ : Shared).TypeIs (.ref C) "type" := ⟨_, cC, rfl⟩
  refine codeAny_of_tree ?_
  show wpAny _ _ (callAny (.ref C) _) _ _ _
  repeat (any_goals (first
    | assumption
    | with_reducible refine wpAny_loadPart_at cC ?_
    | wp_step))
  refine ⟨rfl, ?_⟩
  refine codeAny_call_builtin_at (Code.quiet_builtin _ (by decide +kernel)) entry_typeCall (wpAny_check_type_call_sub cC (xtype_call F tl cC li lb hl ?_))
  refine codeAny_mono hq fun r s' z => ?_
  rcases r with e | (v | _ | _ | _) <;> exact z
end
end Vx

/-! ## G5 -/
set_option Elab.async false
set_option linter.all false
set_option maxRecDepth 100000
set_option maxHeartbeats 4000000
namespace Vx
open PySem PySem.Spec PyProof.Rows L2
open PySem.W PySem.Calls PySem.Builtin.ObjectAttr

/-- what the written part says of an own error class at C, over b -/
structure XcC (b : XB) (K : PySem.W.Frag) (C : Addr) : Prop where
  cls : ∃ nm q N bs bm sn sub ab col dd k0 k1 k2 k3 k5, K.lookup C = some (excClassObj nm q C N bs bm true sn sub ab col dd k0 k1 k2 k3 k5 b.nw) ∧ excTail b.bm bm = true
  sa : findIn K (.ref C) "__setattr__" = some (some (.builtin "object.__setattr__"))
  exC : subIn K (.ref C) (.type "BaseException") = some true
  tyC : typeIn K (.ref C) = some (.type "type")
  kC : keepIn K (.ref C) = true
  ga : findIn K (.ref C) "__getattribute__" = some (some (.builtin "BaseException.__getattribute__"))
  gg : findIn K (.ref C) "__getattr__" = some none
  hdC : hasDictIn K C = true
  ha : findIn K (.ref C) "__class__" = some (some (.builtin "object.__class__"))
  hm : mroIn K C (.type "object") = some true
/-- what holds of the descriptor of __class__ -/
structure XcG (K : PySem.W.Frag) : Prop where
  hn : specialIn K (.builtin "object.__class__") "__get__" = some (some (.builtin "getset_descriptor.__get__"))
  ht : takesIn K (.builtin "object.__class__") = some true

section
variable {prog : Program} {w : World} {A : Around} {E : Value → Shared → Prop} {R : Result → Shared → Prop} {hp : Heap} {g : Array GenState} {d : Drawn} {t : Nat} {os : OsState}
/-- the first store -/
theorem xosa_new {B : String} {bmB : List Value} {K : PySem.W.Frag} {name : Str} {tk : Tok} {v : Value} {x C : Addr} {fv : Array Value} {cd : ClassData} (S : StoreFacts B bmB "object.__setattr__" "object")
    (X : K.In hp) (hx : hp.get? x = some { cls := .ref C, data := .fields fv }) (hcd : clsIn K C = some cd) (ov : excOver K C bmB = true) (hh : cd.hasDict = true) (tn : takerIn K C name = some none)
    (hq : ∀ h' tk' dx, (∀ b o, b ≠ x → hp.get? b = some o → h'.get? b = some o) → hp.objs.size ≤ dx → dx ≠ x →
      h'.get? x = some { cls := .ref C, dict := some dx, data := .fields fv } → h'.Ns1 dx (fun y => if y = name then some v else none) → R (.ok (.ret .none)) ⟨h', g, d, tk', os⟩) :
    codeAny (model prog w) A (.call (.builtin "object.__setattr__") ⟨[.ref x, .str name tk, v], []⟩) R ⟨hp, g, d, t, os⟩ := by
  have I : InstAt hp x { cls := .ref C, data := .fields fv } C none := ⟨hx, rfl, rfl, trivial⟩
  have ne : x ≠ hp.objs.size := Nat.ne_of_lt (Heap.lt_size hx)
  refine osa_openX S X I ov tn fun b => ?_
  have lc : Looks (model prog w) hp (classData C) cd := looks_clsIn X hcd
  obtain ⟨nm, bs, mro, ns, qn, hd, sn, sb, ab, col, del⟩ := cd
  dsimp only at hh
  subst hh
  show wpAny _ _ (storeInOwnDict (.ref x) (.ref C) (.str name tk) name v b) _ _ _
  unfold storeInOwnDict ownDictForStores
  repeat (first
    | with_reducible refine HandSPX.store_in_new ?_ ?_
    | with_reducible refine wpAny_loadPart_at hx ?_
    | with_reducible refine lc.at ?_
    | wp_step)
  · exact ⟨_, #[], _, (Heap.get?_update_ne _ _ _ _ ne.symm).trans (Heap.get?_push_at rfl rfl), rfl, fun e he => absurd he (by simp), fun _ => rfl⟩
  · intro h' tk' hn' hs
    have hx2 : (hp.push { cls := .type "dict", data := .dict #[] }).get? x = some { cls := .ref C, data := .fields fv } := Heap.get?_push_of_some _ hx
    refine hq h' tk' hp.objs.size (fun b o hb ho => ?_) (Nat.le_refl _) ne.symm ?_ hn'
    · exact (hs.2 b (Nat.ne_of_lt (Heap.lt_size ho))).trans ((Heap.get?_update_ne _ _ _ _ hb).trans (Heap.get?_push_of_some _ ho))
    · exact (hs.2 x ne).trans (Heap.get?_update_self _ hx2 rfl)
/-- a further store -/
theorem xosa_old {B : String} {bmB : List Value} {K : PySem.W.Frag} {name : Str} {tk : Tok} {v : Value} {x C dx : Addr} {fv : Array Value} {cd : ClassData} {m0 : Str → Option Value} {nl : List Str} (S : StoreFacts B bmB "object.__setattr__" "object")
    (X : K.In hp) (hx : hp.get? x = some { cls := .ref C, dict := some dx, data := .fields fv }) (hns : hp.Ns1 dx m0) (hw : Within m0 nl) (hz : nl.length ≤ 1000)
    (hcd : clsIn K C = some cd) (ov : excOver K C bmB = true) (hh : cd.hasDict = true) (tn : takerIn K C name = some none)
    (hq : ∀ h' tk', (∀ b o, b ≠ dx → hp.get? b = some o → h'.get? b = some o) → h'.Ns1 dx (fun y => if y = name then some v else m0 y) → R (.ok (.ret .none)) ⟨h', g, d, tk', os⟩) :
    codeAny (model prog w) A (.call (.builtin "object.__setattr__") ⟨[.ref x, .str name tk, v], []⟩) R ⟨hp, g, d, t, os⟩ := by
  obtain ⟨oD, esD, epD, hoD, hdD, _⟩ := hns.count hw
  have I : InstAt hp x { cls := .ref C, dict := some dx, data := .fields fv } C (some oD) := ⟨hx, rfl, rfl, hoD⟩
  refine osa_openX S X I ov tn fun b => ?_
  have lc : Looks (model prog w) hp (classData C) cd := looks_clsIn X hcd
  obtain ⟨nm, bs, mro, ns, qn, hd, sn, sb, ab, col, del⟩ := cd
  dsimp only at hh
  subst hh
  show wpAny _ _ (storeInOwnDict (.ref x) (.ref C) (.str name tk) name v b) _ _ _
  unfold storeInOwnDict ownDictForStores
  repeat (first
    | with_reducible refine OEX.store_in_old hns hw hz ?_
    | with_reducible refine wpAny_loadPart_at hx ?_
    | with_reducible refine lc.at ?_
    | wp_step)
  intro h' tk' hn' hs
  exact hq h' tk' (fun b o hb ho => (hs.2 b hb).trans ho) hn'
end

section
variable {b : XB} {X : Cx} {pins : List (Addr × Obj)} {σ : L2.St} {H : Hp} {s : Shared} {a C dx : Addr} {f : Str} {y : V} {u : Value} {fs : List (Str × V)}
  {Q : Unit → Shared → Prop} {E : Value → Shared → Prop} {A : Around}
theorem XcC.data (T : XcC b X.K C) : ∃ cd : ClassData, clsIn X.K C = some cd ∧ cd.hasDict = true ∧ excOver X.K C b.bm = true := by
  obtain ⟨nm, q, N, bs, bm, sn, sub, ab, col, dd, k0, k1, k2, k3, k5, hC, hbm⟩ := T.cls
  have e : clsIn X.K C = some { name := nm, bases := bs, mro := .ref C :: bm, ns := N, qualname := q, hasDict := true, slotNames := sn, subclasses := sub, abstract := ab, collection := col, hasDel := false } := by
    unfold clsIn
    rw [hC] <;> rfl
  refine ⟨_, e, rfl, ?_⟩
  unfold excOver
  rw [e]
  show ((C == C) && excTail b.bm bm) = true
  rw [hbm]
  simp
theorem taker_none {K : PySem.W.Frag} (h : findIn K (.ref C) f = some none) : takerIn K C f = some none := by
  unfold takerIn
  rw [h]
  rfl
/-- self.f = y, the first one -/
theorem xst_new (T : XcC b X.K C) (I : Inv X pins σ H s) (e : H a = some (exo a C none)) (hno : findIn X.K (.ref C) f = some none) (ry : RelV y u)
    (h : ∀ dx s', H dx = none → dx ≠ a → Inv X pins σ (upd (upd H dx (exd dx [(f, y)])) a (exo a C (some dx))) s' → Q () s') : wpAny (model X.prog X.w) A (setAttr (.ref a) f u) Q E s := by
  obtain ⟨cd, hcl, hhd, hov⟩ := T.data
  obtain ⟨t1, ho⟩ := exo_at I.hok e
  obtain ⟨hp, g, d, t, os⟩ := s
  refine set_plain I.kIn (ox := { cls := .ref C, dict := none, data := .fields #[.ref t1, .none, .none, .none, .bool false, .none] }) (od := none) ⟨ho, rfl, rfl, trivial⟩ T.sa ?_
  refine xosa_new b.S I.kIn ho hcl hov hhd (taker_none hno) (fun h' tk' dx k dn dne hx hn => ?_)
  have hnd : H dx = none := I.hok.fresh dn
  have nd : ∀ {c : Addr} {o : Obj}, hp.get? c = some o → c ≠ dx := fun {c o} q => Nat.ne_of_lt (Nat.lt_of_lt_of_le (Heap.lt_size q) dn)
  have na : ∀ {c : Addr}, H c = none → c ≠ a := fun {c} n z => by
    rw [z, e] at n
    cases n
  refine h dx _ hnd dne (I.un (t' := tk') ⟨fun c o q n _ _ => k c o (na n) q, fun c o q n _ _ => ⟨o.slots, k c o (na n) q⟩,
    fun c o q n _ => by rw [upd_ne (na n), upd_ne (nd q)]; exact n,
    fun c o q _ => by
      by_cases hb : c = a
      · exact ⟨_, by rw [hb]; exact hx⟩
      · exact ⟨o, k c o hb q⟩,
    fun c xs q => by rw [upd_ne (at_ne e q exo_tup), upd_ne (ne_of_none q hnd)]; exact q,
    fun c o v q => by rw [upd_ne (at_ne e q exo_frz), upd_ne (ne_of_none q hnd)]; exact q,
    fun c ps q => ⟨#[], by rw [upd_ne (at_ne e q exo_tbl), upd_ne (ne_of_none q hnd), q]; simp⟩⟩ fun c o q => ?_)
  by_cases hb : c = a
  · subst hb
    rw [upd_same] at q
    cases q
    exact exo_ok hx
  · rw [upd_ne hb] at q
    by_cases hd : c = dx
    · subst hd
      rw [upd_same] at q
      cases q
      exact exd_ok hn (relO_put (fs := []) ry fun g => True.intro)
    · rw [upd_ne hd] at q
      refine (I.hok c o q).stay (fun z v hz r => k z v ?_ r) (fun z hz => ?_) fun z xs hz => ?_
      · rcases hz with hz | hz
        · rw [hz]
          exact hb
        · exact at_ne e hz exo_own
      · rw [upd_ne (at_ne e hz exo_own), upd_ne (ne_of_none hz hnd)]
        exact hz
      · rw [upd_ne (at_ne e hz exo_tup), upd_ne (ne_of_none hz hnd)]
        exact hz
/-- self.f = y, a further one -/
theorem xst_old (T : XcC b X.K C) (I : Inv X pins σ H s) (e : H a = some (exo a C (some dx))) (ed : H dx = some (exd dx fs)) (hl : fs.length ≤ 900) (hno : findIn X.K (.ref C) f = some none) (ry : RelV y u)
    (h : ∀ s', Inv X pins σ (upd H dx (exd dx ((f, y) :: fs))) s' → Q () s') : wpAny (model X.prog X.w) A (setAttr (.ref a) f u) Q E s := by
  obtain ⟨cd, hcl, hhd, hov⟩ := T.data
  obtain ⟨t1, ho⟩ := exo_at I.hok e
  obtain ⟨mA, hns, rel⟩ := exd_at I.hok ed
  have hw := within_of rel
  obtain ⟨hp, g, d, t, os⟩ := s
  obtain ⟨oD, _, _, hoD, _, _⟩ := hns.count hw
  refine set_plain I.kIn (ox := { cls := .ref C, dict := some dx, data := .fields #[.ref t1, .none, .none, .none, .bool false, .none] }) (od := some oD) ⟨ho, rfl, rfl, hoD⟩ T.sa ?_
  refine xosa_old b.S I.kIn ho hns hw (by rw [List.length_map]; omega) hcl hov hhd (taker_none hno) (fun h' tk' k hn => ?_)
  have hd : ∃ o, h'.get? dx = some o := by
    obtain ⟨o, _, _, e', _⟩ := hn
    exact ⟨o, e'⟩
  exact h _ (I.write (t' := tk') (x := dx) (e := dx) (o := exd dx ((f, y) :: fs)) (by rw [ed]; exact True.intro) (.inl rfl) k hd (exd_ok hn (relO_put ry rel)))
end

/-- at a: an error of the class at C, with these attributes (the newest first) -/
def XO (H : Hp) (a C : Addr) (fs : List (Str × V)) : Prop := ∃ d, H a = some (exo a C (some d)) ∧ H d = some (exd d fs)
/-- self.f = e in an error's __init__ -/
def tXs (b : XB) (K : PySem.W.Frag) (f : Str) (to te : TE) : TS := fun D σ H => te σ H fun y H1 => to σ H1 fun x H2 => ∃ a C : Addr, x = .ref a ∧ XcC b K C ∧ findIn K (.ref C) f = some none ∧
  ((H2 a = some (exo a C none) ∧ ∀ dx, H2 dx = none → dx ≠ a → D.nx σ (upd (upd H2 dx (exd dx [(f, y)])) a (exo a C (some dx)))) ∨
    ∃ (dx : Addr) (fs : List (Str × V)), H2 a = some (exo a C (some dx)) ∧ H2 dx = some (exd dx fs) ∧ fs.length ≤ 900 ∧ D.nx σ (upd H2 dx (exd dx ((f, y) :: fs))))
/-- C(e, ..), its __init__ keeping sp -/
def tXm (C : Addr) (sp : Sp) (gV : List V → List V → List V) (ta tk : TA) : TE := fun σ H Q => ta σ H fun vs H1 => tk σ H1 fun zs H2 => vs.length ≤ 1000 ∧ ∀ a, H2 a = none →
  sp (gV (.ref a :: vs) zs) (upd H2 a (exo a C none)) (fun v H3 => v = .non ∧ Q (.ref a) H3) (fun _ _ _ => False)
section
variable {b : XB} {X : Cx} {o e : Expr} {es : List Expr} {kws : List Keyword} {to te : TE} {ta tk : TA} {f : Str} {p p' p1 p2 pos : Pos} {C fI : Addr}
theorem ps_xs (ho : PE X o to) (he : PE X e te) (hs : swapsWith e (some (.Attribute o f p')) pos.line X.env = pure false := by rfl) : PS X (.Assign [.Attribute o f p'] e pos) (tXs b X.K f to te) := by
  refine ⟨fun pins s σ H D I h => ?_⟩
  refine plainObj_wpAny_Assign_Attribute (thn (he.run pins s σ H _ I h) fun v s1 ⟨y, H1, I1, r1, q1⟩ =>
    thn (ho.run pins s1 σ H1 _ I1 q1) fun u s2 ⟨x, H2, I2, r2, a, C, ex, T, hno, q⟩ => ?_) hs
  subst ex
  obtain rfl : u = Value.ref a := r2
  rcases q with ⟨ea, q⟩ | ⟨dx, fs, ea, ed, hl, q⟩
  · exact xst_new T I2 ea hno r1 fun dx s' n ne J => ⟨σ, _, J, q dx n ne⟩
  · exact xst_old T I2 ea ed hl hno r1 fun s' J => ⟨σ, _, J, q⟩
/-- the making, its arguments reckoned -/
theorem xmk_run {CX : CXT} {k : Nat} {fd : FuncData} {ps ks : List Str} {sp : Sp} {g : List Value → List Value → List Value} {gV : List V → List V → List V} {pins : List (Addr × Obj)} {σ : L2.St} {H : Hp} {s : Shared} {Q : VK} {us ws : List Value} {vs zs : List V}
    (T : XcC b X.K C) (iC : findIn X.K (.ref C) "__init__" = some (some (.ref fI))) (tI : typeIn X.K (.ref fI) = some (.type "function"))
    (F1 : FnOk X.prog X.w X.K X.mg X.base CX k fI fd ps sp) (hr : Room (k + 1) X.A) (hb : KBinds X.K fd ps ks g gV) (hx : Passes CX X (fun _ _ _ => False))
    (I : Inv X pins σ H s) (r : Vals vs us) (rz : Vals zs ws) (hz : vs.length ≤ 1000)
    (q1 : ∀ a, H a = none → sp (gV (.ref a :: vs) zs) (upd H a (exo a C none)) (fun v H3 => v = .non ∧ Q (.ref a) H3) (fun _ _ _ => False)) :
    wpAny (model X.prog X.w) X.A (call (.ref C) us (ks.zip ws)) (EP X pins σ Q) X.xe s := by
  obtain ⟨nm, q, N, bs, bm, sn, sub, ab, col, dd, k0, k1, k2, k3, k5, hC, hbm⟩ := T.cls
  obtain ⟨hp, gs, dr, tk, os⟩ := s
  have lz : hp.objs.size ≤ hp.objs.size + 1 := Nat.le_succ _
  have hn : H (hp.objs.size + 1) = none := I.hok.fresh lz
  have hq := q1 (hp.objs.size + 1) hn
  have kk : ∀ c o, hp.get? c = some o → ((hp.push (kdv_tup us)).push (HandSPX.excO C hp.objs.size)).get? c = some o :=
    fun c o z => Heap.get?_push_of_some _ (Heap.get?_push_of_some _ z)
  have hget : ((hp.push (kdv_tup us)).push (HandSPX.excO C hp.objs.size)).get? (hp.objs.size + 1) = some (HandSPX.excO C hp.objs.size) := by heap_get
  have I2 : Inv X pins σ (upd H (hp.objs.size + 1) (exo (hp.objs.size + 1) C none)) ⟨(hp.push (kdv_tup us)).push (HandSPX.excO C hp.objs.size), gs, dr, tk, os⟩ :=
    I.laid (t' := tk) (a := hp.objs.size + 1) (o := exo (hp.objs.size + 1) C none) (h' := (hp.push (kdv_tup us)).push (HandSPX.excO C hp.objs.size)) kk lz (exo_ok hget)
  have ra : Vals (V.ref (hp.objs.size + 1) :: vs) (Value.ref (hp.objs.size + 1) :: us) := .cons rfl r
  have r2 := hb.rel ra rz
  have hl : (g (Value.ref (hp.objs.size + 1) :: us) ws).length = ps.length := r2.length.symm.trans (F1.len _ _ _ _ hq)
  have hus : us.length ≤ sizeLine := by
    rw [← Paired.length r, sizeLine_eq]
    omega
  refine wpAny_call (xcall b.F (fun Y => excTail_contains Y bm hbm) (I.kIn _ _ hC) (looks_findIn I.kIn iC) (fun self => bind_fn I.kIn self tI) hus
    (codeAny_mono (F1.run _ X.stack _ _ ⟨Value.ref (hp.objs.size + 1) :: us, ks.zip ws⟩ (g (Value.ref (hp.objs.size + 1) :: us) ws) _ _ (fun _ _ _ => False)
      (hr.make C us (ks.zip ws)) (I2.env0.make C us (ks.zip ws)) (hb.to _ _ ws I2.kIn hl) r2 hq) fun r s' hq' => ?_))
  cases r with
  | error er => exact hx pins σ _ _ er s' I2 hq'
  | ok fl =>
    cases fl with
    | ret u =>
      obtain ⟨v, H2, J, rv, ev, q2⟩ := I2.after hq'
      subst ev
      exact ⟨rv, ⟨V.ref (hp.objs.size + 1), H2, J, rfl, q2⟩⟩
    | next => exact False.elim hq'
    | brk => exact False.elim hq'
    | cont => exact False.elim hq'
end
end Vx

/-! ## G6 -/
set_option Elab.async false
set_option linter.all false
set_option maxRecDepth 100000
set_option maxHeartbeats 4000000
namespace Vx
open PySem PySem.Spec PyProof.Rows L2
open PySem.W PySem.Calls PySem.Builtin.ObjectAttr

section
variable {b : XB} {X : Cx} {o e : Expr} {es : List Expr} {kws : List Keyword} {to te : TE} {ta tk : TA} {f x : Str} {p p' p1 p2 pos : Pos} {C fI : Addr}
  {CX : CXT} {k : Nat} {fd : FuncData} {ps ks : List Str} {sp : Sp} {g : List Value → List Value → List Value} {gV : List V → List V → List V}
/-- C(e, ..) -/
theorem pe_xm (T : XcC b X.K C) (iC : findIn X.K (.ref C) "__init__" = some (some (.ref fI))) (tI : typeIn X.K (.ref fI) = some (.type "function"))
    (F1 : FnOk X.prog X.w X.K X.mg X.base CX k fI fd ps sp) (hr : Room (k + 1) X.A) (hb : KBinds X.K fd ps [] g gV) (hx : Passes CX X (fun _ _ _ => False))
    (hg : Gl X x) (hm : X.mg x = some (.ref C)) (ha : PA X (e :: es) ta)
    (hdb : (x == ("__debug__" : Str)) = false := by decide) (he : starEach (e :: es) X.env = (false, eval e X.env) :: starEach es X.env := by rfl) (hpl : (backTo pos (starEach es X.env)).any (·.1) = false := by rfl) :
    PE X (.Call (.Name x p) (e :: es) [] pos) (tXm C sp gV ta tNil) := by
  refine ⟨fun pins s σ H Q I h => wpAny_Call_Name_kw (ld_glob I hg hm ?_ hdb)⟩
  refine callWith_K (h₀ := X.base) I.ok.mod.kin T.kC (thn (ha.run pos pins s σ H _ I h) fun us s1 ⟨vs, H1, I1, r1, hz, q1⟩ => ⟨I1.kIn, ?_⟩) he hpl
  exact xmk_run (ks := []) (ws := []) T iC tI F1 hr hb hx I1 r1 .nil hz q1
/-- C(k = e, ..) -/
theorem pe_xmK (T : XcC b X.K C) (iC : findIn X.K (.ref C) "__init__" = some (some (.ref fI))) (tI : typeIn X.K (.ref fI) = some (.type "function"))
    (F1 : FnOk X.prog X.w X.K X.mg X.base CX k fI fd ps sp) (hr : Room (k + 1) X.A) (hb : KBinds X.K fd ps ks g gV) (hx : Passes CX X (fun _ _ _ => False))
    (hg : Gl X x) (hm : X.mg x = some (.ref C)) (hkw : PK X kws tk) (hall : (backToKw pos (keywordEach kws X.env)).all (·.1.isSome) = true := by rfl)
    (hks : (backToKw pos (keywordEach kws X.env)).filterMap (·.1) = ks := by rfl) (hdb : (x == ("__debug__" : Str)) = false := by decide)
    (hpl : ((backTo pos (starEach [] X.env)).any (·.1) || (backToKw pos (keywordEach kws X.env)).any (·.1.isNone)) = false := by rfl) :
    PE X (.Call (.Name x p) [] kws pos) (tXm C sp gV tNil tk) := by
  refine ⟨fun pins s σ H Q I h => wpAny_Call_Name_kw (ld_glob I hg hm ?_ hdb)⟩
  refine callWith_KW0 (h₀ := X.base) I.ok.mod.kin T.kC hall ?_ hpl
  refine thn (hkw.run pos pins s σ H _ I h) fun ws s2 ⟨zs, H2, I2, rz, hz, q2⟩ => ⟨I2.kIn, ?_⟩
  rw [hks]
  exact xmk_run T iC tI F1 hr hb hx I2 .nil rz hz q2

/-- e.f, e an own error -/
def tXf (K : PySem.W.Frag) (f : Str) (te : TE) : TE := fun σ H Q => te σ H fun v H1 => ∃ (b : XB) (a C : Addr) (fs : List (Str × V)) (y : V), v = .ref a ∧ XO H1 a C fs ∧ XcC b K C ∧
  findIn K (.ref C) f = some none ∧ fs.lookup f = some y ∧ Q y H1
theorem pe_xf {n : Str} (he : PE X e te) (hb : attributeBase e n X.env (eval e X.env) = eval e X.env := by rfl) : PE X (.Attribute e n pos) (tXf X.K n te) := by
  refine ⟨fun pins s σ H Q I h => attr_of hb (thn (he.run pins s σ H _ I h) fun u s1 hh => ?_)⟩
  obtain ⟨v, H1, I1, rx, b, a, C, fs, y, ev, ⟨d, ea, ed⟩, T, hno, l, q⟩ := hh
  subst ev
  obtain rfl : u = Value.ref a := rx
  obtain ⟨t1, ho⟩ := exo_at I1.hok ea
  obtain ⟨mA, hns, rel⟩ := exd_at I1.hok ed
  obtain ⟨od, hod, hl⟩ := lookIn_ns hns
  obtain ⟨u, hu, ru⟩ := RelO.some_of (v := y) (o := mA n) (by rw [← l]; exact rel n)
  have J : InstAt s1.heap a _ C (some od) := ⟨ho, rfl, rfl, hod⟩
  exact HandSPX.exc_get I1.kIn J T.ga T.gg T.exC (findObj_own T.hdC hno rfl (by rw [hl, hu])) (handed_of ru) ⟨y, H1, I1.tok _, ru, q⟩

end

/-! ### isinstance of an own error -/
section
variable {prog : Program} {w : World} {A : Around} {E : Value → Shared → Prop} {s : Shared} {K : Frag} {x D : Addr} {ox : Obj} {od : Option Obj} {b : XB}
theorem xfind_data {C : Addr} {name : Str} {a g : Value} (hc : (clsIn K C).isSome = true) (ha : findIn K (.ref C) name = some (some a)) (hg : specialIn K a "__get__" = some (some g)) (ht : takesIn K a = some true) :
    findObj K C od name = some (.bind g a) := by
  obtain ⟨cd, hc⟩ := Option.isSome_iff_exists.mp hc
  unfold findObj
  rw [hc, Option.bind_some, ha, Option.bind_some]
  simp [hg, ht]
theorem xclass_get {M : Model} {h : Heap} (G : XcG K) (T : XcC b K D) (X : K.In h) (I : InstAt h x ox D od) : Looks M h (find (.ref x) (.ref D) "__class__") (.bind (.builtin "getset_descriptor.__get__") (.builtin "object.__class__")) :=
  looks_find X I (xfind_data (by obtain ⟨cd, hc, _⟩ := any_some T.hdC; rw [hc]; rfl) T.ha G.hn G.ht)
theorem xkin_class {Q : Option Value → Shared → Prop} (G : XcG K) (T : XcC b K D) (X : K.In s.heap) (I : InstAt s.heap x ox D od) (h : Q (some (.ref D)) { s with toks := s.toks + 1 }) :
    wpAny (model prog w) A (getAttr? (.ref x) "__class__") Q E s := by
  obtain ⟨hp, g, d, t, os⟩ := s
  have l0 := I.type (M := model prog w)
  have l1 := looks_findIn (M := model prog w) X T.ga
  have l2 := looks_findIn (M := model prog w) X T.gg
  have l3 := xclass_get (M := model prog w) G T X I
  have sb : Looks (model prog w) hp (isInstance (.ref x) (.type "BaseException")) true := l0.andThen (looks_subIn X T.exC)
  have e0 : (false && onTheHeap (Value.builtin "BaseException.__getattribute__")) = false := rfl
  have e2 : (Value.builtin "BaseException.__getattribute__" == Value.builtin "object.__getattribute__") = false := by decide +kernel
  have e1 : (onTheHeap (Value.ref D) && Value.builtin "BaseException.__getattribute__" == Value.builtin "object.__getattribute__") = false := by
    rw [e2]
    rfl
  unfold getAttr? getAttrBy? getAttrBy
  refine wpAny_bind (wpAny_mkText (wpAny_bind (wpAny_attempt (wpAny_holding (wpAny_bind (l0.at (wpAny_bind (l1.at ?_))))))))
  show wpAny _ _ (if (onTheHeap (Value.ref D) && Value.builtin "BaseException.__getattribute__" == Value.builtin "object.__getattribute__") = true then _ else _) _ _ _
  rw [e1, if_neg Bool.false_ne_true]
  unfold getAttrByItsOwn hookBefore
  refine wpAny_bind ?_
  rw [if_pos (show onTheHeap (Value.ref D) = true from rfl)]
  refine l2.at (wpAny_bind (wpAny_attempt (wpAny_holding ?_)))
  unfold callGetattribute
  rw [e0, if_neg Bool.false_ne_true]
  unfold boundAndCalled
  rw [PySem.F.excAttr_ValueError.ga.bind (.ref x)]
  refine wpAny_bind (wpAny_pure ?_)
  show wpAny _ _ (call (.builtin "BaseException.__getattribute__") [.ref x, .str "__class__" t]) _ _ _
  refine wpAny_call (codeAny_call_builtin PySem.F.excAttr_ValueError.ga.plain PySem.F.entry_bexc_ga ?_)
  refine @check_slot (model prog w) _ _ ⟨hp, g, d, t + 1, os⟩ "BaseException.__getattribute__" "BaseException" "__getattribute__" (.ref x) [.str "__class__" t] [] _
    (by decide +kernel) (by decide +kernel) sb (PySem.F.args_bexc_ga (.ref x) (.str "__class__" t)) ?_
  unfold Builtin.«object.__getattribute__»
  refine wpAny_bind (wpAny_of_eq (a := ((Value.ref x : Value), [Value.str "__class__" t]))
    (by first | rfl | (simp only [slotArgs]; rfl)) ?_)
  refine wpAny_bind (wpAny_pure (wpAny_bind (l0.at (wpAny_bind (l3.at ?_)))))
  show wpAny _ _ (holding [Value.builtin "object.__class__"] (call (.builtin "getset_descriptor.__get__") [.builtin "object.__class__", .ref x, .ref D]) >>= ret) _ _ _
  refine wpAny_bind (wpAny_holding (wpAny_call (class_get (s := ⟨hp, g, d, t + 1, os⟩) (ox := ox) (od := od) X I T.hm ?_)))
  refine wpAny_pure ?_
  show wpAny _ _ (handedOut (.ref D)) _ _ _
  rw [handedOut_of (v := .ref D) rfl]
  first
    | exact wpAny_pure (wpAny_pure h)
    | exact wpAny_pure h
    | exact wpAny_pure (wpAny_bind (wpAny_pure (wpAny_pure h)))
theorem xkit (G : XcG K) (T : XcC b K D) : KitX K (.ref x) (.ref D) (fun h => InstAt h x ox D od) where
  ty := fun _ _ _ I => I.type
  it := fun _ _ X _ => by
    obtain ⟨cd, hc, _⟩ := any_some T.hdC
    unfold clsIn at hc
    split at hc
    · rename_i c' d' cd' sl' ho
      intro A' Q' E' s' k q
      unfold isType loadHead
      exact wpAny_bind (wpAny_loadPart (k _ _ (X _ _ ho)) (wpAny_pure q))
    · cases hc
  ne := fun h tp dd its n sl X htp => by
    obtain ⟨cd, hc, _⟩ := any_some T.hdC
    refine Bool.eq_false_iff.mpr fun q => ?_
    have e : D = tp := Value.ref.inj (beq_iff_eq.mp q)
    subst e
    unfold clsIn at hc
    split at hc
    · rename_i c' d' cd' sl' ho
      cases (X _ _ ho).symm.trans htp
    · cases hc
  ca := fun X I k => xkin_class G T X I k
end
/-- at a: an error of the class at C, with or without attributes -/
def XI (H : Hp) (a C : Addr) : Prop := H a = some (exo a C none) ∨ ∃ fs, XO H a C fs
section
variable {b : XB} {X : Cx}
/-- isinstance(e, c), e an own error -/
def rIsX (K : PySem.W.Frag) : List V → Hp → VK → Prop := fun xs H Q => ∃ (a D : Addr) (b : XB) (c : V) (cv : Value) (r : Bool), xs = [.ref a, c] ∧ XI H a D ∧ XcC b K D ∧ (∀ u, RelV c u → u = cv) ∧ kitOne K (.ref D) cv = some r ∧ Q (.bl r) H
theorem call_isX (G : XcG X.K) : CallR X (.builtin "isinstance") (rIsX X.K) := by
  intro pins s σ H xs us Q I r h
  obtain ⟨a, D, b, c, cv, rr, rfl, hi, T, hcv, e, q⟩ := h
  obtain ⟨u, u2, rfl, ra, rc⟩ := vals2 r
  obtain rfl : u = Value.ref a := ra
  obtain rfl := hcv _ rc
  obtain ⟨ox, od, J⟩ : ∃ ox od, InstAt s.heap a ox D od := by
    rcases hi with ea | ⟨fs, d, ea, ed⟩
    · obtain ⟨t1, ho⟩ := exo_at I.hok ea
      exact ⟨_, none, ho, rfl, rfl, trivial⟩
    · obtain ⟨t1, ho⟩ := exo_at I.hok ea
      obtain ⟨mA, ⟨oD, es, ep, hoD, _⟩, _⟩ := exd_at I.hok ed
      exact ⟨_, some oD, ho, rfl, rfl, hoD⟩
  exact kia_one (xkit G T) I.kIn J e (fun z => nomatch z) fun tk => ⟨.bl rr, H, I.kept (t' := tk) fun _ _ z => z, rfl, q⟩
/-- C(), C without an __init__ of its own -/
theorem pe_x0 {C : Addr} {bmB : List Value} {B newId initId : String} {x : Str} {p pos : Pos} (F : ExcBaseFacts B newId initId bmB) (q : excIn X.K C bmB newId = true) (gC : X.mg x = some (.ref C)) (kC : keepIn X.K (.ref C) = true) (hg : Gl X x)
    (hdb : (x == ("__debug__" : Str)) = false := by decide) :
    PE X (.Call (.Name x p) [] [] pos) (fun _ H Q => ∀ a, H a = none → Q (.ref a) (upd H a (exo a C none))) := by
  refine ⟨fun pins s σ H Q I h => wpAny_Call_Name_kw (ld_glob I hg gC ?_ hdb)⟩
  refine callWith_K0 I.kIn kC ?_
  obtain ⟨bm, N, nm, qn, bs, hdct, sn, sub, ab, col, dd, k0, k1, k2, k3, k5, mN, hC, hN, hni, T⟩ := exc_obj I.kIn q
  refine wpAny_call_exc_subT F T hC hN hni (fun h' a hm => ?_) (by show 0 ≤ sizeLine; omega)
  have hn : H a = none := I.hok.gone hm.new
  obtain ⟨t, ht, _, _⟩ := hm.there
  exact ⟨.ref a, upd H a (exo a C none), I.laidN hm.keeps hm.new hn (exo_ok ht), rfl, h a hn⟩
end
end Vx

/-! ## G7 -/
set_option Elab.async false
set_option linter.all false
set_option maxRecDepth 100000
set_option maxHeartbeats 4000000
namespace Vx
open PySem PySem.Spec PyProof.Rows L2
open PySem.W PySem.Calls PySem.Builtin.ObjectAttr

theorem funD_fun {K : PySem.W.Frag} {x q : Str} {st : Stmt} {f : Addr} {fd : FuncData} (F : FunD K x q (defArgs st) (defBody st) (defScope st) [] [] f fd) : Fun K x q st f fd := by
  obtain ⟨⟨oc, od, dV, kV, doc, pm, an, cdv, ct, osl, e, lk, hc, hD, _⟩, kp⟩ := F
  refine ⟨⟨oc, od, kV, doc, pm, an, cdv, ct, osl, ?_, lk, hc⟩, kp⟩
  rcases hD with ⟨_, e2⟩ | ⟨z, _⟩
  · rw [e, e2]
  · exact absurd rfl z

/-! ### the errors' __init__ -/
/-- the body of an __init__ that keeps one value, two values -/
def Init1 (f : Str) (body : List Stmt) : Prop := ∃ p1 p2 p3 p4, body = [.Assign [.Attribute (.Name "self" p1) f p2] (.Name f p3) p4]
def Init2 (f g : Str) (body : List Stmt) : Prop := ∃ p1 p2 p3 p4 q1 q2 q3 q4, body = [.Assign [.Attribute (.Name "self" p1) f p2] (.Name f p3) p4, .Assign [.Attribute (.Name "self" q1) g q2] (.Name g q3) q4]
def spX1 (b : XB) (K : PySem.W.Frag) (f : Str) : Sp := fun vs H Q _ => ∃ (a C : Addr) (y : V), vs = [.ref a, y] ∧ XcC b K C ∧ findIn K (.ref C) f = some none ∧ H a = some (exo a C none) ∧
  ∀ d, H d = none → d ≠ a → Q .non (upd (upd H d (exd d [(f, y)])) a (exo a C (some d)))
def spX2 (b : XB) (K : PySem.W.Frag) (f g : Str) : Sp := fun vs H Q _ => ∃ (a C : Addr) (y z : V), vs = [.ref a, y, z] ∧ XcC b K C ∧ findIn K (.ref C) f = some none ∧ findIn K (.ref C) g = some none ∧ H a = some (exo a C none) ∧
  ∀ d, H d = none → d ≠ a → Q .non (upd (upd (upd H d (exd d [(f, y)])) a (exo a C (some d))) d (exd d [(g, z), (f, y)]))
section
variable {P : Program} {w : World} {K : PySem.W.Frag} {mg : Str → Option Value} {base : Heap} {qual f g : Str} {params : Arguments} {body : List Stmt} {scope : Scope} {fI : Addr} {fd : FuncData} {b : XB}
theorem ok_init1 (F : FunD K "__init__" qual params body scope [] [] fI fd) (B : Init1 f body) (S : FnScope ["self", f] ["self", f] scope) (l1 : scope.names.lookup ("self" : Str) = some .local) (l2 : scope.names.lookup f = some .local)
    (e1 : (f == ("__debug__" : Str)) = false) (e2 : (f == ("__classdict__" : Str)) = false) : FnOk P w K mg base CX0 1 fI fd ["self", f] (spX1 b K f) := by
  refine F.ok S (fun vs H Q E h => ?_) (fun cdv A outer s H vs Q E hr h => ?_)
  · obtain ⟨a, C, y, rfl, _⟩ := h
    rfl
  · obtain ⟨a, C, y, rfl, T, hno, ha, k⟩ := h
    obtain ⟨p1, p2, p3, p4, rfl⟩ := B
    refine ⟨_, pss_one (ps_xs (b := b) (pe_var (i := 0) rfl (Or.inl l1)) (pe_var (i := 1) rfl (Or.inl l2) e1 e2)), ?_⟩
    exact ⟨y, rfl, .ref a, rfl, a, C, rfl, T, hno, .inl ⟨ha, fun d hd ne => k d hd ne⟩⟩
theorem ok_init2 (F : FunD K "__init__" qual params body scope [] [] fI fd) (B : Init2 f g body) (S : FnScope ["self", f, g] ["self", f, g] scope) (l1 : scope.names.lookup ("self" : Str) = some .local) (l2 : scope.names.lookup f = some .local) (l3 : scope.names.lookup g = some .local)
    (e1 : (f == ("__debug__" : Str)) = false) (e2 : (f == ("__classdict__" : Str)) = false) (e3 : (g == ("__debug__" : Str)) = false) (e4 : (g == ("__classdict__" : Str)) = false) : FnOk P w K mg base CX0 1 fI fd ["self", f, g] (spX2 b K f g) := by
  refine F.ok S (fun vs H Q E h => ?_) (fun cdv A outer s H vs Q E hr h => ?_)
  · obtain ⟨a, C, y, z, rfl, _⟩ := h
    rfl
  · obtain ⟨a, C, y, z, rfl, T, hno, hno2, ha, k⟩ := h
    obtain ⟨p1, p2, p3, p4, q1, q2, q3, q4, rfl⟩ := B
    refine ⟨_, pss_cons (ps_xs (b := b) (pe_var (i := 0) rfl (Or.inl l1)) (pe_var (i := 1) rfl (Or.inl l2) e1 e2)) (pss_one (ps_xs (b := b) (pe_var (i := 0) rfl (Or.inl l1)) (pe_var (i := 2) rfl (Or.inl l3) e3 e4))), ?_⟩
    refine ⟨y, rfl, .ref a, rfl, a, C, rfl, T, hno, .inl ⟨ha, fun d hd ne => ?_⟩⟩
    exact ⟨z, rfl, .ref a, rfl, a, C, rfl, T, hno2, .inr ⟨d, _, upd_same, (upd_ne ne).trans upd_same, by show 1 ≤ 900; omega, k d hd ne⟩⟩
end

/-! ### one error class by its facts -/
/-- one positional value and one by keyword; one and two, the later parameter first -/
def kw1 {α : Type} : List α → List α → List α
  | [a], [b] => [a, b]
  | _, _ => []
def kw2 {α : Type} : List α → List α → List α
  | [a], [z, y] => [a, y, z]
  | _, _ => []
theorem kw1_rel : ∀ {vs : List V} {us : List Value} {zs : List V} {ws : List Value}, Vals vs us → Vals zs ws → Vals (kw1 vs zs) (kw1 us ws)
  | _, _, _, _, .cons a .nil, .cons c .nil => .cons a (.cons c .nil)
  | _, _, _, _, .nil, _ => .nil
  | _, _, _, _, .cons _ (.cons _ _), _ => .nil
  | _, _, _, _, .cons _ .nil, .nil => .nil
  | _, _, _, _, .cons _ .nil, .cons _ (.cons _ _) => .nil
theorem kw2_rel : ∀ {vs : List V} {us : List Value} {zs : List V} {ws : List Value}, Vals vs us → Vals zs ws → Vals (kw2 vs zs) (kw2 us ws)
  | _, _, _, _, .cons a .nil, .cons c (.cons d .nil) => .cons a (.cons d (.cons c .nil))
  | _, _, _, _, .nil, _ => .nil
  | _, _, _, _, .cons _ (.cons _ _), _ => .nil
  | _, _, _, _, .cons _ .nil, .nil => .nil
  | _, _, _, _, .cons _ .nil, .cons _ .nil => .nil
  | _, _, _, _, .cons _ .nil, .cons _ (.cons _ (.cons _ _)) => .nil
/-- an error class with one attribute -/
structure ErrC (P : Program) (w : World) (K : PySem.W.Frag) (mg : Str → Option Value) (base : Heap) (b : XB) (x f : Str) (C : Addr) : Prop where
  T : XcC b K C
  hm : mg x = some (.ref C)
  no : findIn K (.ref C) f = some none
  ini : ∃ (fI : Addr) (fd : FuncData), findIn K (.ref C) "__init__" = some (some (.ref fI)) ∧ typeIn K (.ref fI) = some (.type "function") ∧ FnOk P w K mg base CX0 1 fI fd ["self", f] (spX1 b K f) ∧
    KBinds K fd ["self", f] [] (fun us _ => us) (fun vs _ => vs) ∧ KBinds K fd ["self", f] [f] kw1 kw1
/-- what an error's making asks: nothing, and gives the new error -/
def tE (C : Addr) (f : Str) (te : TE) : TE := fun σ H Q => te σ H fun y H1 => ∀ a H2, H1 a = none → Same H1 H2 → XO H2 a C [(f, y)] → Q (.ref a) H2
theorem same_mk {H : Hp} {a d C : Addr} {f : Str} {y : V} (ha : H a = none) (hd : upd H a (exo a C none) d = none) (ne : d ≠ a) : Same H (upd (upd (upd H a (exo a C none)) d (exd d [(f, y)])) a (exo a C (some d))) := fun c o e => by
  have hca : c ≠ a := ne_of_none e ha
  have hcd : c ≠ d := fun z => by
    rw [z] at e
    rw [upd_ne ne] at hd
    rw [hd] at e
    cases e
  rw [upd_ne hca, upd_ne hcd, upd_ne hca]
  exact e
/-- two attributes (f first), as the newest first -/
theorem same_mk2 {H : Hp} {a d C : Addr} {f g : Str} {y z : V} (ha : H a = none) (hd : upd H a (exo a C none) d = none) (ne : d ≠ a) :
    Same H (upd (upd (upd (upd H a (exo a C none)) d (exd d [(f, y)])) a (exo a C (some d))) d (exd d [(g, z), (f, y)])) := fun c o e => by
  have hcd : c ≠ d := fun z => by
    rw [z] at e
    rw [upd_ne ne] at hd
    rw [hd] at e
    cases e
  rw [upd_ne hcd]
  exact same_mk ha hd ne c o e
/-- an error class with two attributes -/
structure ErrC2 (P : Program) (w : World) (K : PySem.W.Frag) (mg : Str → Option Value) (base : Heap) (b : XB) (x f g : Str) (C : Addr) : Prop where
  T : XcC b K C
  hm : mg x = some (.ref C)
  no : findIn K (.ref C) f = some none
  no2 : findIn K (.ref C) g = some none
  ini : ∃ (fI : Addr) (fd : FuncData), findIn K (.ref C) "__init__" = some (some (.ref fI)) ∧ typeIn K (.ref fI) = some (.type "function") ∧ FnOk P w K mg base CX0 1 fI fd ["self", f, g] (spX2 b K f g) ∧
    KBinds K fd ["self", f, g] [] (fun us _ => us) (fun vs _ => vs) ∧ KBinds K fd ["self", f, g] [g, f] kw2 kw2
def one1 (A : V → Hp → Prop) : List V → Hp → Prop
  | [y], H => A y H
  | _, _ => False
def one2 (A : V → V → Hp → Prop) : List V → Hp → Prop
  | [y, z], H => A y z H
  | _, _ => False
def tE2 (C : Addr) (f g : Str) (te tz : TE) : TE := fun σ H Q => te σ H fun y H1 => tz σ H1 fun z H2 => ∀ a H3, H2 a = none → Same H2 H3 → XO H3 a C [(g, z), (f, y)] → Q (.ref a) H3
/-- the same, by keywords g = .., f = .. -/
def tE2r (C : Addr) (f g : Str) (tz te : TE) : TE := fun σ H Q => tz σ H fun z H1 => te σ H1 fun y H2 => ∀ a H3, H2 a = none → Same H2 H3 → XO H3 a C [(g, z), (f, y)] → Q (.ref a) H3
section
variable {b : XB} {X : Cx} {e e2 : Expr} {te tz : TE} {f g x : Str} {p p' kp kp2 pos : Pos} {C : Addr} {k : Nat}
theorem err_end {pins : List (Addr × Obj)} {σ : L2.St} {H : Hp} {Q : VK} {y : V} (T : ErrC X.prog X.w X.K X.mg X.base b x f C) (h : ∀ a H2, H a = none → Same H H2 → XO H2 a C [(f, y)] → Q (.ref a) H2) :
    ∀ a, H a = none → spX1 b X.K f [.ref a, y] (upd H a (exo a C none)) (fun v H3 => v = .non ∧ Q (.ref a) H3) (fun _ _ _ => False) := fun a ha =>
  ⟨a, C, y, rfl, T.T, T.no, upd_same, fun d hd ne => ⟨rfl, h a _ ha (same_mk ha hd ne) ⟨d, upd_same, (upd_ne ne).trans upd_same⟩⟩⟩
theorem pe_err (T : ErrC X.prog X.w X.K X.mg X.base b x f C) (hr : Room 2 X.A) (hg : Gl X x) (he : PE X e te)
    (hdb : (x == ("__debug__" : Str)) = false := by decide) (h1 : starEach [e] X.env = (false, eval e X.env) :: starEach [] X.env := by rfl)
    (h2 : (backTo pos (starEach [] X.env)).any (·.1) = false := by rfl) :
    PE X (.Call (.Name x p) [e] [] pos) (tE C f te) := by
  obtain ⟨fI, fd, i1, i2, F, kb, _⟩ := T.ini
  refine ⟨fun pins s σ H Q I h => wpAny_Call_Name_kw (ld_glob I hg T.hm ?_ hdb)⟩
  refine callWith_K (h₀ := X.base) I.ok.mod.kin T.T.kC (thn ((pa_cons he pa_nil h1).run pos pins s σ H (one1 fun y H1 => ∀ a H2, H1 a = none → Same H1 H2 → XO H2 a C [(f, y)] → Q (.ref a) H2) I h) fun us s1 z => ?_) h1 h2
  obtain ⟨vs, H1, I1, r1, q1⟩ := z
  match vs, q1 with
  | [y], q1 => exact ⟨I1.kIn, xmk_run (ks := []) (ws := []) T.T i1 i2 F hr kb pass0 I1 r1 .nil (by show 1 ≤ 1000; omega) (err_end (pins := pins) (σ := σ) T q1)⟩
/-- C(f = e) -/
theorem pe_errK (T : ErrC X.prog X.w X.K X.mg X.base b x f C) (hr : Room 2 X.A) (hg : Gl X x) (he : PE X e te)
    (hdb : (x == ("__debug__" : Str)) = false := by decide) (hall : (backToKw pos (keywordEach [⟨some f, e, kp⟩] X.env)).all (·.1.isSome) = true := by rfl)
    (hks : (backToKw pos (keywordEach [⟨some f, e, kp⟩] X.env)).filterMap (·.1) = [f] := by rfl)
    (hpl : ((backTo pos (starEach [] X.env)).any (·.1) || (backToKw pos (keywordEach [⟨some f, e, kp⟩] X.env)).any (·.1.isNone)) = false := by rfl) :
    PE X (.Call (.Name x p) [] [⟨some f, e, kp⟩] pos) (tE C f te) := by
  obtain ⟨fI, fd, i1, i2, F, _, kb⟩ := T.ini
  refine ⟨fun pins s σ H Q I h => wpAny_Call_Name_kw (ld_glob I hg T.hm ?_ hdb)⟩
  refine callWith_KW0 (h₀ := X.base) I.ok.mod.kin T.T.kC hall ?_ hpl
  refine thn ((pk_cons he pk_nil).run pos pins s σ H (one1 fun y H1 => ∀ a H2, H1 a = none → Same H1 H2 → XO H2 a C [(f, y)] → Q (.ref a) H2) I h) fun ws s1 z => ?_
  obtain ⟨vs, H1, I1, r1, q1⟩ := z
  rw [hks]
  match vs, q1 with
  | [y], q1 => exact ⟨I1.kIn, xmk_run (us := []) (vs := []) T.T i1 i2 F hr kb pass0 I1 .nil r1 (by show 0 ≤ 1000; omega) (err_end (pins := pins) (σ := σ) T q1)⟩
theorem err_end2 {pins : List (Addr × Obj)} {σ : L2.St} {H : Hp} {Q : VK} {y z : V} (T : ErrC2 X.prog X.w X.K X.mg X.base b x f g C) (h : ∀ a H2, H a = none → Same H H2 → XO H2 a C [(g, z), (f, y)] → Q (.ref a) H2) :
    ∀ a, H a = none → spX2 b X.K f g [.ref a, y, z] (upd H a (exo a C none)) (fun v H3 => v = .non ∧ Q (.ref a) H3) (fun _ _ _ => False) := fun a ha =>
  ⟨a, C, y, z, rfl, T.T, T.no, T.no2, upd_same, fun d hd ne => ⟨rfl, h a _ ha (same_mk2 ha hd ne) ⟨d, (upd_ne ne.symm).trans upd_same, upd_same⟩⟩⟩
/-- C(e, e2) -/
theorem pe_err2 (T : ErrC2 X.prog X.w X.K X.mg X.base b x f g C) (hr : Room 2 X.A) (hg : Gl X x) (he : PE X e te) (hz : PE X e2 tz)
    (hdb : (x == ("__debug__" : Str)) = false := by decide) (h1 : starEach [e, e2] X.env = (false, eval e X.env) :: starEach [e2] X.env := by rfl) (h0 : starEach [e2] X.env = (false, eval e2 X.env) :: starEach [] X.env := by rfl)
    (h2 : (backTo pos (starEach [e2] X.env)).any (·.1) = false := by rfl) :
    PE X (.Call (.Name x p) [e, e2] [] pos) (tE2 C f g te tz) := by
  obtain ⟨fI, fd, i1, i2, F, kb, _⟩ := T.ini
  refine ⟨fun pins s σ H Q I h => wpAny_Call_Name_kw (ld_glob I hg T.hm ?_ hdb)⟩
  refine callWith_K (h₀ := X.base) I.ok.mod.kin T.T.kC (thn ((pa_cons he (pa_cons hz pa_nil h0) h1).run pos pins s σ H (one2 fun y z H1 => ∀ a H2, H1 a = none → Same H1 H2 → XO H2 a C [(g, z), (f, y)] → Q (.ref a) H2) I h) fun us s1 z => ?_) h1 h2
  obtain ⟨vs, H1, I1, r1, q1⟩ := z
  match vs, q1 with
  | [y, z], q1 => exact ⟨I1.kIn, xmk_run (ks := []) (ws := []) T.T i1 i2 F hr kb pass0 I1 r1 .nil (by show 2 ≤ 1000; omega) (err_end2 (pins := pins) (σ := σ) T q1)⟩
/-- C(g = e2, f = e) -/
theorem pe_err2K (T : ErrC2 X.prog X.w X.K X.mg X.base b x f g C) (hr : Room 2 X.A) (hg : Gl X x) (hz : PE X e2 tz) (he : PE X e te)
    (hdb : (x == ("__debug__" : Str)) = false := by decide) (hall : (backToKw pos (keywordEach [⟨some g, e2, kp⟩, ⟨some f, e, kp2⟩] X.env)).all (·.1.isSome) = true := by rfl)
    (hks : (backToKw pos (keywordEach [⟨some g, e2, kp⟩, ⟨some f, e, kp2⟩] X.env)).filterMap (·.1) = [g, f] := by rfl)
    (hpl : ((backTo pos (starEach [] X.env)).any (·.1) || (backToKw pos (keywordEach [⟨some g, e2, kp⟩, ⟨some f, e, kp2⟩] X.env)).any (·.1.isNone)) = false := by rfl) :
    PE X (.Call (.Name x p) [] [⟨some g, e2, kp⟩, ⟨some f, e, kp2⟩] pos) (tE2r C f g tz te) := by
  obtain ⟨fI, fd, i1, i2, F, _, kb⟩ := T.ini
  refine ⟨fun pins s σ H Q I h => wpAny_Call_Name_kw (ld_glob I hg T.hm ?_ hdb)⟩
  refine callWith_KW0 (h₀ := X.base) I.ok.mod.kin T.T.kC hall ?_ hpl
  refine thn ((pk_cons hz (pk_cons he pk_nil)).run pos pins s σ H (one2 fun z y H1 => ∀ a H2, H1 a = none → Same H1 H2 → XO H2 a C [(g, z), (f, y)] → Q (.ref a) H2) I h) fun ws s1 zz => ?_
  obtain ⟨vs, H1, I1, r1, q1⟩ := zz
  rw [hks]
  match vs, q1 with
  | [z, y], q1 => exact ⟨I1.kIn, xmk_run (us := []) (vs := []) T.T i1 i2 F hr kb pass0 I1 .nil r1 (by show 0 ≤ 1000; omega) (err_end2 (pins := pins) (σ := σ) T q1)⟩
end
end Vx

/-! ## G8 -/
set_option Elab.async false
set_option linter.all false
set_option maxRecDepth 100000
set_option maxHeartbeats 4000000
namespace Vx
open PySem PySem.Spec PyProof.Rows L2 He
open PySem.W PySem.Calls PySem.Builtin.ObjectAttr

/-! ### the errors' facts, read off the head -/
def xcB (b : XB) (K : PySem.W.Frag) (C : Addr) : Bool :=
  excInitIn K C b.bm b.nw && (hasDictIn K C && (eqO (findIn K (.ref C) "__setattr__") (some (some (.builtin "object.__setattr__"))) && (decide (subIn K (.ref C) (.type "BaseException") = some true) &&
    (decide (typeIn K (.ref C) = some (.type "type")) && (keepIn K (.ref C) && (eqO (findIn K (.ref C) "__getattribute__") (some (some (.builtin "BaseException.__getattribute__"))) &&
      (eqO (findIn K (.ref C) "__getattr__") (some none) && (eqO (findIn K (.ref C) "__class__") (some (some (.builtin "object.__class__"))) && decide (mroIn K C (.type "object") = some true)))))))))
theorem xcB_ok {b : XB} {K : PySem.W.Frag} {C : Addr} (h : xcB b K C = true) : XcC b K C := by
  obtain ⟨h1, h⟩ := ba h
  obtain ⟨h2, h⟩ := ba h
  obtain ⟨h3, h⟩ := ba h
  obtain ⟨h4, h⟩ := ba h
  obtain ⟨h5, h⟩ := ba h
  obtain ⟨h6, h⟩ := ba h
  obtain ⟨h7, h⟩ := ba h
  obtain ⟨h8, h⟩ := ba h
  obtain ⟨h9, h10⟩ := ba h
  refine ⟨?_, eqO_ok h3, of_decide_eq_true h4, of_decide_eq_true h5, h6, eqO_ok h7, eqO_ok h8, h2, eqO_ok h9, of_decide_eq_true h10⟩
  unfold excInitIn at h1
  split at h1
  · rename_i dd cd sl ho
    split at h1
    · rename_i C' bm k0 k1 k2 k3 n k5 hm hs
      simp only [Bool.and_eq_true, beq_iff_eq, Bool.not_eq_true'] at h1
      obtain ⟨⟨⟨rfl, rfl⟩, hdel⟩, ht⟩ := h1
      obtain ⟨cd', hc, hhd⟩ := any_some h2
      have e0 : cd' = cd := by
        unfold clsIn at hc
        rw [ho] at hc
        exact (Option.some.inj hc).symm
      subst e0
      obtain ⟨nm, bs, mro, ns, qn, hd, sn, sub, ab, col, del⟩ := cd'
      dsimp only at hm hdel hhd
      subst hm hdel hhd
      have e1 : sl = #[k0, k1, k2, k3, some (.builtin b.nw), k5] := by
        obtain ⟨l⟩ := sl
        simp only at hs
        rw [hs]
      subst e1
      exact ⟨nm, qn, ns, bs, bm, sn, sub, ab, col, dd, k0, k1, k2, k3, k5, ho, ht⟩
    · cases h1
  · cases h1
def xgB (K : PySem.W.Frag) : Bool := decide (specialIn K (.builtin "object.__class__") "__get__" = some (some (.builtin "getset_descriptor.__get__"))) && decide (takesIn K (.builtin "object.__class__") = some true)
theorem xgB_ok {K : PySem.W.Frag} (h : xgB K = true) : XcG K := by
  obtain ⟨h1, h2⟩ := ba h
  exact ⟨of_decide_eq_true h1, of_decide_eq_true h2⟩
/-- one class of the errors: its name, its attribute (or two) -/
structure EC where
  x : Str
  b : XB
  f : Str := ""
  g : Str := ""
def EC.ok (K : PySem.W.Frag) (c : EC) : Bool := xcB c.b K (ga K c.x) && (eqO (nsIn K mainGlobals c.x) (some (some (.ref (ga K c.x)))) && (eqO (findIn K (.ref (ga K c.x)) c.f) (some none) && (eqO (findIn K (.ref (ga K c.x)) c.g) (some none) &&
  (eqO (findIn K (.ref (ga K c.x)) "__init__") (some (some (.ref (ma K (ga K c.x) "__init__")))) && decide (typeIn K (.ref (ma K (ga K c.x) "__init__")) = some (.type "function"))))))
/-- a class without an __init__ -/
def EC.ok0 (K : PySem.W.Frag) (c : EC) : Bool := xcB c.b K (ga K c.x) && (eqO (nsIn K mainGlobals c.x) (some (some (.ref (ga K c.x)))) && excIn K (ga K c.x) c.b.bm c.b.nw)
/-- isinstance among the classes: an error of the i-th one is just of that one -/
def isB (K : PySem.W.Frag) (cs : List Str) (x : Str) (d : Nat) (i : Nat) : List Str → Bool
  | [] => true
  | y :: r => decide (kitOne K (.ref (ga K x)) (.ref (ga K y)) = some (decide (i = d))) && isB K cs x d (i + 1) r
def isAll (K : PySem.W.Frag) (cs : List Str) (d : Nat) : List Str → Bool
  | [] => true
  | x :: r => isB K cs x d 0 cs && isAll K cs (d + 1) r

/-! ### the hook: the house's own, and one Bool besides -/
abbrev AlX : Type := Bool × AlD
def hookX (n : Nat) (xb : PySem.W.Frag → Bool) (fa : List Fa) (fn : List DefD) : PySem.W.Hook where
  α := AlX
  obs := fun s => (xb (frG s.heap.get? (asD s.heap.get? n)), obsDG n fa fn s.heap.get?)
  val := fun _ => (true, valD fn)
  says := fun _ h => ∃ K : PySem.W.Frag, K.In h ∧ xb K = true ∧ SaysD fa fn K
  of := fun _ _ e => ⟨_, frG_in, congrArg (fun z : AlX => z.1) e, congrArg (fun z : AlX => z.2) e⟩
  keeps := fun _ _ _ ⟨K, hK, c⟩ k => ⟨K, PySem.W.Frag.In.keeps hK k, c⟩
def obX (n : Nat) (xb : PySem.W.Frag → Bool) (fa : List Fa) (fn : List DefD) (s : PySem.W.SharedT) : AlX :=
  (xb (frG (HandSHeadRun.getT s) (asD (HandSHeadRun.getT s) n)), obsDG n fa fn (HandSHeadRun.getT s))
theorem obX_eq {n : Nat} {xb : PySem.W.Frag → Bool} {fa : List Fa} {fn : List DefD} (s : PySem.W.SharedT) : obX n xb fa fn s = (hookX n xb fa fn).obs s.abs := by
  have e : HandSHeadRun.getT s = s.abs.heap.get? := funext fun a => HandSHeadRun.getT_eq s a
  unfold obX
  rw [e]
  rfl

section
variable {P : Program} {w : World} {K : PySem.W.Frag} {mg : Str → Option Value} {base h : Heap} {fd : FuncData}
theorem dfl_none {dV : Value} (h : DflV K dV []) : dV = .none := by
  rcases h with ⟨_, z⟩ | ⟨z, _⟩
  · exact z
  · exact absurd rfl z
theorem errC_of (X : K.In h) (G : h.Ns mainGlobals mg) {c : EC} (o : c.ok K = true) {qual : Str} {params : Arguments} {body : List Stmt} {scope : Scope} (F : FunD K "__init__" qual params body scope [] [] (ma K (ga K c.x) "__init__") fd)
    (B : Init1 c.f body) (S : FnScope ["self", c.f] ["self", c.f] scope) (l1 : scope.names.lookup ("self" : Str) = some .local) (l2 : scope.names.lookup c.f = some .local)
    (e1 : (c.f == ("__debug__" : Str)) = false) (e2 : (c.f == ("__classdict__" : Str)) = false)
    (hb : ∀ (kV doc pm : Value) (an : Option Addr) (cdv ct u v : Value), bindArgs (PySem.W.fnOf "__init__" qual params body scope .none kV doc pm an cdv ct) ⟨[u, v], []⟩ = pure ((["self", c.f] : List Str).zip [u, v]))
    (hk : ∀ (kV doc pm : Value) (an : Option Addr) (cdv ct u v : Value), bindArgs (PySem.W.fnOf "__init__" qual params body scope .none kV doc pm an cdv ct) ⟨[u], [(c.f, v)]⟩ = pure ((["self", c.f] : List Str).zip [u, v])) :
    ErrC P w K mg base c.b c.x c.f (ga K c.x) := by
  obtain ⟨h1, o⟩ := ba o
  obtain ⟨h2, o⟩ := ba o
  obtain ⟨h3, o⟩ := ba o
  obtain ⟨h4, o⟩ := ba o
  obtain ⟨h5, h6⟩ := ba o
  refine ⟨xcB_ok h1, PySem.W.mg_of X G (eqO_ok h2), eqO_ok h3, _, fd, eqO_ok h5, of_decide_eq_true h6, ok_init1 F B S l1 l2 e1 e2, ?_, ?_⟩
  all_goals obtain ⟨⟨oc, od, dV, kV, doc, pm, an, cdv, ct, osl, e, lk, hc, hD, _⟩, kp⟩ := F
  all_goals have e0 := dfl_none hD
  all_goals subst e0 e
  · exact ⟨fun s us ws _ hl => match us, hl with
      | [u, v], _ => .of_eq (hb kV doc pm an cdv ct u v), fun r _ => r⟩
  · refine ⟨fun s us ws _ hl => ?_, kw1_rel⟩
    match us, ws, hl with
    | [u], [v], _ => exact .of_eq (hk kV doc pm an cdv ct u v)
theorem errC2_of (X : K.In h) (G : h.Ns mainGlobals mg) {c : EC} (o : c.ok K = true) {qual : Str} {params : Arguments} {body : List Stmt} {scope : Scope} (F : FunD K "__init__" qual params body scope [] [] (ma K (ga K c.x) "__init__") fd)
    (B : Init2 c.f c.g body) (S : FnScope ["self", c.f, c.g] ["self", c.f, c.g] scope) (l1 : scope.names.lookup ("self" : Str) = some .local) (l2 : scope.names.lookup c.f = some .local) (l3 : scope.names.lookup c.g = some .local)
    (e1 : (c.f == ("__debug__" : Str)) = false) (e2 : (c.f == ("__classdict__" : Str)) = false) (e3 : (c.g == ("__debug__" : Str)) = false) (e4 : (c.g == ("__classdict__" : Str)) = false)
    (hb : ∀ (kV doc pm : Value) (an : Option Addr) (cdv ct u v z : Value), bindArgs (PySem.W.fnOf "__init__" qual params body scope .none kV doc pm an cdv ct) ⟨[u, v, z], []⟩ = pure ((["self", c.f, c.g] : List Str).zip [u, v, z]))
    (hk : ∀ (kV doc pm : Value) (an : Option Addr) (cdv ct u v z : Value), bindArgs (PySem.W.fnOf "__init__" qual params body scope .none kV doc pm an cdv ct) ⟨[u], [(c.g, z), (c.f, v)]⟩ = pure ((["self", c.f, c.g] : List Str).zip [u, v, z])) :
    ErrC2 P w K mg base c.b c.x c.f c.g (ga K c.x) := by
  obtain ⟨h1, o⟩ := ba o
  obtain ⟨h2, o⟩ := ba o
  obtain ⟨h3, o⟩ := ba o
  obtain ⟨h4, o⟩ := ba o
  obtain ⟨h5, h6⟩ := ba o
  refine ⟨xcB_ok h1, PySem.W.mg_of X G (eqO_ok h2), eqO_ok h3, eqO_ok h4, _, fd, eqO_ok h5, of_decide_eq_true h6, ok_init2 F B S l1 l2 l3 e1 e2 e3 e4, ?_, ?_⟩
  all_goals obtain ⟨⟨oc, od, dV, kV, doc, pm, an, cdv, ct, osl, e, lk, hc, hD, _⟩, kp⟩ := F
  all_goals have e0 := dfl_none hD
  all_goals subst e0 e
  · exact ⟨fun s us ws _ hl => match us, hl with
      | [u, v, z], _ => .of_eq (hb kV doc pm an cdv ct u v z), fun r _ => r⟩
  · refine ⟨fun s us ws _ hl => ?_, kw2_rel⟩
    match us, ws, hl with
    | [u], [z, v], _ => exact .of_eq (hk kV doc pm an cdv ct u v z)
theorem isB_ok {cs : List Str} {x : Str} {d : Nat} : ∀ {l : List Str} {i j : Nat} {y : Str}, isB K cs x d i l = true → l[j]? = some y → kitOne K (.ref (ga K x)) (.ref (ga K y)) = some (decide (i + j = d))
  | [], _, _, _, _, e => by simp at e
  | z :: l, i, 0, y, h, e => by
    simp at e
    subst e
    exact of_decide_eq_true (ba h).1
  | z :: l, i, j + 1, y, h, e => by
    have q := isB_ok (j := j) (ba h).2 (by simpa using e)
    rw [show i + (j + 1) = i + 1 + j by omega]
    exact q
theorem isAll_ok {cs : List Str} : ∀ {l : List Str} {d i : Nat} {x : Str}, isAll K cs d l = true → l[i]? = some x → ∀ {j : Nat} {y : Str}, cs[j]? = some y → kitOne K (.ref (ga K x)) (.ref (ga K y)) = some (decide (j = d + i))
  | [], _, _, _, _, e, _, _, _ => by simp at e
  | z :: l, d, 0, x, h, e, j, y, e2 => by
    simp at e
    subst e
    have q := isB_ok (ba h).1 e2
    rw [Nat.zero_add] at q
    exact q
  | z :: l, d, i + 1, x, h, e, j, y, e2 => by
    have q := isAll_ok (i := i) (ba h).2 (by simpa using e) e2
    rw [show d + (i + 1) = d + 1 + i by omega]
    exact q
end
end Vx

/-! ## G9 -/
set_option Elab.async false
set_option linter.all false
set_option maxRecDepth 100000
set_option maxHeartbeats 4000000
namespace Vx
open PySem PySem.Spec PyProof.Rows L2 He
open PySem.W PySem.Calls
/-- the pot at p: two counts -/
def Pot (p : Addr) (H : Hp) : Prop := ∃ a b : Int, H p = some (.lst [.int a, .int b]) ∧ 0 ≤ a ∧ 0 ≤ b ∧ b < 2147483648
/-- the heap without the pot -/
def off (p : Addr) (H : Hp) : Hp := fun b => if b = p then none else H b
theorem off_ne {p a : Addr} {H : Hp} (h : a ≠ p) : off p H a = H a := if_neg h
theorem off_at {p : Addr} {H : Hp} : off p H p = none := if_pos rfl
theorem off_some {p a : Addr} {H : Hp} {o : HO} (h : off p H a = some o) : a ≠ p ∧ H a = some o := by
  by_cases e : a = p
  · rw [e, off_at] at h
    cases h
  · rw [off_ne e] at h
    exact ⟨e, h⟩
theorem off_same {p : Addr} {H : Hp} : Same (off p H) H := fun a o h => (off_some h).2
/-- all but the pot is kept, and the pot is one -/
structure Stp (p : Addr) (H H' : Hp) : Prop where
  pot : Pot p H'
  k : Same (off p H) (off p H')
theorem same_off {p : Addr} {H H' : Hp} (h : Same H H') : Same (off p H) (off p H') := fun a o e => by
  obtain ⟨n, e⟩ := off_some e
  rw [off_ne n]
  exact h a o e
theorem Pot.keep {p : Addr} {H H' : Hp} (h : Pot p H) (s : Same H H') : Pot p H' := by
  obtain ⟨a, b, e, r⟩ := h
  exact ⟨a, b, s _ _ e, r⟩
theorem Stp.refl {p : Addr} {H : Hp} (h : Pot p H) : Stp p H H := ⟨h, Same.refl _⟩
theorem Stp.trans {p : Addr} {H H1 H2 : Hp} (a : Stp p H H1) (b : Stp p H1 H2) : Stp p H H2 := ⟨b.pot, a.k.trans b.k⟩
theorem Stp.same {p : Addr} {H H1 H2 : Hp} (a : Stp p H H1) (b : Same H1 H2) : Stp p H H2 := ⟨a.pot.keep b, a.k.trans (same_off b)⟩
theorem same_new {H : Hp} {a : Addr} {o : HO} (h : H a = none) : Same H (upd H a o) := fun b u e => by
  rw [upd_ne (ne_of_none e h)]
  exact e
/-- what is written at the pot -/
theorem Stp.put {p : Addr} {H H1 : Hp} {a b : Int} (s : Same (off p H) (off p H1)) (h0 : 0 ≤ a) (h1 : 0 ≤ b) (h2 : b < 2147483648) : Stp p H (upd H1 p (.lst [.int a, .int b])) :=
  ⟨⟨a, b, upd_same, h0, h1, h2⟩, fun c o e => by
    have q := s c o e
    obtain ⟨n, q⟩ := off_some q
    rw [off_ne n, upd_ne n]
    exact q⟩

theorem log2_small {n : Int} (h1 : 1 ≤ n) (h2 : n < 2 ^ 200) : n.natAbs.log2 < 9000 := by
  have h3 : n.natAbs < 2 ^ 200 := by omega
  exact Nat.lt_of_lt_of_le (PySem.Flt.log2_lt_of (by decide) h3) (by decide)

/-! ### a def of the text, as its callers see it -/
/-- the built-ins' names are free -/
structure BI (mg : Str → Option Value) : Prop where
  abs : mg "abs" = none
  max : mg "max" = none
  min : mg "min" = none
  int : mg "int" = none
  str : mg "str" = none
  len : mg "len" = none
  divmod : mg "divmod" = none
  isinstance : mg "isinstance" = none
  repr : mg "repr" = none
  all : mg "all" = none
  any : mg "any" = none
  sorted : mg "sorted" = none
  set : mg "set" = none
  list : mg "list" = none
  tuple : mg "tuple" = none
  dict : mg "dict" = none
  range : mg "range" = none
  enumerate : mg "enumerate" = none
  zip : mg "zip" = none
  sum : mg "sum" = none
  bool : mg "bool" = none
  reversed : mg "reversed" = none
  ValueError : mg "ValueError" = none
  LookupError : mg "LookupError" = none
  RuntimeError : mg "RuntimeError" = none
  ArithmeticError : mg "ArithmeticError" = none
/-- their facts, in that order -/
def biFa : List Fa := [.free "abs", .free "max", .free "min", .free "int", .free "str", .free "len", .free "divmod", .free "isinstance", .free "repr", .free "all", .free "any", .free "sorted", .free "set", .free "list", .free "tuple", .free "dict", .free "range", .free "enumerate", .free "zip", .free "sum", .free "bool", .free "reversed", .free "ValueError", .free "LookupError", .free "RuntimeError", .free "ArithmeticError"]
theorem bi_of {K : PySem.W.Frag} {mg : Str → Option Value} {h : Heap} (X : K.In h) (G : h.Ns mainGlobals mg) (c : ∀ (i : Nat) (f : Fa), biFa[i]? = some f → f.ok K = true) : BI mg :=
  ⟨free_ok X G (c 0 _ rfl), free_ok X G (c 1 _ rfl), free_ok X G (c 2 _ rfl), free_ok X G (c 3 _ rfl), free_ok X G (c 4 _ rfl), free_ok X G (c 5 _ rfl), free_ok X G (c 6 _ rfl), free_ok X G (c 7 _ rfl), free_ok X G (c 8 _ rfl), free_ok X G (c 9 _ rfl), free_ok X G (c 10 _ rfl), free_ok X G (c 11 _ rfl), free_ok X G (c 12 _ rfl), free_ok X G (c 13 _ rfl), free_ok X G (c 14 _ rfl), free_ok X G (c 15 _ rfl), free_ok X G (c 16 _ rfl), free_ok X G (c 17 _ rfl), free_ok X G (c 18 _ rfl), free_ok X G (c 19 _ rfl), free_ok X G (c 20 _ rfl), free_ok X G (c 21 _ rfl), free_ok X G (c 22 _ rfl), free_ok X G (c 23 _ rfl), free_ok X G (c 24 _ rfl), free_ok X G (c 25 _ rfl)⟩
theorem bt_abs : bootBuiltins "abs" = some (.builtin "abs") := by decide +kernel
theorem bt_max : bootBuiltins "max" = some (.builtin "max") := by decide +kernel
theorem bt_min : bootBuiltins "min" = some (.builtin "min") := by decide +kernel
theorem bt_len : bootBuiltins "len" = some (.builtin "len") := by decide +kernel
theorem bt_divmod : bootBuiltins "divmod" = some (.builtin "divmod") := by decide +kernel
theorem bt_isinstance : bootBuiltins "isinstance" = some (.builtin "isinstance") := by decide +kernel
theorem bt_repr : bootBuiltins "repr" = some (.builtin "repr") := by decide +kernel
theorem bt_all : bootBuiltins "all" = some (.builtin "all") := by decide +kernel
theorem bt_any : bootBuiltins "any" = some (.builtin "any") := by decide +kernel
theorem bt_sorted : bootBuiltins "sorted" = some (.builtin "sorted") := by decide +kernel
theorem bt_sum : bootBuiltins "sum" = some (.builtin "sum") := by decide +kernel
theorem bt_int : bootBuiltins "int" = some (.type "int") := by decide +kernel
theorem bt_str : bootBuiltins "str" = some (.type "str") := by decide +kernel
theorem bt_set : bootBuiltins "set" = some (.type "set") := by decide +kernel
theorem bt_list : bootBuiltins "list" = some (.type "list") := by decide +kernel
theorem bt_tuple : bootBuiltins "tuple" = some (.type "tuple") := by decide +kernel
theorem bt_dict : bootBuiltins "dict" = some (.type "dict") := by decide +kernel
theorem bt_range : bootBuiltins "range" = some (.type "range") := by decide +kernel
theorem bt_enumerate : bootBuiltins "enumerate" = some (.type "enumerate") := by decide +kernel
theorem bt_zip : bootBuiltins "zip" = some (.type "zip") := by decide +kernel
theorem bt_bool : bootBuiltins "bool" = some (.type "bool") := by decide +kernel
theorem bt_reversed : bootBuiltins "reversed" = some (.type "reversed") := by decide +kernel
theorem bt_ValueError : bootBuiltins "ValueError" = some (.type "ValueError") := by decide +kernel
theorem bt_LookupError : bootBuiltins "LookupError" = some (.type "LookupError") := by decide +kernel
theorem bt_RuntimeError : bootBuiltins "RuntimeError" = some (.type "RuntimeError") := by decide +kernel
theorem bt_ArithmeticError : bootBuiltins "ArithmeticError" = some (.type "ArithmeticError") := by decide +kernel
/-- where the def x stands -/
structure At (K : PySem.W.Frag) (mg : Str → Option Value) (x : Str) (st : Stmt) : Prop where
  ex : ∃ (f : Addr) (fd : FuncData), Fun K x x st f fd ∧ mg x = some (.ref f)
/-- the def x, wherever no repr is open: its promise -/
structure Cd (P : Program) (w : World) (K : PySem.W.Frag) (mg : Str → Option Value) (base : Heap) (k : Nat) (x : Str) (ps : List Str) (sp : Sp) : Prop where
  ex : ∃ (f : Addr) (fd : FuncData), FnG P w K mg base CX0 k f fd ps sp ∧ mg x = some (.ref f) ∧ keepIn K (.ref f) = true ∧ Binds K fd ps []
section
variable {P : Program} {w : World} {K : PySem.W.Frag} {mg : Str → Option Value} {base : Heap} {k : Nat} {x : Str} {ps : List Str} {sp : Sp} {st : Stmt} {N : List Str}
theorem cd_mk (F : At K mg x st) (S : FnScope N ps (defScope st)) (len : ∀ vs H Q E, sp vs H Q E → vs.length = ps.length)
    (hb : ∀ (kV doc pm : Value) (an : Option Addr) (cdv ct : Value) (us : List Value), us.length = ps.length → bindArgs (PySem.W.fnOf x x (defArgs st) (defBody st) (defScope st) .none kV doc pm an cdv ct) ⟨us, []⟩ = pure (ps.zip us))
    (hbody : ∀ (f : Addr) (cdv : Value) (A : Around) (outer : List Env) (s : Shared) (H : Hp) (vs : List V) (Q : VK) (E : XK),
      Room k (A.deeper (envOfC x (defScope st) s.heap.objs.size f cdv)) → Gd (A.deeper (envOfC x (defScope st) s.heap.objs.size f cdv)) → sp vs H Q E →
      ∃ t, PSs (cxOf CX0 P w K mg base N x (defScope st) f cdv A outer s H E).nox (defBody st) t ∧ t { nx := fun _ H' => Q .non H', rt := Q } (start N vs) H) :
    Cd P w K mg base (k + 1) x ps sp := by
  obtain ⟨f, fd, F, gf⟩ := F.ex
  refine ⟨f, fd, okG F S len (fun cdv A outer s H vs Q E hr hG h => ?_), gf, F.kp, F.binds hb⟩
  obtain ⟨t, h1, h2⟩ := hbody f cdv A outer s H vs Q E hr hG h
  exact ⟨t, h1.nox, h2⟩
theorem Cd.up {j : Nat} (C : Cd P w K mg base j x ps sp) (h : j ≤ k) : Cd P w K mg base k x ps sp := by
  obtain ⟨f, fd, F, r⟩ := C.ex
  exact ⟨f, fd, F.up h, r⟩
end
section
variable {X : Cx} {k : Nat} {x : Str} {ps : List Str} {sp : Sp} {p pos : Pos} {e : Expr} {es : List Expr} {t : TA}
/-- f(e, ..) -/
theorem pe_cd (C : Cd X.prog X.w X.K X.mg X.base k x ps sp) (hr : Room k X.A) (hG : Gd X.A) (hg : Gl X x) (ha : PA X (e :: es) t)
    (hdb : (x == ("__debug__" : Str)) = false := by decide) (he : starEach (e :: es) X.env = (false, eval e X.env) :: starEach es X.env := by rfl)
    (hpl : (backTo pos (starEach es X.env)).any (·.1) = false := by rfl) : PE X (.Call (.Name x p) (e :: es) [] pos) (tCall sp [] E0 t) := by
  obtain ⟨f, fd, F, gf, kf, b⟩ := C.ex
  exact pe_callG F hr hG hg gf kf b .nil pass0 ha hdb he hpl
end
end Vx
namespace Vx
open PySem PySem.Spec PyProof.Rows L2 He
open PySem.W PySem.Calls
/-! ### data beside a pot -/
section
variable {K : PySem.W.Frag} {p a : Addr} {H H' : Hp} {xs : List V} {ds : List PyData} {o : HO}
theorem Pot.new (h : Pot p H) (n : H a = none) : a ≠ p := by
  obtain ⟨x, y, e, _⟩ := h
  exact (ne_of_none e n).symm
theorem Pot.upd (h : Pot p H) (n : H a = none) : Pot p (upd H a o) := h.keep (same_new n)
theorem stp_new (h : Pot p H) (n : H a = none) : Stp p H (upd H a o) := (Stp.refl h).same (same_new n)
theorem off_new (h : Pot p H) (n : H a = none) : off p (upd H a o) a = some o := by rw [off_ne (h.new n), upd_same]
theorem Da.newL (h : Pot p H) (n : H a = none) (g : Das K (off p H) xs ds) : Da K (off p (upd H a (.lst xs))) (.ref a) (.list ds) :=
  .lst (SqL.of (off_new h n)) (g.mono (stp_new h n).k)
theorem Da.newT (h : Pot p H) (n : H a = none) (g : Das K (off p H) xs ds) : Da K (off p (upd H a (.tup xs))) (.ref a) (.tuple ds) :=
  .tup (SqT.of (off_new h n)) (g.mono (stp_new h n).k)
theorem Das.mem : ∀ {vs : List V} {ds : List PyData} {v : V}, Das K H vs ds → v ∈ vs → ∃ d ∈ ds, Da K H v d
  | _, _, _, .nil, h => nomatch h
  | _, _, v, .cons (d := d) a b, h => by
    rcases List.mem_cons.mp h with rfl | h
    · exact ⟨d, List.mem_cons_self .., a⟩
    · obtain ⟨e, he, r⟩ := Das.mem b h
      exact ⟨e, List.mem_cons_of_mem _ he, r⟩
end
/-- data of a small text -/
def Sm (n : Nat) (d : PyData) : Prop := d.showable = true ∧ d.depth ≤ 20 ∧ d.shown.length ≤ n
/-! ### the helpers of every law: a pot, a draw, a choice -/
def spDraw : Sp := fun vs H Q _ => ∃ (p : Addr) (n : Int), vs = [.ref p, .int n] ∧ Pot p H ∧ 1 ≤ n ∧ n < 2 ^ 200 ∧ ∀ (d : Int) H', Stp p H H' → 0 ≤ d → d < n → Q (.int d) H'
def spPick (K : PySem.W.Frag) : Sp := fun vs H Q _ => ∃ (p m : Addr) (xs : List V), vs = [.ref p, .ref m] ∧ Pot p H ∧ SqL K (off p H) m xs ∧ 1 ≤ xs.length ∧ xs.length ≤ 1000 ∧ ∀ (x : V) H', Stp p H H' → x ∈ xs → Q x H'
def spPot (K : PySem.W.Frag) : Sp := fun vs H Q _ => ∃ (a : Addr) (k : Int) (ns : List Int), vs = [.ref a, .int k] ∧ SqL K H a (ns.map V.int) ∧ 0 ≤ k ∧ k < 1000 ∧ ns.length ≤ 1000 ∧ ∀ p H', H p = none → Same H H' → Pot p H' → Q (.ref p) H'
end Vx

/-! ## G10 -/
set_option Elab.async false
set_option linter.all false
set_option maxRecDepth 100000
set_option maxHeartbeats 4000000
namespace Vx
open PySem PySem.Spec PyProof.Rows L2 He
open PySem.W PySem.Calls

/-- a class without an __init__ of its own -/
structure Err0 (K : PySem.W.Frag) (mg : Str → Option Value) (b : XB) (x : Str) (C : Addr) : Prop where
  T : XcC b K C
  hm : mg x = some (.ref C)
  q : excIn K C b.bm b.nw = true
theorem err0_of {K : PySem.W.Frag} {mg : Str → Option Value} {h : Heap} (X : K.In h) (G : h.Ns mainGlobals mg) {c : EC} (o : c.ok0 K = true) : Err0 K mg c.b c.x (ga K c.x) := by
  obtain ⟨h1, o⟩ := ba o
  obtain ⟨h2, h3⟩ := ba o
  exact ⟨xcB_ok h1, PySem.W.mg_of X G (eqO_ok h2), h3⟩
section
variable {b : XB} {X : Cx} {x : Str} {p pos : Pos} {C : Addr}
theorem pe_err0 (T : Err0 X.K X.mg b x C) (hg : Gl X x) (hdb : (x == ("__debug__" : Str)) = false := by decide) :
    PE X (.Call (.Name x p) [] [] pos) (fun _ H Q => ∀ a, H a = none → Q (.ref a) (upd H a (exo a C none))) := pe_x0 b.F T.q T.hm T.T.kC hg hdb
end

/-! ### lists of errors -/
theorem XO.mono {H H' : Hp} (s : Same H H') {a C : Addr} {fs : List (Str × V)} (h : XO H a C fs) : XO H' a C fs := by
  obtain ⟨d, h1, h2⟩ := h
  exact ⟨d, s _ _ h1, s _ _ h2⟩
theorem XI.mono {H H' : Hp} (s : Same H H') {a C : Addr} (h : XI H a C) : XI H' a C := by
  rcases h with h | ⟨fs, h⟩
  · exact .inl (s _ _ h)
  · exact .inr ⟨fs, h.mono s⟩
/-- at as: errors of these classes, each with y at its attribute -/
abbrev XOs (H : Hp) (y : V) : List Addr → List (Addr × Str) → Prop := Paired fun a p => XO H a p.1 [(p.2, y)]
theorem XOs.mono {H H' : Hp} (s : Same H H') {y : V} : ∀ {as : List Addr} {L : List (Addr × Str)}, XOs H y as L → XOs H' y as L
  | _, _, .nil => .nil
  | _, _, .cons a r => .cons (a.mono s) (XOs.mono s r)
theorem paired_app {α β : Type} {F : α → β → Prop} : ∀ {as bs : List α} {L M : List β}, Paired F as L → Paired F bs M → Paired F (as ++ bs) (L ++ M)
  | _, _, _, _, .nil, h => h
  | _, _, _, _, .cons a r, h => .cons a (paired_app r h)
theorem paired_len {α β : Type} {F : α → β → Prop} : ∀ {as : List α} {L : List β}, Paired F as L → as.length = L.length
  | _, _, .nil => rfl
  | _, _, .cons _ r => by rw [List.length_cons, List.length_cons, paired_len r]
theorem paired_take {α β : Type} {F : α → β → Prop} : ∀ {as : List α} {L : List β} (n : Nat), Paired F as L → Paired F (as.take n) (L.take n)
  | _, _, 0, _ => .nil
  | _, _, _ + 1, .nil => .nil
  | _, _, n + 1, .cons a r => .cons a (paired_take n r)
theorem paired_drop {α β : Type} {F : α → β → Prop} : ∀ {as : List α} {L : List β} (n : Nat), Paired F as L → Paired F (as.drop n) (L.drop n)
  | _, _, 0, h => h
  | _, _, _ + 1, .nil => .nil
  | _, _, n + 1, .cons a r => paired_drop n r
theorem paired_at {α β : Type} {F : α → β → Prop} : ∀ {as : List α} {L : List β} {i : Nat} {a : α}, Paired F as L → as[i]? = some a → ∃ b, L[i]? = some b ∧ F a b
  | _, _, _, _, .nil, e => by simp at e
  | _, _, 0, _, .cons (b := b) h r, e => by
    simp at e
    subst e
    exact ⟨b, rfl, h⟩
  | _, _, i + 1, _, .cons h r, e => by
    obtain ⟨b, h1, h2⟩ := paired_at (i := i) r (by simpa using e)
    exact ⟨b, by simpa using h1, h2⟩
/-- C1(y), C2(y), .. -/
def tErrs : List (Addr × Str) → TA
  | [] => tNil
  | p :: L => tCons (tE p.1 p.2 (tVar 0)) (tErrs L)
section
variable {σ : L2.St} {H : Hp} {y : V}
theorem errs_read : ∀ {L : List (Addr × Str)} {H : Hp} {Q : List V → Hp → Prop}, σ[0]? = some (some y) → (∀ as H', Same H H' → XOs H' y as L → Q (as.map V.ref) H') → tErrs L σ H Q
  | [], H, _, _, q => q [] H (Same.refl _) .nil
  | p :: L, H, Q, h0, q => by
    refine ⟨y, h0, fun a H2 _ s x => ?_⟩
    refine errs_read (L := L) h0 fun as H3 s3 r => ?_
    exact q (a :: as) H3 (s.trans s3) (.cons (x.mono s3) r)
theorem lst_read {L : List (Addr × Str)} {Q : VK} (h0 : σ[0]? = some (some y)) (hl : L.length ≤ 1000)
    (q : ∀ p as H', H p = none → Same H H' → H' p = some (.lst (as.map V.ref)) → XOs H' y as L → Q (.ref p) H') : tLst (tErrs L) σ H Q := by
  refine errs_read h0 fun as H1 s r => ⟨by rw [List.length_map, paired_len r]; exact Nat.le_of_lt (small1000 hl), fun p hp => ?_⟩
  exact q p as _ (s.free hp) (s.trans (same_new hp)) upd_same (r.mono (same_new hp))
theorem cat_read {L M : List (Addr × Str)} {Q : VK} {p0 : Addr} {as : List Addr} (h0 : σ[0]? = some (some y)) (h1 : σ[1]? = some (some (.ref p0))) (hp0 : H p0 = some (.lst (as.map V.ref))) (r0 : XOs H y as M)
    (hl : M.length ≤ 500) (hl2 : L.length ≤ 500) (q : ∀ p bs H', H p = none → Same H H' → H' p = some (.lst (bs.map V.ref)) → XOs H' y bs (M ++ L) → Q (.ref p) H') : tOp rCat (tVar 1) (tLst (tErrs L)) σ H Q := by
  refine ⟨_, h1, lst_read (L := L) h0 (by omega) fun p bs H1 hp s e r => ?_⟩
  refine ⟨p0, p, _, _, rfl, rfl, s _ _ hp0, e, ?_, fun p2 hp2 => ?_⟩
  · have e1 := paired_len r0
    have e2 := paired_len r
    rw [List.length_map, List.length_map]
    exact Nat.le_of_lt (small1000 (by omega))
  · refine q p2 (as ++ bs) _ (s.free hp2) (s.trans (same_new hp2)) ?_ (paired_app (r0.mono (s.trans (same_new hp2))) (r.mono (same_new hp2)))
    rw [upd_same, List.map_append]
theorem asg_lst {L : List (Addr × Str)} {t : TS} {D : Ends} (h0 : σ[0]? = some (some y)) (hl : L.length ≤ 1000)
    (q : ∀ p as H', H p = none → Same H H' → H' p = some (.lst (as.map V.ref)) → XOs H' y as L → t D (σ.set 1 (some (.ref p))) H') : tSeq (tAsg (tLst (tErrs L)) (gName 1)) t D σ H :=
  lst_read (L := L) (Q := fun v H' => t D (σ.set 1 (some v)) H') h0 hl q
theorem asg_cat {L M : List (Addr × Str)} {t : TS} {D : Ends} {p0 : Addr} {as : List Addr} (h0 : σ[0]? = some (some y)) (h1 : σ[1]? = some (some (.ref p0))) (hp0 : H p0 = some (.lst (as.map V.ref))) (r0 : XOs H y as M)
    (hl : M.length ≤ 500) (hl2 : L.length ≤ 500) (q : ∀ p bs H', H p = none → Same H H' → H' p = some (.lst (bs.map V.ref)) → XOs H' y bs (M ++ L) → t D (σ.set 1 (some (.ref p))) H') :
    tSeq (tAsg (tOp rCat (tVar 1) (tLst (tErrs L))) (gName 1)) t D σ H :=
  cat_read (L := L) (Q := fun v H' => t D (σ.set 1 (some v)) H') h0 h1 hp0 r0 hl hl2 q
theorem ret_cat {L M : List (Addr × Str)} {D : Ends} {p0 : Addr} {as : List Addr} (h0 : σ[0]? = some (some y)) (h1 : σ[1]? = some (some (.ref p0))) (hp0 : H p0 = some (.lst (as.map V.ref))) (r0 : XOs H y as M)
    (hl : M.length ≤ 500) (hl2 : L.length ≤ 500) (q : ∀ p bs H', H p = none → Same H H' → H' p = some (.lst (bs.map V.ref)) → XOs H' y bs (M ++ L) → D.rt (.ref p) H') :
    tRet (tOp rCat (tVar 1) (tLst (tErrs L))) D σ H :=
  cat_read (L := L) (Q := D.rt) h0 h1 hp0 r0 hl hl2 q
end
/-- a def that makes errors of its one argument -/
def spErrs (L : List (Addr × Str)) : Sp := fun vs H Q _ => ∃ y, vs = [y] ∧ ∀ p as H', H p = none → Same H H' → H' p = some (.lst (as.map V.ref)) → XOs H' y as L → Q (.ref p) H'
end Vx

/-! ## G11 -/
set_option Elab.async false
set_option linter.all false
set_option maxRecDepth 100000
set_option maxHeartbeats 4000000
namespace Vx
open PySem PySem.Spec PyProof.Rows L2 He
open PySem.W PySem.Calls
/-- a class that isinstance is asked of: an own one, a built-in one -/
inductive CE where
  | own (x : Str)
  | ty (n : String)
def CE.v (K : PySem.W.Frag) : CE → V
  | .own x => .ref (ga K x)
  | .ty n => .ty n
def CE.u (K : PySem.W.Frag) : CE → Value
  | .own x => .ref (ga K x)
  | .ty n => .type n
theorem CE.rel {K : PySem.W.Frag} : ∀ {c : CE} {u : Value}, RelV (c.v K) u → u = c.u K
  | .own _, _, r => r
  | .ty _, _, r => r
/-- isinstance(e, C1), isinstance(e, C2), .. -/
def tIs (K : PySem.W.Frag) : List CE → TA
  | [] => tNil
  | c :: L => tCons (tCB (rIsX K) (tCons (tVar 0) (tCons (tC (c.v K)) tNil))) (tIs K L)
section
variable {K : PySem.W.Frag} {σ : L2.St} {H : Hp} {a C : Addr} {b : XB}
theorem is_read (h0 : σ[0]? = some (some (.ref a))) (hx : XI H a C) (T : XcC b K C) {g : CE → Bool} : ∀ {L : List CE} {Q : List V → Hp → Prop}, (∀ c ∈ L, kitOne K (.ref C) (c.u K) = some (g c)) →
    Q (L.map fun c => V.bl (g c)) H → tIs K L σ H Q
  | [], _, _, q => q
  | c :: L, Q, hg, q => ⟨_, h0, a, C, b, c.v K, c.u K, g c, rfl, hx, T, fun _ r => CE.rel r, hg c (List.mem_cons_self ..), is_read h0 hx T (L := L) (fun d hd => hg d (List.mem_cons_of_mem _ hd)) q⟩
theorem asg_is {L : List CE} {t : TS} {D : Ends} {g : CE → Bool} (h0 : σ[0]? = some (some (.ref a))) (hx : XI H a C) (T : XcC b K C) (hg : ∀ c ∈ L, kitOne K (.ref C) (c.u K) = some (g c)) (hl : L.length ≤ 1000)
    (q : ∀ p H', H p = none → Same H H' → H' p = some (.lst (L.map fun c => V.bl (g c))) → t D (σ.set 1 (some (.ref p))) H') : tSeq (tAsg (tLst (tIs K L)) (gName 1)) t D σ H :=
  is_read h0 hx T (L := L) (Q := fun xs H1 => xs.length ≤ sizeLine ∧ ∀ p, H1 p = none → t D (σ.set 1 (some (.ref p))) (upd H1 p (.lst xs))) hg
    ⟨by rw [List.length_map]; exact Nat.le_of_lt (small1000 hl), fun p hp => q p _ hp (same_new hp) upd_same⟩
theorem cat_is {L M : List CE} {Q : VK} {g : CE → Bool} {p0 : Addr} (h0 : σ[0]? = some (some (.ref a))) (h1 : σ[1]? = some (some (.ref p0))) (e0 : H p0 = some (.lst (M.map fun c => V.bl (g c)))) (hx : XI H a C) (T : XcC b K C)
    (hg : ∀ c ∈ L, kitOne K (.ref C) (c.u K) = some (g c)) (hm : M.length ≤ 500) (hl : L.length ≤ 500)
    (q : ∀ p H', H p = none → Same H H' → H' p = some (.lst ((M ++ L).map fun c => V.bl (g c))) → Q (.ref p) H') : tOp rCat (tVar 1) (tLst (tIs K L)) σ H Q := by
  refine ⟨_, h1, is_read h0 hx T (L := L) hg ⟨by rw [List.length_map]; exact Nat.le_of_lt (small1000 (by omega)), fun p hp => ?_⟩⟩
  refine ⟨p0, p, _, _, rfl, rfl, same_new hp _ _ e0, upd_same, ?_, fun p2 hp2 => ?_⟩
  · rw [List.length_map, List.length_map]
    exact Nat.le_of_lt (small1000 (by omega))
  · refine q p2 _ ((same_new hp).free hp2) ((same_new hp).trans (same_new hp2)) ?_
    rw [upd_same, List.map_append]
theorem asg_catI {L M : List CE} {t : TS} {D : Ends} {g : CE → Bool} {p0 : Addr} (h0 : σ[0]? = some (some (.ref a))) (h1 : σ[1]? = some (some (.ref p0))) (e0 : H p0 = some (.lst (M.map fun c => V.bl (g c)))) (hx : XI H a C) (T : XcC b K C)
    (hg : ∀ c ∈ L, kitOne K (.ref C) (c.u K) = some (g c)) (hm : M.length ≤ 500) (hl : L.length ≤ 500)
    (q : ∀ p H', H p = none → Same H H' → H' p = some (.lst ((M ++ L).map fun c => V.bl (g c))) → t D (σ.set 1 (some (.ref p))) H') : tSeq (tAsg (tOp rCat (tVar 1) (tLst (tIs K L))) (gName 1)) t D σ H :=
  cat_is (Q := fun v H' => t D (σ.set 1 (some v)) H') h0 h1 e0 hx T hg hm hl q
theorem ret_catI {L M : List CE} {D : Ends} {g : CE → Bool} {p0 : Addr} (h0 : σ[0]? = some (some (.ref a))) (h1 : σ[1]? = some (some (.ref p0))) (e0 : H p0 = some (.lst (M.map fun c => V.bl (g c)))) (hx : XI H a C) (T : XcC b K C)
    (hg : ∀ c ∈ L, kitOne K (.ref C) (c.u K) = some (g c)) (hm : M.length ≤ 500) (hl : L.length ≤ 500)
    (q : ∀ p H', H p = none → Same H H' → H' p = some (.lst ((M ++ L).map fun c => V.bl (g c))) → D.rt (.ref p) H') : tRet (tOp rCat (tVar 1) (tLst (tIs K L))) D σ H :=
  cat_is (Q := D.rt) h0 h1 e0 hx T hg hm hl q
end
/-- a def that asks isinstance of these classes -/
def spIs (K : PySem.W.Frag) (L : List CE) : Sp := fun vs H Q _ => ∃ (a C : Addr) (b : XB) (g : CE → Bool), vs = [.ref a] ∧ XI H a C ∧ XcC b K C ∧ (∀ c ∈ L, kitOne K (.ref C) (c.u K) = some (g c)) ∧
  ∀ p H', H p = none → Same H H' → H' p = some (.lst (L.map fun c => V.bl (g c))) → Q (.ref p) H'
end Vx

/-! ## G12 -/
set_option Elab.async false
set_option linter.all false
set_option maxRecDepth 100000
set_option maxHeartbeats 4000000
namespace Vx
open PySem PySem.Spec PyProof.Rows L2 He
open PySem.W PySem.Calls
/-- the classes' attributes are read as they were kept -/
def Rdy (K : PySem.W.Frag) (f : Str) (L : List (Addr × Str)) : Prop := ∀ p ∈ L, p.2 = f ∧ (∃ b, XcC b K p.1) ∧ findIn K (.ref p.1) f = some none
theorem Rdy.app {K : PySem.W.Frag} {f : Str} {L M : List (Addr × Str)} (h : Rdy K f L) (g : Rdy K f M) : Rdy K f (L ++ M) := fun p hp => by
  rcases List.mem_append.mp hp with q | q
  · exact h p q
  · exact g p q
theorem Rdy.sub {K : PySem.W.Frag} {f : Str} {L M : List (Addr × Str)} (h : Rdy K f L) (s : ∀ p ∈ M, p ∈ L) : Rdy K f M := fun p hp => h p (s p hp)
theorem rep_snoc {α : Type} (n : Nat) (y : α) : List.replicate n y ++ [y] = List.replicate (n + 1) y := by
  rw [List.replicate_succ']
/-- e.f, the written part named (within a comprehension) -/
theorem pe_xa {X : Cx} {K : PySem.W.Frag} {n : Str} {e : Expr} {te : TE} {pos : Pos} (he : PE X e te) (hK : X.K = K := by rfl) (hb : attributeBase e n X.env (eval e X.env) = eval e X.env := by rfl) : PE X (.Attribute e n pos) (tXf K n te) := by
  subst hK
  exact pe_xf he hb
section
variable {K : PySem.W.Frag} {σ : L2.St} {H : Hp}
/-- [e.f for e in errors] -/
theorem attr_lc {p : Addr} {as : List Addr} {L : List (Addr × Str)} {y : V} {f : Str} {j : Nat} {vs : List Nat} {Q : VK} (hp : SqL K H p (as.map V.ref)) (r : XOs H y as L) (g : Rdy K f L) (hl : L.length ≤ 1000)
    (hw : ∀ x, wipe ((wipe σ vs).set j (some x)) vs = wipe σ vs) (hj : ∀ x, ((wipe σ vs).set j (some x))[j]? = some (some x))
    (q : ∀ D H', H D = none → Same H H' → H' D = some (.lst (List.replicate as.length y)) → Q (.ref D) H') : tLc (iList K (tC (.ref p))) (gName j) tYes (tXf K f (tVar j)) vs σ H Q := by
  refine ⟨p, rfl, ⟨_, hp⟩, fun D hD => lc_list (K := K) (a := p) (xs := as.map V.ref) (fun i H' => H D = none ∧ Same H H' ∧ H' D = some (.lst (List.replicate i y))) ⟨hD, same_new hD, upd_same⟩
    (fun i H' _ z => z.2.1.seq hp) (fun i x H' hi z => ⟨hw x, ?_⟩) fun H' z => ?_⟩
  · obtain ⟨z1, z2, z3⟩ := z
    rw [List.getElem?_map] at hi
    obtain ⟨a, ha, rfl⟩ := Option.map_eq_some_iff.mp hi
    obtain ⟨c, hc, x⟩ := paired_at r ha
    obtain ⟨rfl, ⟨b, T⟩, no⟩ := g c (List.mem_of_getElem? hc)
    have hi2 : i < L.length := (List.getElem?_eq_some_iff.mp hc).1
    refine ⟨_, hj _, b, a, c.1, _, y, rfl, x.mono z2, T, no, ?_, List.replicate i y, z3, ?_, z1, fun e o he => ?_, ?_⟩
    · rw [lookup_put, if_pos rfl]
    · rw [List.length_replicate]
      exact small1000 (by omega)
    · rw [upd_ne (ne_of_none he z1)]
      exact z2 e o he
    · rw [upd_same, rep_snoc]
  · refine q D H' z.1 z.2.1 ?_
    rw [z.2.2, List.length_map]
end
end Vx

/-! ## G13 -/
set_option Elab.async false
set_option linter.all false
set_option maxRecDepth 100000
set_option maxHeartbeats 4000000
namespace Vx
open PySem PySem.Spec PyProof.Rows L2 He
theorem sIx_nat (n d k : Nat) (h : k ≤ n) : HT.sIx n d (some (k : Int)) = k := by
  rw [HT.sIx_nat, Nat.min_eq_left h]
theorem cut_to {xs : List V} {k : Nat} (h : k ≤ xs.length) : cutV xs none (some (k : Int)) = xs.take k := by
  unfold cutV
  rw [sIx_nat _ _ _ h]
  rfl
theorem cut_from {xs : List V} {k : Nat} (h : k ≤ xs.length) : cutV xs (some (k : Int)) none = xs.drop k := by
  unfold cutV
  rw [sIx_nat _ _ _ h]
  show (xs.drop k).take (xs.length - k) = xs.drop k
  rw [List.take_of_length_le]
  rw [List.length_drop]
  omega
theorem cut_mid {xs : List V} {k m : Nat} (h : k ≤ xs.length) (h2 : m ≤ xs.length) : cutV xs (some (k : Int)) (some (m : Int)) = (xs.drop k).take (m - k) := by
  unfold cutV
  rw [sIx_nat _ _ _ h, sIx_nat _ _ _ h2]
/-! ### one step into a reading -/
section
variable {σ : L2.St} {H : Hp} {D : Ends} {t u : TS} {te ta tb : TE} {i : Nat} {r : R2} {Q : VK} {tc td : TT} {rb : List V → Hp → VK → Prop} {tas : TA} {G : Bool → Hp → Prop}
theorem in_set (h : te σ H fun v H1 => t D (σ.set i (some v)) H1) : tSeq (tAsg te (gName i)) t D σ H := h
theorem in_op (h : ta σ H fun x H1 => tb σ H1 fun y H2 => r x y H2 Q) : tOp r ta tb σ H Q := h
theorem in_ret (h : te σ H D.rt) : tRet te D σ H := h
theorem in_if (h : tc σ H fun b H1 => if b = true then t { D with nx := u D } σ H1 else u D σ H1) : tSeq (tIfS tc t tNext) u D σ H := h
theorem in_or (h : tc σ H fun c H1 => if c = true then G true H1 else td σ H1 G) : tOr tc td σ H G := h
theorem in_test (h : te σ H fun x H' => ∃ k, x = .bl k ∧ G k H') : tTest te σ H G := h
theorem in_cons {QL : List V → Hp → Prop} (h : te σ H fun x H1 => tas σ H1 fun xs H2 => QL (x :: xs) H2) : tCons te tas σ H QL := h
theorem in_cb (h : tas σ H fun vs H1 => rb vs H1 Q) : tCB rb tas σ H Q := h
end
section
variable {K : PySem.W.Frag} {σ : L2.St} {H : Hp}
theorem attr_any {tl : TE} {L : List (Addr × Str)} {y : V} {f : Str} {j : Nat} {vs : List Nat} {Q : VK} (htl : ∀ R : VK, (∀ p as H1, Same H H1 → SqL K H1 p (as.map V.ref) → XOs H1 y as L → R (.ref p) H1) → tl σ H R)
    (g : Rdy K f L) (hl : L.length ≤ 1000) (hw : ∀ x, wipe ((wipe σ vs).set j (some x)) vs = wipe σ vs) (hj : ∀ x, ((wipe σ vs).set j (some x))[j]? = some (some x))
    (q : ∀ D H', H D = none → Same H H' → H' D = some (.lst (List.replicate L.length y)) → Q (.ref D) H') : tLc (iList K tl) (gName j) tYes (tXf K f (tVar j)) vs σ H Q :=
  htl _ fun p as H1 s hp r => attr_lc (Q := Q) hp r g hl hw hj fun D H' n s' e => q D H' (s.free n) (s.trans s') (by rw [e, paired_len r])
theorem attr_v {i : Nat} {p : Addr} {as : List Addr} {L : List (Addr × Str)} {y : V} {f : Str} {j : Nat} {vs : List Nat} {Q : VK} (hv : σ[i]? = some (some (.ref p))) (hp : SqL K H p (as.map V.ref))
    (r : XOs H y as L) (g : Rdy K f L) (hl : L.length ≤ 1000) (hw : ∀ x, wipe ((wipe σ vs).set j (some x)) vs = wipe σ vs) (hj : ∀ x, ((wipe σ vs).set j (some x))[j]? = some (some x))
    (q : ∀ D H', H D = none → Same H H' → H' D = some (.lst (List.replicate L.length y)) → Q (.ref D) H') : tLc (iList K (tVar i)) (gName j) tYes (tXf K f (tVar j)) vs σ H Q :=
  attr_any (fun R k => ⟨_, hv, k p as H (Same.refl H) hp r⟩) g hl hw hj q
end
/-! ### sizes of what is shown -/
theorem shown_sum {N : Nat} : ∀ {ds : List PyData}, (∀ d ∈ ds, Sm N d) → ((PyData.shownAll ds).map (·.length)).sum ≤ ds.length * N ∧ (PyData.shownAll ds).length = ds.length ∧ PyData.showableAll ds = true ∧ PyData.depthAll ds ≤ 20
  | [], _ => ⟨Nat.zero_le _, rfl, rfl, Nat.zero_le _⟩
  | d :: ds, h => by
    obtain ⟨h1, h2, h3, h4⟩ := shown_sum fun e he => h e (List.mem_cons_of_mem _ he)
    obtain ⟨a, b, c⟩ := h d (List.mem_cons_self ..)
    refine ⟨?_, ?_, ?_, ?_⟩
    · show d.shown.length + ((PyData.shownAll ds).map (·.length)).sum ≤ (ds.length + 1) * N
      rw [Nat.add_mul]
      omega
    · show (PyData.shownAll ds).length + 1 = ds.length + 1
      rw [h2]
    · show (d.showable && PyData.showableAll ds) = true
      rw [a, h3]
      rfl
    · show max d.depth (PyData.depthAll ds) ≤ 20
      omega
/-- data that may be shown -/
def Show (d : PyData) : Prop := d.showable = true ∧ d.depth ≤ 50 ∧ d.shown.length ≤ sizeLine
theorem show_list {N : Nat} {ds : List PyData} (h : ∀ d ∈ ds, Sm N d) (hl : ds.length * (N + 2) + 2 ≤ 100000) : Show (.list ds) := by
  obtain ⟨h1, h2, h3, h4⟩ := shown_sum h
  refine ⟨by simpa only [PyData.showable] using h3, by simp only [PyData.depth]; omega, ?_⟩
  simp only [PyData.shown]
  have q := textFrom_len_le (PyData.shownAll ds) 0 "["
  have e : (listText (PyData.shownAll ds)).length = (textFrom 0 "[" (PyData.shownAll ds)).length + 1 := by
    show (textFrom 0 "[" (PyData.shownAll ds) ++ "]").length = _
    rw [strLen_append]
    rfl
  have e2 : (("[" : Str)).length = 1 := by decide +kernel
  rw [e2, h2] at q
  rw [Nat.mul_add] at hl
  have e3 : 100000 ≤ sizeLine := by decide
  omega
/-- at as: errors, each with a value of its own -/
abbrev XOv (H : Hp) : List Addr → List ((Addr × Str) × V) → Prop := Paired fun a q => XO H a q.1.1 [(q.1.2, q.2)]
theorem XOv.mono {H H' : Hp} (s : Same H H') : ∀ {as : List Addr} {L : List ((Addr × Str) × V)}, XOv H as L → XOv H' as L
  | _, _, .nil => .nil
  | _, _, .cons a r => .cons (a.mono s) (XOv.mono s r)
section
variable {K : PySem.W.Frag} {σ : L2.St} {H : Hp}
theorem attr_val {i : Nat} {p : Addr} {as : List Addr} {L : List ((Addr × Str) × V)} {f : Str} {j : Nat} {vs : List Nat} {Q : VK} (hv : σ[i]? = some (some (.ref p))) (hp : SqL K H p (as.map V.ref)) (r : XOv H as L)
    (g : ∀ q ∈ L, q.1.2 = f ∧ (∃ b, XcC b K q.1.1) ∧ PySem.W.findIn K (.ref q.1.1) f = some none) (hl : L.length ≤ 1000)
    (hw : ∀ x, wipe ((wipe σ vs).set j (some x)) vs = wipe σ vs) (hj : ∀ x, ((wipe σ vs).set j (some x))[j]? = some (some x))
    (q : ∀ D H', H D = none → Same H H' → H' D = some (.lst (L.map Prod.snd)) → Q (.ref D) H') : tLc (iList K (tVar i)) (gName j) tYes (tXf K f (tVar j)) vs σ H Q := by
  refine ⟨_, hv, p, rfl, ⟨_, hp⟩, fun D hD => lc_list (K := K) (a := p) (xs := as.map V.ref) (fun i H' => H D = none ∧ Same H H' ∧ H' D = some (.lst ((L.map Prod.snd).take i))) ⟨hD, same_new hD, upd_same⟩
    (fun i H' _ z => z.2.1.seq hp) (fun i x H' hi z => ⟨hw x, ?_⟩) fun H' z => ?_⟩
  · obtain ⟨z1, z2, z3⟩ := z
    rw [List.getElem?_map] at hi
    obtain ⟨a, ha, rfl⟩ := Option.map_eq_some_iff.mp hi
    obtain ⟨c, hc, x⟩ := paired_at r ha
    obtain ⟨rfl, ⟨b, T⟩, no⟩ := g c (List.mem_of_getElem? hc)
    have hi2 : i < L.length := (List.getElem?_eq_some_iff.mp hc).1
    refine ⟨_, hj _, b, a, c.1.1, _, c.2, rfl, x.mono z2, T, no, ?_, _, z3, ?_, z1, fun e o he => ?_, ?_⟩
    · rw [lookup_put, if_pos rfl]
    · rw [List.length_take]
      exact small1000 (by omega)
    · rw [upd_ne (ne_of_none he z1)]
      exact z2 e o he
    · rw [upd_same, List.take_add_one, List.getElem?_map, hc]
      rfl
  · refine q D H' z.1 z.2.1 ?_
    rw [z.2.2, List.length_map, paired_len r, List.take_of_length_le]
    rw [List.length_map]
    exact Nat.le_refl _
end
/-- repr of two lists of equal data -/
theorem not_dec {a b : Str} (h : a = b) : (!decide (V.str a = V.str b)) = false := by
  rw [h, decide_eq_true rfl]
  rfl
end Vx

/-! ## G14 -/
set_option Elab.async false
set_option linter.all false
set_option maxRecDepth 100000
set_option maxHeartbeats 4000000
namespace Vx
open PySem PySem.Spec PyProof.Rows L2 He
open PySem.W PySem.Calls
section
variable {K : PySem.W.Frag} {σ : L2.St} {H : Hp}
/-- [elt for j in range(n)], elt changing nothing -/
theorem rng_lc {n : Nat} {j : Nat} {vs : List Nat} {te : TE} {Q : VK} (v : Nat → V) (ht : ∀ (i : Nat) H1 (R : VK), i < n → R (v i) H1 → te ((wipe σ vs).set j (some (.int (0 + (i : Nat))))) H1 R) (hn : n ≤ 1000)
    (hw : ∀ x, wipe ((wipe σ vs).set j (some x)) vs = wipe σ vs) (q : ∀ D H', H D = none → Same H H' → H' D = some (.lst ((List.range n).map v)) → Q (.ref D) H') :
    tLc (iRng1 (tCons (tC (.int (n : Int))) tNil)) (gName j) tYes te vs σ H Q := by
  refine ⟨(n : Int), rfl, by omega, by omega, fun D hD => lc_range (lo := 0) (n := n) (fun i H' => H D = none ∧ Same H H' ∧ H' D = some (.lst ((List.range i).map v))) ⟨hD, same_new hD, upd_same⟩
    (fun i H' hi z => ⟨hw _, ht i H' _ hi ⟨_, z.2.2, ?_, z.1, fun e o he => ?_, ?_⟩⟩) fun H' z => q D H' z.1 z.2.1 z.2.2⟩
  · rw [List.length_map, List.length_range]
    exact small1000 (by omega)
  · rw [upd_ne (ne_of_none he z.1)]
    exact z.2.1 e o he
  · rw [upd_same, List.range_succ, List.map_append]
    rfl
/-- [len(x) for x in lists] -/
theorem len_lc {i : Nat} {p : Addr} {bs : List Addr} {ns : List Nat} {j : Nat} {vs : List Nat} {Q : VK} (hv : σ[i]? = some (some (.ref p))) (hp : SqL K H p (bs.map V.ref)) (r : Paired (fun b n => ∃ xs, H b = some (.lst xs) ∧ xs.length = n) bs ns) (hl : ns.length ≤ 1000)
    (hw : ∀ x, wipe ((wipe σ vs).set j (some x)) vs = wipe σ vs) (hj : ∀ x, ((wipe σ vs).set j (some x))[j]? = some (some x))
    (q : ∀ D H', H D = none → Same H H' → H' D = some (.lst (ns.map fun (n : Nat) => V.int (n : Int))) → Q (.ref D) H') : tLc (iList K (tVar i)) (gName j) tYes (tCB (Evl.rLenS K) (tCons (tVar j) tNil)) vs σ H Q := by
  refine ⟨_, hv, p, rfl, ⟨_, hp⟩, fun D hD => lc_list (K := K) (a := p) (xs := bs.map V.ref) (fun i H' => H D = none ∧ Same H H' ∧ H' D = some (.lst ((ns.map fun (n : Nat) => V.int (n : Int)).take i))) ⟨hD, same_new hD, upd_same⟩
    (fun i H' _ z => z.2.1.seq hp) (fun i x H' hi z => ⟨hw x, ?_⟩) fun H' z => ?_⟩
  · obtain ⟨z1, z2, z3⟩ := z
    rw [List.getElem?_map] at hi
    obtain ⟨b, hb, rfl⟩ := Option.map_eq_some_iff.mp hi
    obtain ⟨n, hn, xs, hx, rfl⟩ := paired_at r hb
    have hi2 : i < ns.length := (List.getElem?_eq_some_iff.mp hn).1
    refine ⟨_, hj _, b, xs, rfl, .inl (SqL.of (z2 _ _ hx)), _, z3, ?_, z1, fun e o he => ?_, ?_⟩
    · rw [List.length_take]
      exact small1000 (by omega)
    · rw [upd_ne (ne_of_none he z1)]
      exact z2 e o he
    · rw [upd_same, List.take_add_one, List.getElem?_map, hn]
      rfl
  · refine q D H' z.1 z.2.1 ?_
    rw [z.2.2, List.length_map, paired_len r, List.take_of_length_le]
    rw [List.length_map]
    exact Nat.le_refl _
end
theorem map_kit {K : PySem.W.Frag} {C : Addr} {L : List CE} {gs : Nat → Bool} (h : ∀ j c, L[j]? = some c → kitOne K (.ref C) (c.u K) = some (gs j)) :
    (L.map fun c => V.bl ((kitOne K (.ref C) (c.u K)).getD false)) = (List.range L.length).map fun j => V.bl (gs j) := by
  refine List.ext_getElem? fun j => ?_
  rw [List.getElem?_map, List.getElem?_map]
  cases e : L[j]? with
  | none =>
    have hj : L.length ≤ j := List.getElem?_eq_none_iff.mp e
    rw [List.getElem?_eq_none_iff.mpr (by rw [List.length_range]; exact hj)]
    rfl
  | some c =>
    have hj : j < L.length := (List.getElem?_eq_some_iff.mp e).1
    rw [List.getElem?_range hj, Option.map_some, Option.map_some, h j c e]
    rfl
/-- lists of truths -/
theorem dp_bools {K : PySem.W.Frag} {H : Hp} : ∀ bs : List Bool, DpAll K H (bs.map V.bl) (bs.map PyData.bool)
  | [] => .nil
  | b :: bs => .cons (.bl b) (dp_bools bs)
theorem lay_bools : ∀ bs : List Bool, PyData.canLayAll0 (bs.map PyData.bool) = true
  | [] => by simp only [List.map_nil, PyData.canLayAll0]
  | b :: bs => by
    simp only [List.map_cons, PyData.canLayAll0, lay_bools bs, PyData.canLay0, Bool.and_self]
theorem dp_ints {K : PySem.W.Frag} {H : Hp} : ∀ ns : List Int, DpAll K H (ns.map V.int) (ns.map PyData.int)
  | [] => .nil
  | n :: ns => .cons (.int n) (dp_ints ns)
end Vx

/-! ## G15 -/
set_option Elab.async false
set_option linter.all false
set_option maxRecDepth 100000
set_option maxHeartbeats 4000000
namespace Vx
open PySem PySem.Spec PyProof.Rows L2 He
theorem call_lenK {X : Cx} {K : PySem.W.Frag} (hK : X.K = K) : CallR X (.builtin "len") (Evl.rLenS K) := by
  subst hK
  exact call_len_seq
theorem dec_nat (i n : Nat) : decide (V.int (0 + (i : Int)) = V.int (n : Int)) = decide (i = n) := by
  by_cases h : i = n
  · subst h
    rw [decide_eq_true rfl]
    exact decide_eq_true (by rw [Int.zero_add])
  · rw [decide_eq_false h]
    refine decide_eq_false fun e => h ?_
    have q := V.int.inj e
    omega
theorem dec_mod (i n : Nat) : decide (V.int ((0 + (i : Int)) % 4) = V.int (n : Int)) = decide (i % 4 = n) := by
  have q : (0 + (i : Int)) % 4 = ((i % 4 : Nat) : Int) := by omega
  rw [q, ← dec_nat, Int.zero_add]
theorem depth_bools : ∀ bs : List Bool, PyData.depthAll (bs.map PyData.bool) = 0
  | [] => rfl
  | _ :: r => by simp [PyData.depthAll, PyData.depth, depth_bools r]
theorem shaped_bools (bs : List Bool) : SeqAt.shaped (.list (bs.map PyData.bool)) = true := by
  simp [SeqAt.shaped, PyData.canLay0, PyData.depth, lay_bools, depth_bools]
theorem dp_ints2 {K : PySem.W.Frag} {H : Hp} : ∀ ns : List Int, DpAll K H (ns.map V.int) (ns.map PyData.int) := dp_ints
section
variable {K : PySem.W.Frag} {H : Hp} {p q : Addr} {Q : VK}
theorem ne_bools {bs : List Bool} (e1 : H p = some (.lst (bs.map V.bl))) (e2 : H q = some (.lst (bs.map V.bl))) (k : Q (.bl false) H) : rNeD K (.ref p) (.ref q) H Q := by
  refine ⟨.list (bs.map PyData.bool), .list (bs.map PyData.bool), .lst (SqL.of e1) (dp_bools bs), .lst (SqL.of e2) (dp_bools bs), shaped_bools bs, shaped_bools bs, ?_⟩
  rw [SeqAt.eqv_refl _ (ba (shaped_bools bs)).1]
  exact k
theorem ne_ints {ns : List Int} (e1 : H p = some (.lst (ns.map V.int))) (e2 : H q = some (.lst (ns.map V.int))) (k : Q (.bl false) H) : rNeD K (.ref p) (.ref q) H Q := by
  refine ⟨.list (ns.map PyData.int), .list (ns.map PyData.int), .lst (SqL.of e1) (dp_ints ns), .lst (SqL.of e2) (dp_ints ns), PySem.W.ke_shaped_ints ns, PySem.W.ke_shaped_ints ns, ?_⟩
  rw [SeqAt.eqv_refl _ (ba (PySem.W.ke_shaped_ints ns)).1]
  exact k
end
theorem paired_map {α β γ : Type} {F : α → β → Prop} {G : α → γ → Prop} {f : β → γ} : ∀ {as : List α} {L : List β}, Paired F as L → (∀ a b, F a b → G a (f b)) → Paired G as (L.map f)
  | _, _, .nil, _ => .nil
  | _, _, .cons h r, g => .cons (g _ _ h) (paired_map r g)
theorem paired_imp {α β : Type} {F G : α → β → Prop} : ∀ {as : List α} {L : List β}, Paired F as L → (∀ a b, F a b → G a b) → Paired G as L
  | _, _, .nil, _ => .nil
  | _, _, .cons h r, g => .cons (g _ _ h) (paired_imp r g)
/-- errors of these kinds, however kept -/
abbrev XIs (H : Hp) : List Addr → List Addr → Prop := Paired fun a C => XI H a C
theorem XIs.mono {H H' : Hp} (s : Same H H') {as L : List Addr} (h : XIs H as L) : XIs H' as L := paired_imp h fun _ _ x => x.mono s
theorem xis_of {H : Hp} {y : V} {as : List Addr} {L : List (Addr × Str)} (h : XOs H y as L) : XIs H as (L.map Prod.fst) := paired_map h fun _ _ x => .inr ⟨_, x⟩
theorem xis_bare {H : Hp} {as : List Addr} {L : List Addr} (h : Paired (fun a C => H a = some (exo a C none)) as L) : XIs H as L := paired_imp h fun _ _ x => .inl x
end Vx

/-! ## G16 -/
set_option Elab.async false
set_option linter.all false
set_option maxRecDepth 100000
set_option maxHeartbeats 4000000
namespace Vx
open PySem PySem.Spec PyProof.Rows L2 He
def tyS : PyData → String
  | .none => "NoneType"
  | .bool _ => "bool"
  | .int _ => "int"
  | .str _ => "str"
  | .list _ => "list"
  | .tuple _ => "tuple"
  | .dict _ => "dict"
abbrev tysA : List String := ["NoneType", "bool", "int", "str", "list", "tuple", "dict"]
theorem tyS_mem (d : PyData) : tyS d ∈ tysA := by
  cases d <;> simp [tyS]
section
variable {K : PySem.W.Frag} {H : Hp}
theorem tyx_da : ∀ {x : V} {d : PyData}, Da K H x d → TyX K H x (.type (tyS d))
  | _, _, .non => .base .non
  | _, _, .bl b => .base (.bl b)
  | _, _, .int i => .base (.int i)
  | _, _, .str z => .base (.str z)
  | _, _, .lst h _ => by
    rcases h with h | ⟨o, its, n, e, c, _⟩
    · rcases h with h | ⟨o, h⟩
      · exact .base (.lst h)
      · exact .base (.frz h)
    · exact .kList e c
  | _, _, .tup h _ => by
    rcases h with h | ⟨o, its, n, e, c, _⟩
    · rcases h with h | ⟨o, h⟩
      · exact .base (.tup h)
      · exact .fTuple h
    · exact .kTuple e c
  | _, _, .dK h _ => .base (.dK h)
  | _, _, .dT h _ => .base (.dT h)
end
def isT (a t : String) : Bool := a == t || (a == "bool" && t == "int")
abbrev isD (d : PyData) (t : String) : Bool := isT (tyS d) t
theorem kitT : ∀ t ∈ (["int", "bool", "str", "tuple", "list"] : List String), ∀ a ∈ tysA, kitB a t = some (isT a t) := by decide +kernel
def rIsD (K : PySem.W.Frag) : List V → Hp → VK → Prop := fun xs H Q => ∃ (x : V) (d : PyData) (t : String), xs = [x, .ty t] ∧ Da K H x d ∧ t ∈ (["int", "bool", "str", "tuple", "list"] : List String) ∧ Q (.bl (isD d t)) H
theorem call_isD {X : Cx} {K : PySem.W.Frag} (hK : X.K = K) : CallR X (.builtin "isinstance") (rIsD K) := by
  subst hK
  intro pins s σ H xs us Q I r h
  obtain ⟨x, d, t, rfl, hd, ht, q⟩ := h
  exact call_isi pins s σ H _ us Q I r ⟨x, .ty t, _, _, _, rfl, .ty t, tyx_da hd, kit_ty (kitT t ht _ (tyS_mem d)), q⟩
def rIsDT (K : PySem.W.Frag) : List V → Hp → VK → Prop := fun xs H Q => ∃ (x : V) (d : PyData) (tp : Addr), xs = [x, .ref tp] ∧ H tp = some (.tup [.ty "list", .ty "tuple"]) ∧ Da K H x d ∧ Q (.bl (isD d "list" || isD d "tuple")) H
theorem call_isDT {X : Cx} {K : PySem.W.Frag} (hK : X.K = K) : CallR X (.builtin "isinstance") (rIsDT K) := by
  subst hK
  intro pins s σ H xs us Q I r h
  obtain ⟨x, d, tp, rfl, e, hd, q⟩ := h
  have k1 : PySem.W.kitOne X.K (.type (tyS d)) (.type "list") = some (isD d "list") := kit_ty (kitT "list" (by decide) _ (tyS_mem d))
  have k2 : PySem.W.kitOne X.K (.type (tyS d)) (.type "tuple") = some (isD d "tuple") := kit_ty (kitT "tuple" (by decide) _ (tyS_mem d))
  refine call_isiT pins s σ H _ us Q I r ⟨x, tp, [.ty "list", .ty "tuple"], _, [.type "list", .type "tuple"], _, rfl, e, .cons (.ty _) (.cons (.ty _) .nil), tyx_da hd, ?_, q⟩
  refine kitAny_cons k1 (fun z => ?_) (fun z => by rw [z]; rfl)
  rw [z, Bool.false_or]
  refine kitAny_cons k2 (fun z2 => ?_) (fun z2 => z2)
  rw [z2]
  exact kitAny_nil
/-- x is not a truth -/
theorem op_isnot_int {X : Cx} : OpR X (compareOp .IsNot) (fun x y H Q => ∃ i b, x = .int i ∧ y = .bl b ∧ Q (.bl true) H) := by
  intro pins s σ H x y v u Q I rx ry h
  obtain ⟨i, b, rfl, rfl, q⟩ := h
  obtain ⟨t, rfl⟩ := rx
  cases (show u = Value.bool b from ry)
  exact wpAny_isNot_other rfl (fun z => nomatch z) ⟨.bl true, H, I, rfl, q⟩
/-! ### names -/
def small : List Nat := ("abcdefghijklmnopqrstuvwxyz" : Str).cps.toList
def nm (z : Str) : Bool := decide (1 ≤ z.length) && (decide (z.length ≤ 8) && z.cps.toList.all fun c => decide (c ∈ small))
theorem lowT : ∀ c < 128, (Unicode.isAlpha c = true → (Unicode.isUpper c || Unicode.isTitle c) = false → c ∈ small) ∧ (c ∈ small → Unicode.isAlpha c = true ∧ Unicode.isLower c = true ∧ (Unicode.isUpper c || Unicode.isTitle c) = false) := by decide +kernel
theorem small_lt : ∀ c ∈ small, c < 128 := by decide +kernel
theorem name_eq {z : Str} (h : 1 ≤ z.length) : (Txt.isascii z && (Txt.isalpha z && Txt.islower z)) = z.cps.toList.all fun c => decide (c ∈ small) := by
  rw [Bool.eq_iff_iff]
  unfold Txt.isascii Txt.isalpha Txt.islower
  simp only [Bool.and_eq_true, List.all_eq_true, decide_eq_true_eq, Array.all_eq_true', Array.any_eq_true', Bool.not_eq_true', Array.any_eq_false', ← Array.mem_toList_iff]
  constructor
  · rintro ⟨h1, ⟨_, h2⟩, _, h4⟩ c hc
    exact (lowT c (h1 c hc)).1 (h2 c hc) (by simpa using h4 c hc)
  · intro h1
    refine ⟨fun c hc => small_lt c (h1 c hc), ⟨h, fun c hc => ((lowT c (small_lt c (h1 c hc))).2 (h1 c hc)).1⟩, ?_, fun c hc => ?_⟩
    · have hl : 0 < z.cps.toList.length := by
        rw [Array.length_toList]
        exact h
      obtain ⟨c, hc⟩ := List.exists_mem_of_length_pos hl
      exact ⟨c, hc, ((lowT c (small_lt c (h1 c hc))).2 (h1 c hc)).2.1⟩
    · have q := ((lowT c (small_lt c (h1 c hc))).2 (h1 c hc)).2.2
      simpa using q
end Vx

/-! ## G17 -/
set_option Elab.async false
set_option linter.all false
set_option maxRecDepth 100000
set_option maxHeartbeats 4000000
namespace Vx
open PySem PySem.Spec PyProof.Rows L2 He
mutual
/-- no long texts or lists in it -/
def okD : PyData → Bool
  | .str z => decide (z.length ≤ 100)
  | .list ds => decide (ds.length ≤ 100) && okAll ds
  | .tuple ds => decide (ds.length ≤ 100) && okAll ds
  | _ => true
def okAll : List PyData → Bool
  | [] => true
  | d :: ds => okD d && okAll ds
end
theorem okAll_at : ∀ {ds : List PyData} {i : Nat} {d : PyData}, okAll ds = true → ds[i]? = some d → okD d = true
  | [], _, _, _, e => by simp at e
  | z :: r, 0, d, h, e => by
    simp at e
    subst e
    rw [okAll] at h
    exact (ba h).1
  | z :: r, i + 1, d, h, e => by
    rw [okAll] at h
    exact okAll_at (i := i) (ba h).2 (by simpa using e)
/-- a def that asks of one value of data -/
def spP (K : PySem.W.Frag) (g : PyData → Bool) : Sp := fun vs H Q _ => ∃ x d, vs = [x] ∧ Da K H x d ∧ okD d = true ∧ ∀ H', Same H H' → Q (.bl (g d)) H'
section
variable {K : PySem.W.Frag} {σ : L2.St} {H : Hp}
theorem lcs_step {i : Nat} {H1 H4 : Hp} {D : Addr} {ys : List V} {y : V} (z1 : H1 D = none) (z2 : Same H1 H4) (z3 : H4 D = some (.lst ys)) (hy : ys.length < sizeLine) : ∃ acc, H4 D = some (.lst acc) ∧ acc.length < sizeLine ∧ Same H1 (upd H4 D (.lst (acc ++ [y]))) ∧ upd H4 D (.lst (acc ++ [y])) D = some (.lst (ys ++ [y])) := by
  refine ⟨ys, z3, hy, fun e o he => ?_, upd_same⟩
  rw [upd_ne (ne_of_none he z1)]
  exact z2 e o he
/-- [g(c) for c in z] -/
theorem str_lc {ts : TE} {z : Str} {j : Nat} {vs : List Nat} {te : TE} {Q : VK} (g : Nat → V) (hts : ∀ R : VK, R (.str z) H → ts σ H R) (hz : z.length ≤ 1000)
    (ht : ∀ c H1 (R : VK), R (g c) H1 → te ((wipe σ vs).set j (some (.str ⟨#[c]⟩))) H1 R)
    (hw : ∀ x, wipe ((wipe σ vs).set j (some x)) vs = wipe σ vs) (q : ∀ D H', H D = none → Same H H' → H' D = some (.lst (z.cps.toList.map g)) → Q (.ref D) H') :
    tLc (iStr ts) (gName j) tYes te vs σ H Q := by
  refine hts _ ⟨z, rfl, fun D hD => lc_it walk_str (fun i H' => H D = none ∧ Same H H' ∧ H' D = some (.lst ((z.cps.toList.map g).take i))) ⟨hD, same_new hD, upd_same⟩ (fun _ _ _ _ => trivial)
    (fun i x H1 H2 hi p y => ⟨hw _, ?_⟩) fun H' p => ?_⟩
  · obtain ⟨rfl, c, hc, rfl⟩ := y
    obtain ⟨z1, z2, z3⟩ := p
    refine ht c _ _ ?_
    have hl : z.cps.size ≤ 1000 := hz
    have e : (z.cps.toList.map g)[i]? = some (g c) := by
      rw [List.getElem?_map, Array.getElem?_toList, hc]
      rfl
    refine ⟨_, z3, ?_, z1, fun e o he => ?_, ?_⟩
    · rw [List.length_take]
      exact small1000 (by omega)
    · rw [upd_ne (ne_of_none he z1)]
      exact z2 e o he
    · rw [upd_same, List.take_add_one, e]
      rfl
  · refine q D H' p.1 p.2.1 ?_
    rw [p.2.2, List.take_of_length_le]
    rw [List.length_map, Array.length_toList]
    exact Nat.le_refl _
/-- [g(part) for part in xs], a list or a tuple of data -/
theorem das_step {xs : List V} {ds : List PyData} {D : Addr} {i : Nat} {x : V} {j : Nat} {vs : List Nat} {te : TE} {g : PyData → Bool} {H' : Hp} {N : Hp → Prop} (hx : xs[i]? = some x) (r : Das K H xs ds) (ok : okAll ds = true) (hl : ds.length ≤ 100)
    (ht : ∀ v d H1 (R : VK), Da K H1 v d → okD d = true → (∀ H2, Same H1 H2 → R (.bl (g d)) H2) → te ((wipe σ vs).set j (some v)) H1 R)
    (z : H D = none ∧ Same H H' ∧ H' D = some (.lst ((ds.map fun d => V.bl (g d)).take i)))
    (hN : ∀ H2, H D = none ∧ Same H H2 ∧ H2 D = some (.lst ((ds.map fun d => V.bl (g d)).take (i + 1))) → N H2) :
    te ((wipe σ vs).set j (some x)) H' fun y H4 => ∃ acc, H4 D = some (.lst acc) ∧ acc.length < sizeLine ∧ N (upd H4 D (.lst (acc ++ [y]))) := by
  obtain ⟨d, hd, da⟩ := Das.get r hx
  obtain ⟨z1, z2, z3⟩ := z
  have hi := (List.getElem?_eq_some_iff.mp hd).1
  refine ht x d H' _ (da.mono z2) (okAll_at ok hd) fun H2 s2 => ?_
  refine ⟨_, s2 _ _ z3, ?_, hN _ ⟨z1, fun e o he => ?_, ?_⟩⟩
  · rw [List.length_take]
    exact small1000 (by omega)
  · rw [upd_ne (ne_of_none he z1)]
    exact s2 _ _ (z2 e o he)
  · rw [upd_same, List.take_add_one, List.getElem?_map, hd]
    rfl
theorem das_end {ds : List PyData} {n : Nat} {g : PyData → Bool} (e : n = ds.length) : (ds.map fun d => V.bl (g d)).take n = (ds.map g).map V.bl := by
  rw [List.take_of_length_le (by rw [List.length_map, e]; exact Nat.le_refl _), List.map_map]
  rfl
theorem da_lcL {p : Addr} {xs : List V} {ds : List PyData} {j : Nat} {vs : List Nat} {tl te : TE} {Q : VK} (g : PyData → Bool) (hv : ∀ R : VK, R (.ref p) H → tl σ H R) (hp : SqL K H p xs) (r : Das K H xs ds) (ok : okAll ds = true) (hl : ds.length ≤ 100)
    (ht : ∀ v d H1 (R : VK), Da K H1 v d → okD d = true → (∀ H2, Same H1 H2 → R (.bl (g d)) H2) → te ((wipe σ vs).set j (some v)) H1 R)
    (hw : ∀ x, wipe ((wipe σ vs).set j (some x)) vs = wipe σ vs)
    (q : ∀ D H', H D = none → Same H H' → H' D = some (.lst ((ds.map g).map V.bl)) → Q (.ref D) H') : tLc (iList K tl) (gName j) tYes te vs σ H Q := by
  refine hv _ ⟨p, rfl, ⟨_, hp⟩, fun D hD => lc_list (K := K) (a := p) (xs := xs) (fun i H' => H D = none ∧ Same H H' ∧ H' D = some (.lst ((ds.map fun d => V.bl (g d)).take i))) ⟨hD, same_new hD, upd_same⟩
    (fun i H' _ z => z.2.1.seq hp) (fun i x H' hi z => ⟨hw x, das_step hi r ok hl ht z fun _ h => h⟩) fun H' z => q D H' z.1 z.2.1 (z.2.2.trans ?_)⟩
  rw [das_end r.len]
theorem da_lcT {p : Addr} {xs : List V} {ds : List PyData} {j : Nat} {vs : List Nat} {tl te : TE} {Q : VK} (g : PyData → Bool) (hv : ∀ R : VK, R (.ref p) H → tl σ H R) (hp : SqT K H p xs) (r : Das K H xs ds) (ok : okAll ds = true) (hl : ds.length ≤ 100)
    (ht : ∀ v d H1 (R : VK), Da K H1 v d → okD d = true → (∀ H2, Same H1 H2 → R (.bl (g d)) H2) → te ((wipe σ vs).set j (some v)) H1 R)
    (hw : ∀ x, wipe ((wipe σ vs).set j (some x)) vs = wipe σ vs)
    (q : ∀ D H', H D = none → Same H H' → H' D = some (.lst ((ds.map g).map V.bl)) → Q (.ref D) H') : tLc (iTup K tl) (gName j) tYes te vs σ H Q := by
  refine hv _ ⟨p, rfl, ⟨_, hp⟩, fun D hD => lc_tup (K := K) (a := p) (xs := xs) (fun i H' => H D = none ∧ Same H H' ∧ H' D = some (.lst ((ds.map fun d => V.bl (g d)).take i))) ⟨hD, same_new hD, upd_same⟩
    (fun i H' _ z => Vx.seqT z.2.1 hp) (fun i x H' hi z => ⟨hw x, das_step hi r ok hl ht z fun _ h => h⟩) fun H' z => q D H' z.1 z.2.1 (z.2.2.trans ?_)⟩
  rw [das_end r.len]
theorem all_map {ds : List PyData} {g : PyData → Bool} : (ds.map g).all id = ds.all g := by
  rw [List.all_map]
  rfl
end
end Vx

/-! ## G18 -/
set_option Elab.async false
set_option linter.all false
set_option maxRecDepth 100000
set_option maxHeartbeats 4000000
namespace Vx
open PySem PySem.Spec PyProof.Rows L2 He
def numD : PyData → Bool
  | .int _ => true
  | _ => false
def boolD : PyData → Bool
  | .bool _ => true
  | _ => false
def strD : PyData → Bool
  | .str _ => true
  | _ => false
def tupD : PyData → Bool
  | .tuple _ => true
  | _ => false
def lstD : PyData → Bool
  | .list _ => true
  | _ => false
def cntD : PyData → Bool
  | .int i => decide (0 ≤ i)
  | _ => false
def nameD : PyData → Bool
  | .str z => nm z
  | _ => false
def pairL : List PyData → Bool
  | [a, b] => nameD a && nameD b
  | _ => false
def pairD : PyData → Bool
  | .tuple ds => pairL ds
  | _ => false
def seqD : PyData → Bool
  | .list _ => true
  | .tuple _ => true
  | _ => false
def rowD : PyData → Bool
  | .list ds => ds.all pairD
  | .tuple ds => ds.all pairD
  | _ => false
theorem isI : ∀ d : PyData, isD d "int" = (numD d || boolD d)
  | .none => (by decide : isT "NoneType" "int" = false)
  | .bool _ => (by decide : isT "bool" "int" = true)
  | .int _ => (by decide : isT "int" "int" = true)
  | .str _ => (by decide : isT "str" "int" = false)
  | .list _ => (by decide : isT "list" "int" = false)
  | .tuple _ => (by decide : isT "tuple" "int" = false)
  | .dict _ => (by decide : isT "dict" "int" = false)
theorem isBo : ∀ d : PyData, isD d "bool" = boolD d
  | .none => (by decide : isT "NoneType" "bool" = false)
  | .bool _ => (by decide : isT "bool" "bool" = true)
  | .int _ => (by decide : isT "int" "bool" = false)
  | .str _ => (by decide : isT "str" "bool" = false)
  | .list _ => (by decide : isT "list" "bool" = false)
  | .tuple _ => (by decide : isT "tuple" "bool" = false)
  | .dict _ => (by decide : isT "dict" "bool" = false)
theorem isS : ∀ d : PyData, isD d "str" = strD d
  | .none => (by decide : isT "NoneType" "str" = false)
  | .bool _ => (by decide : isT "bool" "str" = false)
  | .int _ => (by decide : isT "int" "str" = false)
  | .str _ => (by decide : isT "str" "str" = true)
  | .list _ => (by decide : isT "list" "str" = false)
  | .tuple _ => (by decide : isT "tuple" "str" = false)
  | .dict _ => (by decide : isT "dict" "str" = false)
theorem isTu : ∀ d : PyData, isD d "tuple" = tupD d
  | .none => (by decide : isT "NoneType" "tuple" = false)
  | .bool _ => (by decide : isT "bool" "tuple" = false)
  | .int _ => (by decide : isT "int" "tuple" = false)
  | .str _ => (by decide : isT "str" "tuple" = false)
  | .list _ => (by decide : isT "list" "tuple" = false)
  | .tuple _ => (by decide : isT "tuple" "tuple" = true)
  | .dict _ => (by decide : isT "dict" "tuple" = false)
theorem isL : ∀ d : PyData, isD d "list" = lstD d
  | .none => (by decide : isT "NoneType" "list" = false)
  | .bool _ => (by decide : isT "bool" "list" = false)
  | .int _ => (by decide : isT "int" "list" = false)
  | .str _ => (by decide : isT "str" "list" = false)
  | .list _ => (by decide : isT "list" "list" = true)
  | .tuple _ => (by decide : isT "tuple" "list" = false)
  | .dict _ => (by decide : isT "dict" "list" = false)
theorem isLT (d : PyData) : (isD d "list" || isD d "tuple") = seqD d := by
  rw [isL, isTu]
  cases d <;> rfl
theorem okStr {z : Str} (h : okD (.str z) = true) : z.length ≤ 100 := by
  rw [okD] at h
  exact of_decide_eq_true h
theorem okLst {ds : List PyData} (h : okD (.list ds) = true) : ds.length ≤ 100 ∧ okAll ds = true := by
  rw [okD] at h
  exact ⟨of_decide_eq_true (ba h).1, (ba h).2⟩
theorem okTup {ds : List PyData} (h : okD (.tuple ds) = true) : ds.length ≤ 100 ∧ okAll ds = true := by
  rw [okD] at h
  exact ⟨of_decide_eq_true (ba h).1, (ba h).2⟩
section
variable {K : PySem.W.Frag} {H : Hp} {Q : VK} {te ta : TE} {σ : L2.St}
/-- isinstance(x, t) and .. -/
theorem in_and {c : Bool} (h : ta σ H fun x H1 => x = .bl c ∧ (if c = true then te σ H1 Q else Q (.bl false) H1)) (m : ∀ R S : VK, (∀ x H, R x H → S x H) → ta σ H R → ta σ H S) : tAndV ta te σ H Q :=
  m _ _ (fun x H1 q => ⟨c, q.1, q.2⟩) h
end
end Vx

/-! ## G19 -/
set_option Elab.async false
set_option linter.all false
set_option maxRecDepth 100000
set_option maxHeartbeats 4000000
namespace Vx
open PySem PySem.Spec PyProof.Rows L2 He
open PySem.W (keepIn)
/-- one value by keyword -/
def kw0 {α : Type} : List α → List α → List α
  | [], [b] => [b]
  | _, _ => []
theorem kw0_rel : ∀ {vs : List V} {us : List Value} {zs : List V} {ws : List Value}, Vals vs us → Vals zs ws → Vals (kw0 vs zs) (kw0 us ws)
  | _, _, _, _, .nil, .cons c .nil => .cons c .nil
  | _, _, _, _, .nil, .nil => .nil
  | _, _, _, _, .nil, .cons _ (.cons _ _) => .nil
  | _, _, _, _, .cons _ _, _ => .nil
/-- a def of one parameter, called by place and by name -/
structure CdK (P : Program) (w : World) (K : PySem.W.Frag) (mg : Str → Option Value) (base : Heap) (k : Nat) (x y : Str) (sp : Sp) : Prop where
  ex : ∃ (f : Addr) (fd : FuncData), FnG P w K mg base CX0 k f fd [y] sp ∧ mg x = some (.ref f) ∧ keepIn K (.ref f) = true ∧ Binds K fd [y] [] ∧ KBinds K fd [y] [y] kw0 kw0
section
variable {P : Program} {w : World} {K : PySem.W.Frag} {mg : Str → Option Value} {base : Heap} {k : Nat} {x y : Str} {sp : Sp} {st : Stmt} {N : List Str}
theorem CdK.cd (C : CdK P w K mg base k x y sp) : Cd P w K mg base k x [y] sp := by
  obtain ⟨f, fd, F, g, kf, b, _⟩ := C.ex
  exact ⟨f, fd, F, g, kf, b⟩
theorem cd_mkK (F : At K mg x st) (S : FnScope N [y] (defScope st)) (len : ∀ vs H Q E, sp vs H Q E → vs.length = [y].length)
    (hb : ∀ (kV doc pm : Value) (an : Option Addr) (cdv ct : Value) (us : List Value), us.length = [y].length → bindArgs (PySem.W.fnOf x x (defArgs st) (defBody st) (defScope st) .none kV doc pm an cdv ct) ⟨us, []⟩ = pure ([y].zip us))
    (hk : ∀ (kV doc pm : Value) (an : Option Addr) (cdv ct : Value) (u : Value), bindArgs (PySem.W.fnOf x x (defArgs st) (defBody st) (defScope st) .none kV doc pm an cdv ct) ⟨[], [(y, u)]⟩ = pure [(y, u)])
    (hbody : ∀ (f : Addr) (cdv : Value) (A : Around) (outer : List Env) (s : Shared) (H : Hp) (vs : List V) (Q : VK) (E : XK),
      Room k (A.deeper (envOfC x (defScope st) s.heap.objs.size f cdv)) → Gd (A.deeper (envOfC x (defScope st) s.heap.objs.size f cdv)) → sp vs H Q E →
      ∃ t, PSs (cxOf CX0 P w K mg base N x (defScope st) f cdv A outer s H E).nox (defBody st) t ∧ t { nx := fun _ H' => Q .non H', rt := Q } (start N vs) H) :
    CdK P w K mg base (k + 1) x y sp := by
  obtain ⟨f, fd, F, gf⟩ := F.ex
  refine ⟨f, fd, okG F S len (fun cdv A outer s H vs Q E hr hG h => ?_), gf, F.kp, F.binds hb, ?_⟩
  · obtain ⟨t, h1, h2⟩ := hbody f cdv A outer s H vs Q E hr hG h
    exact ⟨t, h1.nox, h2⟩
  · obtain ⟨oc, od, kV, doc, pm, an, cdv, ct, osl, rfl, lk, hcd⟩ := F.ex
    refine ⟨fun s us ws _ hl => ?_, kw0_rel⟩
    match us, ws, hl with
    | [], [v], _ => exact .of_eq (hk kV doc pm an cdv ct v)
end
section
variable {X : Cx} {k : Nat} {x y : Str} {sp : Sp} {p pos kp : Pos} {e : Expr} {te : TE}
/-- f(y = e) -/
theorem pe_cdK (C : CdK X.prog X.w X.K X.mg X.base k x y sp) (hr : Room k X.A) (hG : Gd X.A) (hg : Gl X x) (he : PE X e te)
    (hdb : (x == ("__debug__" : Str)) = false := by decide) (hall : (backToKw pos (keywordEach [⟨some y, e, kp⟩] X.env)).all (·.1.isSome) = true := by rfl)
    (hks : (backToKw pos (keywordEach [⟨some y, e, kp⟩] X.env)).filterMap (·.1) = [y] := by rfl)
    (hpl : ((backTo pos (starEach [] X.env)).any (·.1) || (backToKw pos (keywordEach [⟨some y, e, kp⟩] X.env)).any (·.1.isNone)) = false := by rfl) :
    PE X (.Call (.Name x p) [] [⟨some y, e, kp⟩] pos) (fun σ H Q => te σ H fun v H1 => sp [v] H1 Q E0) := by
  obtain ⟨f, fd, F, gf, kf, b, kb⟩ := C.ex
  refine ⟨fun pins s σ H Q I h => wpAny_Call_Name_kw (ld_glob I hg gf ?_ hdb)⟩
  refine PySem.W.callWith_KW0 (h₀ := X.base) I.ok.mod.kin kf hall ?_ hpl
  refine thn ((pk_cons he pk_nil).run pos pins s σ H (one1 fun v H1 => sp [v] H1 Q E0) I h) fun ws s1 z => ?_
  obtain ⟨vs, H1, I1, r1, q1⟩ := z
  rw [hks]
  match vs, q1 with
  | [v], q1 =>
    cases r1 with
    | cons rv rn =>
      cases rn
      rename_i u
      refine ⟨I1.kIn, wpAny_call (codeAny_mono (F.go X.A X.stack s1 H1 ⟨[], [(y, u)]⟩ [u] [v] Q E0 hr hG I1.env0 (kb.to s1 [] [u] I1.kIn rfl) (.cons rv .nil) q1) (fun r s' z => ?_))⟩
      cases r with
      | error er => exact pass0 pins σ H1 s1 er s' I1 z
      | ok fl =>
        cases fl with
        | ret u => exact I1.after z
        | next => exact z.elim
        | brk => exact z.elim
        | cont => exact z.elim
end
end Vx

/-! ## G20 -/
set_option Elab.async false
set_option linter.all false
set_option maxRecDepth 100000
set_option maxHeartbeats 4000000
namespace Vx
open PySem PySem.Spec PyProof.Rows L2 He
/-- {k: v}, k a tuple of ints and texts -/
def tDispT (tk tv : TE) : TE := fun σ H Q => ∀ p, H p = none → tk σ (upd H p (.dT [])) fun x H1 => tv σ H1 fun y H2 => H2 p = some (.dT []) ∧
  ∃ (k : List L2.Key) (b : Addr), x = .ref b ∧ H2 b = some (.tup (k.map kV)) ∧ Q (.ref p) (upd H2 p (.dT [(k, y)]))
def onePair (n : Addr) (Q : VK) : List (V × V) → Hp → Prop
  | [(x, y)], H2 => H2 n = some (.dT []) ∧ ∃ (k : List L2.Key) (b : Addr), x = .ref b ∧ H2 b = some (.tup (k.map kV)) ∧ Q (.ref n) (upd H2 n (.dT [(k, y)]))
  | _, _ => False
theorem pe_dispT {X : Cx} {pos : Pos} {k v : Expr} {tk tv : TE} (hu : X.A.units + 64 < cLine) (hk : PE X k tk) (hv : PE X v tv) : PE X (.Dict [some k] [v] pos) (tDispT tk tv) := by
  refine ⟨fun pins s σ H Q I q => ?_⟩
  have hn := I.hok.fresh (Nat.le_refl s.heap.objs.size)
  have I1 := I.laid (a := s.heap.objs.size) (o := .dT []) (h' := s.heap.push { cls := .type "dict", data := .dict #[] }) (t' := s.toks) (fun _ _ q => Heap.get?_push_of_some _ q) (Nat.le_refl _) (dt_empty s.heap I.big)
  rw [arm_eval_Dict, zip_pairTrees [some k] [v] X.env pos rfl rfl, dictDisplay_pairs (pairTrees [some k] [v] X.env pos) (fun z => nomatch z) (by show 1 < 17; decide)]
  refine wpAny_bind (wpAny_standAt (wpAny_bind (wpAny_subDictH (knd := tupleKind (mixKind X.prog X.w)) (Q := fun d s' => wpAny (model X.prog X.w) X.A (pure (Value.ref d)) (EP X pins σ Q) X.xe s') ?_ (by show 1 ≤ 15; decide)
    (thn ((pps_cons hk hv pps_nil).run pins _ σ _ (onePair s.heap.objs.size Q)
      I1 ?_) fun ws s2 z => ?_))))
  · show X.A.units < cLine
    omega
  · exact q _ hn
  · obtain ⟨ps, H2, I2, rel, q1⟩ := z
    match ps, q1 with
    | [(x, y)], q1 =>
    obtain ⟨e, ks, b, rfl, eb, q2⟩ := q1
    cases rel with
    | cons r rn =>
      cases rn
      obtain ⟨r1, r2⟩ := r
      rename_i wv
      obtain ⟨u, r⟩ := wv
      cases (show u = Value.ref b from r1)
      obtain ⟨z, hd, xs, rx, dd⟩ := dt_of I2.hok e
      cases rx
      refine ⟨[(ks, b, r)], ⟨rfl, rfl, key_of I2.hok eb, trivial⟩, dd, fun h' tk dd' hs => wpAny_pure ⟨.ref s.heap.objs.size, _, ?_, rfl, q2⟩⟩
      obtain ⟨q, es, ep, hq, h2, h3, h4, _, h5⟩ := dd'
      refine d_write I2 (by rw [e]; exact True.intro) hs ⟨q, hq⟩ ⟨by show 1 ≤ sizeLine; decide, hd, [(ks, b, r)], .cons ⟨rfl, ?_, r2⟩ .nil, q, es, ep, hq, h2, h3, h4, h5⟩
      rw [upd_ne (ne_of eb e (fun z => nomatch z))]
      exact eb
end Vx

/-! ## G21 -/
set_option Elab.async false
set_option linter.all false
set_option maxRecDepth 100000
set_option maxHeartbeats 4000000
namespace Vx
open PySem PySem.Spec PyProof.Rows L2 He
/-- z * 0, z * 1 -/
def rM01 : R2 := fun x y H Q => ∃ (z : Str) (n : Int), x = .str z ∧ y = .int n ∧ ((n = 0 ∧ Q (.str Str.empty) H) ∨ (n = 1 ∧ Q (.str z) H))
theorem op_mul01 {X : Cx} : OpR X (binaryOp .Mult) rM01 := by
  intro pins s σ H x y v u Q I rx ry h
  obtain ⟨z, n, rfl, rfl, h⟩ := h
  obtain ⟨t, rfl⟩ := rx
  obtain ⟨t', rfl⟩ := ry
  rcases h with ⟨rfl, q⟩ | ⟨rfl, q⟩
  · exact P.mul_str_none (by decide) (by decide) ⟨.str Str.empty, H, I.tok _, ⟨_, rfl⟩, q⟩
  · refine P.mul_str (by decide) (fun _ h => by simp at h) (fun _ h => by simp at h) ?_
    rw [if_neg (by decide), if_pos (by simp)]
    exact ⟨.str z, H, I, ⟨t, rfl⟩, q⟩
theorem mul01 (z : Str) {d : Int} (h : d = 0 ∨ d = 1) : ∃ z' : Str, (z' = Str.empty ∨ z' = z) ∧ ∀ (Q : VK) (H : Hp), Q (.str z') H → rM01 (.str z) (.int d) H Q := by
  rcases h with h | h
  · exact ⟨Str.empty, .inl rfl, fun Q H q => ⟨z, d, rfl, rfl, .inl ⟨h, q⟩⟩⟩
  · exact ⟨z, .inr rfl, fun Q H q => ⟨z, d, rfl, rfl, .inr ⟨h, q⟩⟩⟩
abbrev Asc (z : Str) : Prop := ∀ c ∈ z.cps.toList, c < 128
theorem asc_app {a b : Str} (ha : Asc a) (hb : Asc b) : Asc (a ++ b) := fun c hc => by
  rw [PySem.W.KT.app_list] at hc
  rcases List.mem_append.mp hc with h | h
  · exact ha c h
  · exact hb c h
/-- signs joined -/
theorem asc_join {cs : List Nat} (h : ∀ c ∈ cs, c < 128) : Asc (Txt.join (Str.ofString "") (cs.map fun c => ⟨#[c]⟩)) ∧ (Txt.join (Str.ofString "") (cs.map fun c => (⟨#[c]⟩ : Str))).length = cs.length := by
  refine ⟨fun c hc => ?_, ?_⟩
  · have e : Txt.join (Str.ofString "") (cs.map fun c => (⟨#[c]⟩ : Str)) = Str.join (Str.ofString "") (cs.map fun c => (⟨#[c]⟩ : Str)) := StrLaws.glued_eq_join _ _
    rw [e] at hc
    rcases (mem_join _ c _).mp hc with ⟨t, ht, hc⟩ | ⟨_, hc⟩
    · obtain ⟨d, hd, rfl⟩ := List.mem_map.mp ht
      have q : c = d := by simpa using hc
      rw [q]
      exact h d hd
    · exact nomatch (show c ∈ ([] : List Nat) from hc)
  · rw [PySem.W.KT.join_ones _ (fun a ha => by obtain ⟨d, _, rfl⟩ := List.mem_map.mp ha; rfl), List.length_map]
theorem ones_sum : ∀ cs : List Nat, ((cs.map fun c => (⟨#[c]⟩ : Str)).map (·.length)).sum = cs.length
  | [] => rfl
  | c :: cs => by
    rw [List.map_cons, List.map_cons, List.sum_cons, ones_sum cs, List.length_cons]
    show 1 + cs.length = cs.length + 1
    omega
/-- what is written at an address that was free -/
theorem Stp.putD {p D : Addr} {H H4 : Hp} {o : HO} (z : Stp p H H4) (hD : H D = none) (n : D ≠ p) : Stp p H (upd H4 D o) := by
  refine ⟨?_, fun a u e => ?_⟩
  · obtain ⟨a, b, e, r⟩ := z.pot
    exact ⟨a, b, (upd_ne n.symm).trans e, r⟩
  · obtain ⟨na, ea⟩ := off_some e
    have q := z.k a u e
    rw [off_ne na] at q
    rw [off_ne na, upd_ne (ne_of_none ea hD)]
    exact q
/-- a text, one of whose signs is chosen -/
def spPickS : Sp := fun vs H Q _ => ∃ (p : Addr) (z : Str), vs = [.ref p, .str z] ∧ Pot p H ∧ 1 ≤ z.length ∧ z.length ≤ 1000 ∧ ∀ (c : Nat) H', Stp p H H' → c ∈ z.cps.toList → Q (.str ⟨#[c]⟩) H'
def spWord : Sp := fun vs H Q _ => ∃ p : Addr, vs = [.ref p] ∧ Pot p H ∧ ∀ (z : Str) H', Stp p H H' → z.length ≤ 9 → Asc z → Q (.str z) H'
end Vx

/-! ## G22 -/
set_option Elab.async false
set_option linter.all false
set_option maxRecDepth 100000
set_option maxHeartbeats 4000000
namespace Vx
open PySem PySem.Spec PyProof.Rows L2 He
/-- small data of depth k -/
def G (k : Nat) (d : PyData) : Prop := okD d = true ∧ d.leavesShort 40 = true ∧ d.showable = true ∧ d.depth ≤ k ∧ d.weight ≤ 120 * 4 ^ k
theorem G.up {k : Nat} {d : PyData} (g : G k d) : G (k + 1) d := by
  obtain ⟨h1, h2, h3, h4, h5⟩ := g
  refine ⟨h1, h2, h3, by omega, ?_⟩
  rw [Nat.pow_succ]
  omega
theorem G_non : G 0 .none := ⟨rfl, rfl, rfl, Nat.le_refl _, Nat.zero_le _⟩
theorem G_bl (b : Bool) : G 0 (.bool b) := ⟨rfl, rfl, rfl, Nat.le_refl _, Nat.zero_le _⟩
theorem G_str {z : Str} (h : Asc z) (hl : z.length ≤ 100) : G 0 (.str z) := by
  refine ⟨?_, ?_, rfl, Nat.le_refl _, ?_⟩
  · rw [okD]
    exact decide_eq_true hl
  · simp only [PyData.leavesShort, List.all_eq_true, decide_eq_true_eq]
    intro c hc
    exact Nat.lt_of_lt_of_le (h c hc) (by decide)
  · show z.length ≤ 120 * 4 ^ 0
    omega
theorem G_int {i : Int} (h : i.natAbs < 10 ^ 31) : G 0 (.int i) := by
  have hl : i.natAbs.log2 < 104 := by
    by_cases z : i.natAbs = 0
    · rw [z]
      decide
    · exact (Nat.log2_lt z).2 (Nat.lt_of_lt_of_le h (by decide))
  refine ⟨rfl, ?_, ?_, Nat.le_refl _, ?_⟩
  · have q := int_text_length_le10 (k := 31) (by decide) h
    simp only [PyData.leavesShort, PyData.shown, decide_eq_true_eq]
    refine decide_eq_true ?_
    rw [PySem.ofString_length]
    omega
  · simp only [PyData.showable, decide_eq_true_eq]
    omega
  · simp only [PyData.weight]
    split <;> omega
theorem allG {k : Nat} : ∀ {ds : List PyData}, (∀ d ∈ ds, G k d) → okAll ds = true ∧ PyData.leavesShortAll 40 ds = true ∧ PyData.showableAll ds = true ∧ PyData.depthAll ds ≤ k ∧ PyData.weightAll ds ≤ ds.length * (120 * 4 ^ k + 1)
  | [], _ => ⟨rfl, rfl, rfl, Nat.zero_le _, Nat.zero_le _⟩
  | d :: ds, h => by
    obtain ⟨a1, a2, a3, a4, a5⟩ := allG fun e he => h e (List.mem_cons_of_mem _ he)
    obtain ⟨b1, b2, b3, b4, b5⟩ := h d (List.mem_cons_self ..)
    refine ⟨?_, ?_, ?_, ?_, ?_⟩
    · rw [okAll, a1, b1]
      rfl
    · rw [PyData.leavesShortAll, a2, b2]
      rfl
    · rw [PyData.showableAll, a3, b3]
      rfl
    · rw [PyData.depthAll]
      omega
    · rw [PyData.weightAll, List.length_cons, Nat.add_mul]
      omega
theorem G_lst {k : Nat} {ds : List PyData} (h : ∀ d ∈ ds, G k d) (hl : ds.length ≤ 3) : G (k + 1) (.list ds) := by
  obtain ⟨a1, a2, a3, a4, a5⟩ := allG h
  refine ⟨?_, ?_, ?_, ?_, ?_⟩
  · rw [okD, a1, decide_eq_true (by omega)]
    rfl
  · simpa only [PyData.leavesShort] using a2
  · simpa only [PyData.showable] using a3
  · simp only [PyData.depth]
    omega
  · simp only [PyData.weight]
    have q : ds.length * (120 * 4 ^ k + 1) ≤ 3 * (120 * 4 ^ k + 1) := Nat.mul_le_mul_right _ hl
    have q2 : 0 < 4 ^ k := Nat.pow_pos (by decide)
    rw [Nat.pow_succ]
    omega
theorem G_tup {k : Nat} {ds : List PyData} (h : ∀ d ∈ ds, G k d) (hl : ds.length ≤ 3) : G (k + 1) (.tuple ds) := by
  obtain ⟨a1, a2, a3, a4, a5⟩ := allG h
  refine ⟨?_, ?_, ?_, ?_, ?_⟩
  · rw [okD, a1, decide_eq_true (by omega)]
    rfl
  · simpa only [PyData.leavesShort] using a2
  · simpa only [PyData.showable] using a3
  · simp only [PyData.depth]
    omega
  · simp only [PyData.weight]
    have q : ds.length * (120 * 4 ^ k + 1) ≤ 3 * (120 * 4 ^ k + 1) := Nat.mul_le_mul_right _ hl
    have q2 : 0 < 4 ^ k := Nat.pow_pos (by decide)
    rw [Nat.pow_succ]
    omega
theorem G_dict0 : G 1 (.dict []) := ⟨rfl, rfl, rfl, Nat.le_refl _, Nat.zero_le _⟩
theorem G_dict1 {k : Nat} {a b : PyData} (ha : G k a) (hb : G k b) : G (k + 1) (.dict [(a, b)]) := by
  obtain ⟨a1, a2, a3, a4, a5⟩ := ha
  obtain ⟨b1, b2, b3, b4, b5⟩ := hb
  refine ⟨rfl, ?_, ?_, ?_, ?_⟩
  · simp only [PyData.leavesShort, PyData.leavesShortKv, a2, b2, Bool.and_self]
  · simp only [PyData.showable, PyData.showableKv, a3, b3, Bool.and_self]
  · simp only [PyData.depth, PyData.depthKv]
    omega
  · simp only [PyData.weight, PyData.weightKv]
    have q2 : 0 < 4 ^ k := Nat.pow_pos (by decide)
    rw [Nat.pow_succ]
    omega
theorem G_menu {ds : List PyData} (h : ∀ d ∈ ds, G 2 d) (hl : ds.length ≤ 60) : Show (.list ds) := by
  obtain ⟨a1, a2, a3, a4, a5⟩ := allG h
  refine ⟨by simpa only [PyData.showable] using a3, by simp only [PyData.depth]; omega, ?_⟩
  have q := PyData.shown_le 40 (by decide) (.list ds) (by simpa only [PyData.leavesShort] using a2)
  have q2 : ds.length * (120 * 4 ^ 2 + 1) ≤ 60 * (120 * 4 ^ 2 + 1) := Nat.mul_le_mul_right _ hl
  have q3 : (PyData.list ds).weight = PyData.weightAll ds := by simp only [PyData.weight]
  rw [q3] at q
  have q4 : 10000000 ≤ sizeLine := by decide
  omega
/-- x is such data -/
def El (K : PySem.W.Frag) (H : Hp) (k : Nat) (x : V) : Prop := ∃ d, Da K H x d ∧ G k d
section
variable {K : PySem.W.Frag} {H H' : Hp} {k : Nat} {x : V}
theorem El.mono (s : Same H H') (h : El K H k x) : El K H' k x := let ⟨d, a, g⟩ := h; ⟨d, a.mono s, g⟩
theorem El.up (h : El K H k x) : El K H (k + 1) x := let ⟨d, a, g⟩ := h; ⟨d, a, g.up⟩
theorem El.non : El K H 0 .non := ⟨_, .non, G_non⟩
theorem El.bl (b : Bool) : El K H 0 (.bl b) := ⟨_, .bl b, G_bl b⟩
theorem El.int {i : Int} (h : i.natAbs < 10 ^ 31) : El K H 0 (.int i) := ⟨_, .int i, G_int h⟩
theorem El.str {z : Str} (h : Asc z) (hl : z.length ≤ 100) : El K H 0 (.str z) := ⟨_, .str z, G_str h hl⟩
theorem els_das : ∀ {xs : List V}, (∀ x ∈ xs, El K H k x) → ∃ ds, Das K H xs ds ∧ (∀ d ∈ ds, G k d) ∧ ds.length = xs.length
  | [], _ => ⟨[], .nil, (fun _ h => nomatch h), rfl⟩
  | x :: xs, h => by
    obtain ⟨d, a, g⟩ := h x (List.mem_cons_self ..)
    obtain ⟨ds, as, gs, l⟩ := els_das fun y hy => h y (List.mem_cons_of_mem _ hy)
    exact ⟨d :: ds, .cons a as, List.forall_mem_cons.2 ⟨g, gs⟩, by rw [List.length_cons, List.length_cons, l]⟩
theorem El.lst {a : Addr} {xs : List V} (e : H a = some (.lst xs)) (h : ∀ x ∈ xs, El K H k x) (hl : xs.length ≤ 3) : El K H (k + 1) (.ref a) := by
  obtain ⟨ds, as, gs, l⟩ := els_das h
  exact ⟨_, .lst (SqL.of e) as, G_lst gs (by omega)⟩
theorem El.tup {a : Addr} {xs : List V} (e : H a = some (.tup xs)) (h : ∀ x ∈ xs, El K H k x) (hl : xs.length ≤ 3) : El K H (k + 1) (.ref a) := by
  obtain ⟨ds, as, gs, l⟩ := els_das h
  exact ⟨_, .tup (SqT.of e) as, G_tup gs (by omega)⟩
theorem El.dict0 {a : Addr} (e : H a = some (.dK [])) : El K H 1 (.ref a) := ⟨_, .dK e .nil, G_dict0⟩
theorem El.dict2 {a : Addr} {z y : Str} {v : V} (e : H a = some (.dT [([.inr z, .inr y], v)])) (hz : Asc z) (hy : Asc y) (lz : z.length ≤ 100) (ly : y.length ≤ 100) (hv : El K H 1 v) : El K H 2 (.ref a) := by
  obtain ⟨d, a, g⟩ := hv
  exact ⟨_, .dT e (.cons a .nil), G_dict1 (G_tup (List.forall_mem_cons.2 ⟨G_str hz lz, List.forall_mem_cons.2 ⟨G_str hy ly, fun _ h => nomatch h⟩⟩) (by show 2 ≤ 3; decide)) g⟩
end
/-- the menu -/
def spMenu (K : PySem.W.Frag) : Sp := fun vs H Q _ => ∃ p : Addr, vs = [.ref p] ∧ Pot p H ∧ ∀ (m : Addr) (xs : List V) H', Stp p H H' → off p H' m = some (.lst xs) → (∀ x ∈ xs, El K (off p H') 2 x) → xs.length ≤ 60 → Q (.ref m) H'
end Vx

/-! ## G23 -/
set_option Elab.async false
set_option linter.all false
set_option maxRecDepth 100000
set_option maxHeartbeats 4000000
namespace Vx
open PySem PySem.Spec PyProof.Rows L2 He
section
variable {K : PySem.W.Frag} {p : Addr} {H0 : Hp} {σ : L2.St}
/-- te makes small data of depth k, changing nothing that stands -/
def Mk (K : PySem.W.Frag) (p : Addr) (H0 : Hp) (σ : L2.St) (k : Nat) (te : TE) : Prop :=
  ∀ H (R : VK), Same H0 H → Pot p H → (∀ x H', Same H H' → El K (off p H') k x → R x H') → te σ H R
def MkL (K : PySem.W.Frag) (p : Addr) (H0 : Hp) (σ : L2.St) (k n : Nat) (tas : TA) : Prop :=
  ∀ H (R : List V → Hp → Prop), Same H0 H → Pot p H → (∀ xs H', Same H H' → (∀ x ∈ xs, El K (off p H') k x) → xs.length = n → R xs H') → tas σ H R
theorem Mk.up {k : Nat} {te : TE} (h : Mk K p H0 σ k te) : Mk K p H0 σ (k + 1) te := fun H R s P q => h H R s P fun x H' s' e => q x H' s' e.up
theorem mkl_nil {k : Nat} : MkL K p H0 σ k 0 tNil := fun H R s P q => q [] H (Same.refl H) (fun _ h => nomatch h) rfl
theorem mkl_cons {k n : Nat} {te : TE} {tas : TA} (h : Mk K p H0 σ k te) (hs : MkL K p H0 σ k n tas) : MkL K p H0 σ k (n + 1) (tCons te tas) := fun H R s P q =>
  h H _ s P fun x H1 s1 e => hs H1 _ (s.trans s1) (P.keep s1) fun xs H2 s2 es l => q (x :: xs) H2 (s1.trans s2) (List.forall_mem_cons.2 ⟨e.mono (same_off s2), es⟩) (by rw [List.length_cons, l])
theorem mk_c {k : Nat} {v : V} (h : ∀ H, El K H k v) : Mk K p H0 σ k (tC v) := fun H R s P q => q v H (Same.refl H) (h _)
theorem mk_var {k i : Nat} {v : V} (hv : σ[i]? = some (some v)) (h : El K (off p H0) k v) : Mk K p H0 σ k (tVar i) := fun H R s P q => ⟨v, hv, q v H (Same.refl H) (h.mono (same_off s))⟩
theorem mk_lst {k n : Nat} {tas : TA} (h : MkL K p H0 σ k n tas) (hn : n ≤ 3) : Mk K p H0 σ (k + 1) (tLst tas) := fun H R s P q =>
  h H _ s P fun xs H1 s1 es l => ⟨by rw [l]; exact Nat.le_of_lt (small1000 (by omega)), fun a ha => q _ _ (s1.trans (same_new ha))
    (El.lst ((off_ne ((P.keep s1).new ha)).trans upd_same) (fun x hx => (es x hx).mono (same_off (same_new ha))) (by omega))⟩
theorem mk_tup {k n : Nat} {tas : TA} (h : MkL K p H0 σ k n tas) (hn : n ≤ 3) : Mk K p H0 σ (k + 1) (tTup tas) := fun H R s P q =>
  h H _ s P fun xs H1 s1 es l => ⟨by rw [l]; exact Nat.le_of_lt (small1000 (by omega)), fun a ha => q _ _ (s1.trans (same_new ha))
    (El.tup ((off_ne ((P.keep s1).new ha)).trans upd_same) (fun x hx => (es x hx).mono (same_off (same_new ha))) (by omega))⟩
theorem mk_lst0 {k : Nat} : Mk K p H0 σ (k + 1) (tLst tNil) := mk_lst mkl_nil (by decide)
theorem mk_lst1 {k : Nat} {a : TE} (h : Mk K p H0 σ k a) : Mk K p H0 σ (k + 1) (tLst (tCons a tNil)) := mk_lst (mkl_cons h mkl_nil) (by decide)
theorem mk_lst2 {k : Nat} {a b : TE} (h : Mk K p H0 σ k a) (h2 : Mk K p H0 σ k b) : Mk K p H0 σ (k + 1) (tLst (tCons a (tCons b tNil))) := mk_lst (mkl_cons h (mkl_cons h2 mkl_nil)) (by decide)
theorem mk_lst3 {k : Nat} {a b c : TE} (h : Mk K p H0 σ k a) (h2 : Mk K p H0 σ k b) (h3 : Mk K p H0 σ k c) : Mk K p H0 σ (k + 1) (tLst (tCons a (tCons b (tCons c tNil)))) := mk_lst (mkl_cons h (mkl_cons h2 (mkl_cons h3 mkl_nil))) (by decide)
theorem mk_tup0 {k : Nat} : Mk K p H0 σ (k + 1) (tTup tNil) := mk_tup mkl_nil (by decide)
theorem mk_tup1 {k : Nat} {a : TE} (h : Mk K p H0 σ k a) : Mk K p H0 σ (k + 1) (tTup (tCons a tNil)) := mk_tup (mkl_cons h mkl_nil) (by decide)
theorem mk_tup2 {k : Nat} {a b : TE} (h : Mk K p H0 σ k a) (h2 : Mk K p H0 σ k b) : Mk K p H0 σ (k + 1) (tTup (tCons a (tCons b tNil))) := mk_tup (mkl_cons h (mkl_cons h2 mkl_nil)) (by decide)
theorem mk_tup3 {k : Nat} {a b c : TE} (h : Mk K p H0 σ k a) (h2 : Mk K p H0 σ k b) (h3 : Mk K p H0 σ k c) : Mk K p H0 σ (k + 1) (tTup (tCons a (tCons b (tCons c tNil)))) := mk_tup (mkl_cons h (mkl_cons h2 (mkl_cons h3 mkl_nil))) (by decide)
theorem mk_dnew : Mk K p H0 σ 1 tDNewK := fun H R s P q => fun a ha => q _ _ (same_new ha) (El.dict0 ((off_ne (P.new ha)).trans upd_same))
/-- {pair: pair}, the pair in a slot -/
theorem mk_dispT {i : Nat} {b : Addr} {z y : Str} (hv : σ[i]? = some (some (.ref b))) (e : H0 b = some (.tup [.str z, .str y])) (az : Asc z) (ay : Asc y) (lz : z.length ≤ 100) (ly : y.length ≤ 100) (h : El K (off p H0) 1 (.ref b)) :
    Mk K p H0 σ 2 (tDispT (tVar i) (tVar i)) := fun H R s P q => fun a ha => by
  have e1 : upd H a (.dT []) b = some (.tup [.str z, .str y]) := (same_new ha) _ _ (s _ _ e)
  refine ⟨_, hv, _, hv, upd_same, [.inr z, .inr y], b, rfl, e1, ?_⟩
  have sa : Same H (upd (upd H a (.dT [])) a (.dT [([.inr z, .inr y], .ref b)])) := fun c o ec => by
    have n := ne_of_none ec ha
    rw [upd_ne n, upd_ne n]
    exact ec
  exact q _ _ sa (El.dict2 ((off_ne (P.new ha)).trans upd_same) az ay lz ly (h.mono (same_off (s.trans sa))))
theorem mk_pow {i j : Int} (h0 : CPow i j) (h : (i ^ j.toNat).natAbs < 10 ^ 31) : Mk K p H0 σ 0 (tOp (rI CPow fun i j => V.int (i ^ j.toNat)) (tC (.int i)) (tC (.int j))) := fun H R s P q =>
  ⟨i, j, rfl, rfl, h0, q _ H (Same.refl H) (El.int h)⟩
theorem mk_neg {i : Int} (h : (-i).natAbs < 10 ^ 31) : Mk K p H0 σ 0 (tUn (rU fun i => V.int (-i)) (tC (.int i))) := fun H R s P q => ⟨i, rfl, q _ H (Same.refl H) (El.int h)⟩
theorem mk_sub0 {i : Nat} {g : Int} (hv : σ[i]? = some (some (.int g))) (h : (0 - g).natAbs < 10 ^ 31) : Mk K p H0 σ 0 (tOp (rI0 fun i j => V.int (i - j)) (tC (.int 0)) (tVar i)) := fun H R s P q =>
  ⟨_, hv, _, _, rfl, rfl, q _ H (Same.refl H) (El.int h)⟩
/-- [e] * 3 -/
theorem mk_rep3 {k : Nat} {te : TE} (h : Mk K p H0 σ k te) : Mk K p H0 σ (k + 1) (tOp rRep (tLst (tCons te tNil)) (tC (.int 3))) := fun H R s P q =>
  h H _ s P fun x H1 s1 ex => ⟨by show 1 ≤ sizeLine; decide, fun a ha => ⟨a, _, _, rfl, rfl, upd_same, by decide, by decide, (by show 1 * 3 ≤ sizeLine; decide), fun b hb =>
    q _ _ (s1.trans ((same_new ha).trans (same_new hb))) (El.lst (xs := [x, x, x]) ((off_ne (((P.keep s1).keep (same_new ha)).new hb)).trans upd_same)
      (fun y hy => by
        have e : y = x := by simpa using hy
        rw [e]
        exact ex.mono (same_off ((same_new ha).trans (same_new hb)))) (by show 3 ≤ 3; decide))⟩⟩
/-- found = [..] -/
theorem lst_mk {n : Nat} {tas : TA} {Q : VK} (P : Pot p H0) (h : MkL K p H0 σ 2 n tas) (hl : n ≤ 60)
    (q : ∀ a ys H', Same H0 H' → H' a = some (.lst ys) → H0 a = none → (∀ x ∈ ys, El K (off p H') 2 x) → ys.length = n → Q (.ref a) H') : tLst tas σ H0 Q := by
  refine h H0 _ (Same.refl _) P fun ys H1 s1 ey l => ⟨by rw [l]; exact Nat.le_of_lt (small1000 (by omega)), fun a ha => ?_⟩
  exact q a ys _ (s1.trans (same_new ha)) upd_same (s1.free ha) (fun x hx => (ey x hx).mono (same_off (same_new ha))) l
/-- found = found + [..] -/
theorem cat_mk {n : Nat} {tas : TA} {m : Addr} {xs : List V} {i : Nat} {Q : VK} (hv : σ[i]? = some (some (.ref m))) (e : H0 m = some (.lst xs)) (P : Pot p H0) (es : ∀ x ∈ xs, El K (off p H0) 2 x) (h : MkL K p H0 σ 2 n tas) (hl : xs.length + n ≤ 60)
    (q : ∀ a ys H', Same H0 H' → H' a = some (.lst ys) → H0 a = none → (∀ x ∈ ys, El K (off p H') 2 x) → ys.length = xs.length + n → Q (.ref a) H') : tOp rCat (tVar i) (tLst tas) σ H0 Q := by
  refine ⟨_, hv, h H0 _ (Same.refl _) P fun ys H1 s1 ey l => ⟨by rw [l]; exact Nat.le_of_lt (small1000 (by omega)), fun a ha => ?_⟩⟩
  refine ⟨m, a, xs, ys, rfl, rfl, (same_new ha) _ _ (s1 _ _ e), upd_same, Nat.le_of_lt (small1000 (by omega)), fun b hb => ?_⟩
  have s2 := (same_new ha (o := .lst ys)).trans (same_new hb (o := .lst (xs ++ ys)))
  refine q b (xs ++ ys) _ (s1.trans s2) upd_same (s1.free ((same_new ha).free hb)) (fun x hx => ?_) (by rw [List.length_append, l])
  rcases List.mem_append.mp hx with h | h
  · exact (es x h).mono (same_off (s1.trans s2))
  · exact (ey x h).mono (same_off s2)
end
end Vx

/-! ## G24 -/
set_option Elab.async false
set_option linter.all false
set_option maxRecDepth 100000
set_option maxHeartbeats 4000000
namespace Vx
open PySem PySem.Spec PyProof.Rows L2 He
/-- a list or a tuple, walked -/
def iSeq (K : PySem.W.Frag) (tl : TE) : TI := fun σ H R => tl σ H fun x H1 => ∃ a, x = .ref a ∧ (((∃ xs, SqL K H1 a xs) ∧ R (Itl K a) H1) ∨ ((∃ xs, SqT K H1 a xs) ∧ R (Itt K a) H1))
theorem pi_seq {X : Cx} {tg l : Expr} {tl : TE} (hl : PE X l tl) : PI X tg l (iSeq X.K tl) := ⟨fun pins s0 σ H0 R I0 hyp => by
  refine thn (hl.run pins s0 σ H0 _ I0 hyp) fun val s2 ⟨y, H2, I2, ry, cont⟩ => ?_
  obtain ⟨adr, rfl, cont⟩ := cont
  cases ry
  rcases cont with ⟨⟨ys, hs⟩, fin⟩ | ⟨⟨ys, hs⟩, fin⟩
  · obtain ⟨itm, rel, isl, _⟩ := I2.list hs
    refine wpAny_pyIter_list isl.isList ⟨_, [s2.heap.objs.size], _, _, H2, rfl, I2.kept (t' := s2.toks) (fun _ _ z => Heap.get?_push_of_some _ z), turn_list adr _, ⟨_, Heap.get?_push_size _ rfl, rfl, rfl⟩, fun c hc => ?_, fin⟩
    obtain rfl : c = s2.heap.objs.size := by simpa using hc
    exact I2.fpOk (Nat.le_refl _) (I2.hok.fresh (Nat.le_refl _))
  · obtain ⟨itm, rel, ist, _⟩ := I2.tuple hs
    refine wpAny_pyIter_tuple (show s2.heap.IsTuple adr itm.toArray from ist) ⟨_, [s2.heap.objs.size], _, _, H2, rfl, I2.kept (t' := s2.toks) (fun _ _ z => Heap.get?_push_of_some _ z), turn_tuple adr _, ⟨_, Heap.get?_push_size _ rfl, rfl, rfl⟩, fun c hc => ?_, fin⟩
    obtain rfl : c = s2.heap.objs.size := by simpa using hc
    exact I2.fpOk (Nat.le_refl _) (I2.hok.fresh (Nat.le_refl _))⟩
theorem pi_seqK {X : Cx} {K : PySem.W.Frag} {tg l : Expr} {tl : TE} (hK : X.K = K) (hl : PE X l tl) : PI X tg l (iSeq K tl) := by
  subst hK
  exact pi_seq hl
section
variable {K : PySem.W.Frag} {σ : L2.St} {H : Hp}
/-- [g(part) for part in x], x a list or a tuple of data -/
theorem da_lcS {x : V} {d : PyData} {j : Nat} {vs : List Nat} {tl te : TE} {Q : VK} (g : PyData → Bool) (hv : ∀ R : VK, R x H → tl σ H R) (hd : Da K H x d) (ok : okD d = true) (sq : seqD d = true)
    (ht : ∀ v d H1 (R : VK), Da K H1 v d → okD d = true → (∀ H2, Same H1 H2 → R (.bl (g d)) H2) → te ((wipe σ vs).set j (some v)) H1 R)
    (hw : ∀ x, wipe ((wipe σ vs).set j (some x)) vs = wipe σ vs)
    (q : ∀ D H' ds, H D = none → Same H H' → (d = .list ds ∨ d = .tuple ds) → H' D = some (.lst ((ds.map g).map V.bl)) → Q (.ref D) H') : tLc (iSeq K tl) (gName j) tYes te vs σ H Q := by
  cases hd with
  | non => cases sq
  | bl _ => cases sq
  | int _ => cases sq
  | str _ => cases sq
  | dK _ _ => cases sq
  | dT _ _ => cases sq
  | @lst a xs ds hp r =>
    refine hv _ ⟨a, rfl, .inl ⟨⟨_, hp⟩, fun D hD => lc_list (K := K) (a := a) (xs := xs) (fun i H' => H D = none ∧ Same H H' ∧ H' D = some (.lst ((ds.map fun d => V.bl (g d)).take i))) ⟨hD, same_new hD, upd_same⟩
      (fun i H' _ z => z.2.1.seq hp) (fun i x H' hi z => ⟨hw x, das_step hi r (okLst ok).2 (okLst ok).1 ht z fun _ h => h⟩) fun H' z => q D H' ds z.1 z.2.1 (.inl rfl) (z.2.2.trans ?_)⟩⟩
    rw [das_end r.len]
  | @tup a xs ds hp r =>
    refine hv _ ⟨a, rfl, .inr ⟨⟨_, hp⟩, fun D hD => lc_tup (K := K) (a := a) (xs := xs) (fun i H' => H D = none ∧ Same H H' ∧ H' D = some (.lst ((ds.map fun d => V.bl (g d)).take i))) ⟨hD, same_new hD, upd_same⟩
      (fun i H' _ z => Vx.seqT z.2.1 hp) (fun i x H' hi z => ⟨hw x, das_step hi r (okTup ok).2 (okTup ok).1 ht z fun _ h => h⟩) fun H' z => q D H' ds z.1 z.2.1 (.inr rfl) (z.2.2.trans ?_)⟩⟩
    rw [das_end r.len]
theorem show_bools (bs : List Bool) (h : bs.length ≤ 60) : Show (.list (bs.map PyData.bool)) :=
  G_menu (fun d hd => by obtain ⟨b, _, rfl⟩ := List.mem_map.mp hd; exact (G_bl b).up.up) (by rw [List.length_map]; exact h)
theorem das_bools : ∀ bs : List Bool, Das K H (bs.map V.bl) (bs.map PyData.bool)
  | [] => .nil
  | b :: bs => .cons (.bl b) (das_bools bs)
/-- isinstance(x, (list, tuple)) and all([pair(part) for part in x]) -/
theorem all_pair {i j : Nat} {vs : List Nat} {x : V} {d : PyData} {te : TE} {Q : VK} (hv : ∀ H : Hp, ∀ R : VK, R x H → tVar i σ H R) (hd : Da K H x d) (ok : okD d = true)
    (ht : ∀ v d H1 (R : VK), Da K H1 v d → okD d = true → (∀ H2, Same H1 H2 → R (.bl (pairD d)) H2) → te ((wipe σ vs).set j (some v)) H1 R)
    (hw : ∀ x, wipe ((wipe σ vs).set j (some x)) vs = wipe σ vs) (q : ∀ H', Same H H' → Q (.bl (rowD d)) H') :
    tAndV (tCB (rIsDT K) (tCons (tVar i) (tCons (tTup (tCons (tC (.ty "list")) (tCons (tC (.ty "tuple")) tNil))) tNil))) (tCB (rAll K) (tCons (tLc (iSeq K (tVar i)) (gName j) tYes te vs) tNil)) σ H Q := by
  refine hv _ _ ⟨by show 2 ≤ sizeLine; decide, fun a ha => ⟨x, d, a, rfl, upd_same, hd.mono (same_new ha), _, rfl, ?_⟩⟩
  rw [isLT]
  cases e : seqD d with
  | false =>
    refine iteF ?_
    have e2 : rowD d = false := by
      cases d <;> first | rfl | cases e
    rw [← e2]
    exact q _ (same_new ha)
  | true =>
    refine iteT (in_cb (in_cons ?_))
    refine da_lcS (K := K) pairD (hv _) (hd.mono (same_new ha)) ok e ht hw fun D H2 ds n2 s2 ed e2 => ?_
    refine ⟨D, _, rfl, SqL.of e2, ?_⟩
    rw [all_map]
    have e3 : rowD d = ds.all pairD := by
      rcases ed with rfl | rfl <;> rfl
    rw [← e3]
    exact q _ ((same_new ha).trans s2)
/-- number(x) and x >= 0 -/
theorem cnt_ev {i : Nat} {x : V} {d : PyData} {Q : VK} (hv : ∀ H : Hp, ∀ R : VK, R x H → tVar i σ H R) (hd : Da K H x d) (ok : okD d = true) (q : ∀ H', Same H H' → Q (.bl (cntD d)) H') :
    tAndV (tCall (spP K numD) [] E0 (tCons (tVar i) tNil)) (tOp (rI0 fun i j => V.bl (decide (j ≤ i))) (tVar i) (tC (.int 0))) σ H Q := by
  refine hv _ _ ⟨x, d, rfl, hd, ok, fun H1 s1 => ⟨_, rfl, ?_⟩⟩
  have q1 := q H1 s1
  cases hd with
  | int i => exact iteT (hv _ _ ⟨_, _, rfl, rfl, q1⟩)
  | non => exact iteF q1
  | bl _ => exact iteF q1
  | str _ => exact iteF q1
  | lst _ _ => exact iteF q1
  | tup _ _ => exact iteF q1
  | dK _ _ => exact iteF q1
  | dT _ _ => exact iteF q1
end
end Vx

/-! ## G25 -/
set_option Elab.async false
set_option linter.all false
set_option maxRecDepth 100000
set_option maxHeartbeats 4000000
namespace Vx
open PySem PySem.Spec PyProof.Rows L2
section
variable {P : Program} {w : World} {K : PySem.W.Frag} {mg mb : Str → Option Value} {k : Nat} {fa a : Addr} {fd : FuncData} {x : Str} {sp : Sp} {t : Shared} {us : List Value} {zs : List Int}
/-- the call of the law at an abstract heap that tracks at most the script -/
theorem callAt (inK : K.In t.heap) (gN : t.heap.Ns mainGlobals mg) (bN : t.heap.Ns builtinsNs mb) (bOk : ∀ y : Str, y ≠ "__name__" → mb y = bootBuiltins y) (noL : t.heap.NoLimit) (noG : t.gens = #[])
    (scr : t.heap.get? a = some { cls := .type "list", data := .seq us.toArray }) (room : Room k callerA) (fn : ∀ base : Heap, K.In base → base.Ns mainGlobals mg → FnG P w K mg base CX0 k fa fd [x] sp)
    (bnd : ∀ (s : Shared) (u : Value), BindsTo s fd ⟨[u], []⟩ [(x, u)]) {H : Hp} (prom : sp [.ref a] H (fun v _ => v = .bl true) fun _ _ _ => False) (good : HOk P w H t.heap)
    (onl : ∀ b u, H b = some u → b = a ∧ ∃ o xs, u = .frz o (.lst xs)) (offK : (H a).isSome = true → K.lookup a = none) :
    codeAny (model P w) callerA (.call (.ref fa) ⟨[.ref a], []⟩) (fun r s' => r = .ok (.ret (.bool true)) ∧ OldK t.heap s'.heap ∧ s'.os = t.os ∧ AllBare s'.gens) t := by
  -- what is not the script stands in the hidden heap too
  have keepD : ∀ {b : Addr} {o : Obj} {es : Array DictEntry} {n : Nat}, t.heap.get? b = some o → o.data = .dict es n → (hidT t.heap H).get? b = some o := by
    intro b o es n eo ed
    refine hidT_get eo ?_
    rcases hb : H b with _ | u
    · rfl
    · obtain ⟨rfl, _⟩ := onl b u hb
      rw [scr] at eo
      cases eo
      exact nomatch (show Data.seq us.toArray _ = Data.dict es n from ed)
  have keepN : ∀ {b : Addr} {m : Str → Option Value}, t.heap.Ns b m → (hidT t.heap H).Ns b m := by
    rintro b m ⟨o, es, n, h1, h2, h3⟩
    exact ⟨o, es, n, keepD h1 h2, h2, h3⟩
  have keepK : K.In (hidT t.heap H) := by
    intro b o eb
    refine hidT_get (inK b o eb) ?_
    rcases hb : H b with _ | u
    · rfl
    · obtain ⟨rfl, _⟩ := onl b u hb
      rw [offK (by rw [hb]; rfl)] at eb
      cases eb
  obtain ⟨ml, l1, l2⟩ := noL
  have env : Env0 P w K mg (hidT t.heap H) callerA [] t H :=
    ⟨rfl, ⟨keepK, keepN gN, ⟨mb, keepN bN, bOk⟩, ml, keepN l1, l2⟩, fun _ _ e => of_hidT e, Nat.le_of_eq (hidT_size _ _), trivial, (fun _ hb => nomatch hb), good, .of_eq noG⟩
  have go := (fn _ keepK (keepN gN)).go callerA [] t H ⟨[.ref a], []⟩ [.ref a] [.ref a] _ _ room rfl env (bnd t (.ref a)) (.cons rfl .nil) prom
  refine codeAny_mono go ?_
  rintro (er | fl) s2 out
  · exact out.elim
  · rcases fl with _ | _ | _ | u
    all_goals first | exact out.elim | skip
    obtain ⟨v, H2, sameOs, bare, kept, good2, rv, hv⟩ := out
    cases (show v = .bl true from hv)
    cases (show u = Value.bool true from rv)
    refine ⟨rfl, OldK.of_keep fun b o eb => ?_, sameOs, bare⟩
    rcases hb : H b with _ | u
    · exact kept.keep b o eb hb (fun z => nomatch (show b ∈ ([] : List Addr) from z)) (fun z => nomatch z)
    · obtain ⟨_, ob, xs, rfl⟩ := onl b u hb
      have q1 := (good b _ hb).1
      have q2 := (good2 b _ (kept.frzs b ob _ hb)).1
      rw [eb] at q1
      cases q1
      exact q2
/-- the script, tracked as it stands -/
def trk (o : Obj) (xs : List V) (a : Addr) : Hp := fun b => if b = a then some (.frz o (.lst xs)) else none
theorem callG (inK : K.In t.heap) (gN : t.heap.Ns mainGlobals mg) (bN : t.heap.Ns builtinsNs mb) (bOk : ∀ y : Str, y ≠ "__name__" → mb y = bootBuiltins y) (noL : t.heap.NoLimit) (noG : t.gens = #[])
    (scr : t.heap.get? a = some { cls := .type "list", data := .seq us.toArray }) (ii : IntsAre us zs) (few : zs.length ≤ sizeLine) (room : Room k callerA)
    (fn : ∀ base : Heap, K.In base → base.Ns mainGlobals mg → FnG P w K mg base CX0 k fa fd [x] sp) (bnd : ∀ (s : Shared) (u : Value), BindsTo s fd ⟨[u], []⟩ [(x, u)])
    (prom : ∀ H : Hp, SqL K H a (zs.map V.int) → sp [.ref a] H (fun v _ => v = .bl true) fun _ _ _ => False) :
    codeAny (model P w) callerA (.call (.ref fa) ⟨[.ref a], []⟩) (fun r s' => r = .ok (.ret (.bool true)) ∧ OldK t.heap s'.heap ∧ s'.os = t.os ∧ AllBare s'.gens) t := by
  have rel := vals_ints ii
  have len := ii.length
  rcases hk : K.lookup a with _ | o
  · have at_ : trk { cls := .type "list", data := .seq us.toArray } (zs.map V.int) a a = some (.frz { cls := .type "list", data := .seq us.toArray } (.lst (zs.map V.int))) := if_pos rfl
    refine callAt (H := trk { cls := .type "list", data := .seq us.toArray } (zs.map V.int) a) inK gN bN bOk noL noG scr room fn bnd (prom _ (.inl (.inr ⟨_, at_⟩))) ?_ ?_ fun _ => hk
    · intro b u eu
      by_cases hb : b = a
      · subst hb
        cases at_.symm.trans eu
        exact ⟨scr, by rw [List.length_map]; exact few, us, _, rel, scr⟩
      · cases (if_neg hb).symm.trans eu
    · intro b u eu
      by_cases hb : b = a
      · subst hb
        cases at_.symm.trans eu
        exact ⟨rfl, _, _, rfl⟩
      · cases (if_neg hb).symm.trans eu
  · have eo := inK a o hk
    rw [scr] at eo
    cases eo
    exact callAt (H := fun _ => none) inK gN bN bOk noL noG scr room fn bnd (prom _ (.inr ⟨_, us.toArray, _, hk, rfl, rfl, rfl, by rw [List.size_toArray, len]; exact few, by simpa using rel⟩))
      (fun _ _ z => nomatch z) (fun _ _ z => nomatch z) fun z => nomatch z
end
/-- the end of a law whose def keeps its promise where no repr is open -/
theorem walkG {l : PySem.W.OpenLaw} {n k : Nat} {q : Program} {loose : List Str} {XP : (Str → Option Value) → Heap → Prop} {YP : World → Heap → Prop} {d : DefRec} {x : Str} (most : l.most = some n) (n2 : n ≤ sizeLine) (nodf : d.params.defaults = []) (room : Room k callerA)
    (F : ∀ (w : World) (mg : Str → Option Value) (fa : Addr) (h : Heap), YP w h → h.Ns mainGlobals mg → mg d.name = some (.ref fa) → ∃ (K : PySem.W.Frag) (fd : FuncData) (sp : Sp), K.In h ∧ (∀ (s : Shared) (u : Value), BindsTo s fd ⟨[u], []⟩ [(x, u)]) ∧
      (∀ (H : Hp) (a : Addr) (zs : List Int), zs.length ≤ n → SqL K H a (zs.map V.int) → sp [.ref a] H (fun v _ => v = .bl true) fun _ _ _ => False) ∧ ∀ base : Heap, K.In base → base.Ns mainGlobals mg → FnG l.prog w K mg base CX0 k fa fd [x] sp) :
    PySem.W.WalkO q loose XP YP l.row.toRowW d [] (fun f vs => PySem.call f vs) := by
  refine Att.attach_call most nodf fun w t0 t mg mb fa o pm cd doc a us zs G Y ho hd hcd hmg scr ii len noG => ?_
  obtain ⟨K, fd, sp, inK, bnd, prom, fn⟩ := F w mg fa _ Y G.T.g hmg
  exact callG inK G.T.g G.T.b G.T.builtins G.T.nolimit noG scr ii (Nat.le_trans len n2) room fn bnd fun H hS => prom H a zs len hS
end Vx

/-! ## K10h -/
set_option Elab.async false
set_option linter.all false
set_option maxRecDepth 100000
set_option maxHeartbeats 4000000
namespace K10
open PySem PySem.Spec PyProof.Rows L2 He Vx
def top (i : Nat) : Stmt := PySem.Challenge.pw_aheadbehind_k10_errors_and_basics.main.body.getD i (.Pass ⟨0, 0, 0, 0⟩)
abbrev s_is_integer : Stmt := top 1
theorem sc_is_integer : FnScope ["value"] ["value"] (defScope s_is_integer) := ⟨rfl, rfl, rfl, by decide +kernel, rfl, by decide +kernel, by decide +kernel⟩
abbrev s_is_count : Stmt := top 2
theorem sc_is_count : FnScope ["value"] ["value"] (defScope s_is_count) := ⟨rfl, rfl, rfl, by decide +kernel, rfl, by decide +kernel, by decide +kernel⟩
abbrev s_is_name : Stmt := top 3
theorem sc_is_name : FnScope ["value"] ["value"] (defScope s_is_name) := ⟨rfl, rfl, rfl, by decide +kernel, rfl, by decide +kernel, by decide +kernel⟩
abbrev s_is_sign : Stmt := top 4
theorem sc_is_sign : FnScope ["value"] ["value"] (defScope s_is_sign) := ⟨rfl, rfl, rfl, by decide +kernel, rfl, by decide +kernel, by decide +kernel⟩
abbrev s_is_row : Stmt := top 5
theorem sc_is_row : FnScope ["value", "sign"] ["value"] (defScope s_is_row) := ⟨rfl, rfl, rfl, by decide +kernel, rfl, by decide +kernel, by decide +kernel⟩
abbrev s_is_list : Stmt := top 6
theorem sc_is_list : FnScope ["value"] ["value"] (defScope s_is_list) := ⟨rfl, rfl, rfl, by decide +kernel, rfl, by decide +kernel, by decide +kernel⟩
abbrev s_law_pot : Stmt := top 55
theorem sc_law_pot : FnScope ["_law_script", "_law_k", "_law_cell"] ["_law_script", "_law_k"] (defScope s_law_pot) := ⟨rfl, rfl, rfl, by decide +kernel, rfl, by decide +kernel, by decide +kernel⟩
abbrev s_law_draw : Stmt := top 56
theorem sc_law_draw : FnScope ["_law_pot_here", "_law_many", "_law_digit"] ["_law_pot_here", "_law_many"] (defScope s_law_draw) := ⟨rfl, rfl, rfl, by decide +kernel, rfl, by decide +kernel, by decide +kernel⟩
abbrev s_law_pick : Stmt := top 57
theorem sc_law_pick : FnScope ["_law_pot_here", "_law_menu"] ["_law_pot_here", "_law_menu"] (defScope s_law_pick) := ⟨rfl, rfl, rfl, by decide +kernel, rfl, by decide +kernel, by decide +kernel⟩
abbrev s_law_thing : Stmt := top 58
theorem sc_law_thing : FnScope ["_law_pot_here"] ["_law_pot_here"] (defScope s_law_thing) := ⟨rfl, rfl, rfl, by decide +kernel, rfl, by decide +kernel, by decide +kernel⟩
abbrev s_law_placed : Stmt := top 59
theorem sc_law_placed : FnScope ["_law_thing_here", "_law_found"] ["_law_thing_here"] (defScope s_law_placed) := ⟨rfl, rfl, rfl, by decide +kernel, rfl, by decide +kernel, by decide +kernel⟩
abbrev s_law_valued : Stmt := top 60
theorem sc_law_valued : FnScope ["_law_thing_here", "_law_found"] ["_law_thing_here"] (defScope s_law_valued) := ⟨rfl, rfl, rfl, by decide +kernel, rfl, by decide +kernel, by decide +kernel⟩
abbrev s_law_stood : Stmt := top 61
theorem sc_law_stood : FnScope ["_law_thing_here", "_law_found"] ["_law_thing_here"] (defScope s_law_stood) := ⟨rfl, rfl, rfl, by decide +kernel, rfl, by decide +kernel, by decide +kernel⟩
abbrev s_law_placed_by_name : Stmt := top 62
theorem sc_law_placed_by_name : FnScope ["_law_thing_here", "_law_found"] ["_law_thing_here"] (defScope s_law_placed_by_name) := ⟨rfl, rfl, rfl, by decide +kernel, rfl, by decide +kernel, by decide +kernel⟩
abbrev s_law_valued_by_name : Stmt := top 63
theorem sc_law_valued_by_name : FnScope ["_law_thing_here", "_law_found"] ["_law_thing_here"] (defScope s_law_valued_by_name) := ⟨rfl, rfl, rfl, by decide +kernel, rfl, by decide +kernel, by decide +kernel⟩
abbrev s_law_every : Stmt := top 64
theorem sc_law_every : FnScope ["_law_thing_here", "_law_boxes_now", "_law_stood_here"] ["_law_thing_here"] (defScope s_law_every) := ⟨rfl, rfl, rfl, by decide +kernel, rfl, by decide +kernel, by decide +kernel⟩
abbrev s_law_of_boxes : Stmt := top 65
theorem sc_law_of_boxes : FnScope ["_law_e", "_law_found"] ["_law_e"] (defScope s_law_of_boxes) := ⟨rfl, rfl, rfl, by decide +kernel, rfl, by decide +kernel, by decide +kernel⟩
abbrev s_law_of_others : Stmt := top 66
theorem sc_law_of_others : FnScope ["_law_e", "_law_found"] ["_law_e"] (defScope s_law_of_others) := ⟨rfl, rfl, rfl, by decide +kernel, rfl, by decide +kernel, by decide +kernel⟩
abbrev s_law_families : Stmt := top 67
theorem sc_law_families : FnScope ["_law_e", "_law_found"] ["_law_e"] (defScope s_law_families) := ⟨rfl, rfl, rfl, by decide +kernel, rfl, by decide +kernel, by decide +kernel⟩
abbrev s_law_kept_right : Stmt := top 68
theorem sc_law_kept_right : FnScope ["_law_pot_here", "_law_thing_here", "_law_further", "_law_placed_here", "_law_valued_here", "_law_stood_here", "_law_texts", "_law_late", "_law_kept", "_law_great", "_law_named", "_law_named_now", "_law_e"] ["_law_pot_here"] (defScope s_law_kept_right) := ⟨rfl, rfl, rfl, by decide +kernel, rfl, by decide +kernel, by decide +kernel⟩
abbrev s_law_kinds_right : Stmt := top 69
theorem sc_law_kinds_right : FnScope ["_law_pot_here", "_law_every_here", "_law_at", "_law_family", "_law_part", "_law_e", "_law_kinds", "_law_place"] ["_law_pot_here"] (defScope s_law_kinds_right) := ⟨rfl, rfl, rfl, by decide +kernel, rfl, by decide +kernel, by decide +kernel⟩
abbrev s_law_is_number : Stmt := top 70
theorem sc_law_is_number : FnScope ["_law_thing_here"] ["_law_thing_here"] (defScope s_law_is_number) := ⟨rfl, rfl, rfl, by decide +kernel, rfl, by decide +kernel, by decide +kernel⟩
abbrev s_law_is_word : Stmt := top 71
theorem sc_law_is_word : FnScope ["_law_thing_here", "_law_small", "_law_sign"] ["_law_thing_here"] (defScope s_law_is_word) := ⟨rfl, rfl, rfl, by decide +kernel, rfl, by decide +kernel, by decide +kernel⟩
abbrev s_law_is_pair : Stmt := top 72
theorem sc_law_is_pair : FnScope ["_law_thing_here"] ["_law_thing_here"] (defScope s_law_is_pair) := ⟨rfl, rfl, rfl, by decide +kernel, rfl, by decide +kernel, by decide +kernel⟩
abbrev s_law_word : Stmt := top 73
theorem sc_law_word : FnScope ["_law_pot_here", "_law_signs", "_law_turn"] ["_law_pot_here"] (defScope s_law_word) := ⟨rfl, rfl, rfl, by decide +kernel, rfl, by decide +kernel, by decide +kernel⟩
abbrev s_law_things : Stmt := top 74
theorem sc_law_things : FnScope ["_law_pot_here", "_law_word_here", "_law_mate", "_law_great", "_law_pair", "_law_found"] ["_law_pot_here"] (defScope s_law_things) := ⟨rfl, rfl, rfl, by decide +kernel, rfl, by decide +kernel, by decide +kernel⟩
abbrev s_law_basics_right : Stmt := top 75
theorem sc_law_basics_right : FnScope ["_law_pot_here", "_law_menu", "_law_shown", "_law_thing_here", "_law_is_all", "_law_due", "_law_told", "_law_again", "_law_part"] ["_law_pot_here"] (defScope s_law_basics_right) := ⟨rfl, rfl, rfl, by decide +kernel, rfl, by decide +kernel, by decide +kernel⟩
abbrev s_law_right : Stmt := top 76
theorem sc_law_right : FnScope ["_law_pot_here", "_law_turn"] ["_law_pot_here"] (defScope s_law_right) := ⟨rfl, rfl, rfl, by decide +kernel, rfl, by decide +kernel, by decide +kernel⟩
abbrev s_law : Stmt := top 77
theorem sc_law : FnScope ["_law_script", "_law_k"] ["_law_script"] (defScope s_law) := ⟨rfl, rfl, rfl, by decide +kernel, rfl, by decide +kernel, by decide +kernel⟩
end K10

/-! ## K10b -/
set_option Elab.async false
set_option linter.all false
set_option maxRecDepth 100000
set_option maxHeartbeats 4000000
namespace K10
open PySem PySem.Spec PyProof.Rows L2 He Vx
section
variable {P : Program} {w : World} {K : PySem.W.Frag} {mg : Str → Option Value} {base : Heap}
theorem cd_draw (F : At K mg "_law_draw" s_law_draw) (T : BI mg) : Cd P w K mg base 1 "_law_draw" ["_law_pot_here", "_law_many"] spDraw := by
  refine cd_mk F sc_law_draw (fun vs H Q E h => ?_) (fun _ _ _ _ _ _ us hl => match us, hl with | [_, _], _ => rfl) (fun f cdv A outer s H vs Q E hr hG h => ?_)
  · obtain ⟨p, n, rfl, _⟩ := h
    rfl
  · obtain ⟨p, n, rfl, ⟨a, b, hp, ha, hb0, hb1⟩, hn, hn2, k⟩ := h
    refine ⟨_, (pss_cons (ps_if (pt_cmpR op_gt (pe_ix ix_list (pv 0) pe_int (fun _ _ => rfl)) pe_int (nomark _)) (pss_cons (ps_asg (pe_callB call_divmodW (by rfl) T.divmod bt_divmod (pa_cons (pe_ix ix_list (pv 0) pe_int (fun _ _ => rfl)) (pa_cons (pv 1) pa_nil))) (pg_tup (by rfl) (pgs_cons (pg_sub (pv 0) pe_int set_list) (pgs_cons (pg_name (i := 2) sc_law_draw.nd rfl (Or.inl rfl)) pgs_nil))))
  (pss_one (ps_ret (pv 2)))) pss_nil)
  (pss_cons (ps_asg (pe_op op_mod (pe_callTy call_int1 (by rfl) T.int bt_int (pa_cons (pe_op op_add (pe_op op_mul (pe_ix ix_list (pv 0) pe_int (fun _ _ => rfl)) pe_int) pe_int) pa_nil)) pe_int) (pg_sub (pv 0) pe_int set_list))
  (pss_one (ps_ret (pe_op op_mod (pe_callTy call_int1 (by rfl) T.int bt_int (pa_cons (pe_op op_fdiv (pe_op op_mod (pe_callTy call_int1 (by rfl) T.int bt_int (pa_cons (pe_op op_mul (pe_ix ix_list (pv 0) pe_int (fun _ _ => rfl)) (pe_ix ix_list (pv 0) pe_int (fun _ _ => rfl))) pa_nil)) pe_int) pe_int) pa_nil)) (pv 1)))))), ?_⟩
    refine ⟨_, rfl, p, _, 0, _, rfl, rfl, SqL.of hp, rfl, _, _, rfl, rfl, _, rfl, ?_⟩
    refine ite2 (fun h => ?_) (fun h => ?_)
    · have h := of_decide_eq_true h
      refine ⟨_, rfl, p, _, 0, _, rfl, rfl, SqL.of hp, rfl, _, rfl, a, n, rfl, ⟨by omega, PyProof.noPylong_of_log2 (log2_small hn hn2)⟩, fun q hq => ?_⟩
      have npq : p ≠ q := ne_of_none hp hq
      refine ⟨q, _, rfl, SqT.of upd_same, rfl, _, _, rfl, _, rfl, p, _, 0, 0, rfl, rfl, (upd_ne npq).trans hp, rfl, _, _, rfl, rfl, _, rfl, ?_⟩
      exact k _ _ (Stp.put (same_off (same_new hq)) (Int.ediv_nonneg ha (by omega)) hb0 hb1) (Int.emod_nonneg _ (by omega)) (Int.emod_lt_of_pos _ (by omega))
    · have e1 : (0 : Int) ≤ (b * 48271 + 7919) % 2147483587 := Int.emod_nonneg _ (by decide)
      have e2 : (b * 48271 + 7919) % 2147483587 < 2147483587 := Int.emod_lt_of_pos _ (by decide)
      refine ⟨_, rfl, p, _, 1, _, rfl, rfl, SqL.of hp, rfl, _, _, rfl, rfl, .inl ⟨by omega, by omega⟩, _, _, rfl, rfl, .inl ⟨_, rfl, _, _, rfl, rfl, (by show (0 : Int) < 2147483587; decide), _, rfl, p, _, 1, 1, rfl, rfl, hp, rfl, ?_⟩⟩
      refine ⟨_, rfl, p, _, 1, _, rfl, rfl, SqL.of upd_same, rfl, _, rfl, p, _, 1, _, rfl, rfl, SqL.of upd_same, rfl, _, _, rfl, rfl, .inl ⟨by omega, by omega⟩, .inl ⟨_, rfl, _, _, rfl, rfl, (by show (0 : Int) < 2147483629; decide),
        _, _, rfl, rfl, ⟨by decide, by decide⟩, .inl ⟨_, rfl, _, rfl, _, _, rfl, rfl, (by show (0 : Int) < n; omega), ?_⟩⟩⟩
      exact k _ _ (Stp.put (Same.refl _) ha e1 (by omega)) (Int.emod_nonneg _ (by omega)) (Int.emod_lt_of_pos _ (by omega))
theorem cd_pick (F : At K mg "_law_pick" s_law_pick) (T : BI mg) (c__law_draw : Cd P w K mg base 1 "_law_draw" ["_law_pot_here", "_law_many"] spDraw) : Cd P w K mg base 2 "_law_pick" ["_law_pot_here", "_law_menu"] (spPick K) := by
  refine cd_mk F sc_law_pick (fun vs H Q E h => ?_) (fun _ _ _ _ _ _ us hl => match us, hl with | [_, _], _ => rfl) (fun f cdv A outer s H vs Q E hr hG h => ?_)
  · obtain ⟨p, m, xs, rfl, _⟩ := h
    rfl
  · obtain ⟨p, m, xs, rfl, hP, hm, h1, h2, k⟩ := h
    refine ⟨_, (pss_one (ps_ret (pe_ix ix_list (pv 1) (pe_cd c__law_draw (hr.mono (by decide)) hG (by rfl) (pa_cons (pv 0) (pa_cons (pe_callB call_len_seq (by rfl) T.len PySem.boot_len (pa_cons (pv 1) pa_nil)) pa_nil))) (fun _ _ => rfl)))), ?_⟩
    refine ⟨_, rfl, _, rfl, _, rfl, m, _, rfl, .inl (off_same.seq hm), p, _, rfl, hP, by omega, by omega, fun d H' st d0 d1 => ?_⟩
    obtain ⟨x, hx⟩ : ∃ x, xs[d.toNat]? = some x := ⟨xs[d.toNat]'(by omega), List.getElem?_eq_getElem _⟩
    refine ⟨m, xs, d, x, rfl, rfl, off_same.seq (st.k.seq hm), ?_, k x H' st (List.mem_of_getElem? hx)⟩
    have q := atI_nat hx
    rw [Int.toNat_of_nonneg d0] at q
    exact q
theorem cd_pot (F : At K mg "_law_pot" s_law_pot) (T : BI mg) : Cd P w K mg base 1 "_law_pot" ["_law_script", "_law_k"] (spPot K) := by
  refine cd_mk F sc_law_pot (fun vs H Q E h => ?_) (fun _ _ _ _ _ _ us hl => match us, hl with | [_, _], _ => rfl) (fun f cdv A outer s H vs Q E hr hG h => ?_)
  · obtain ⟨a, k, ns, rfl, _⟩ := h
    rfl
  · obtain ⟨a, i, ns, rfl, hS, h0, h1, h2, k⟩ := h
    -- the pot, whatever the cell
    have fin : ∀ (c : Int) (b : Int), 0 ≤ b → b < 2147483549 → ∀ p, H p = none → Q (.ref p) (upd H p (.lst [.int (if c - 10 ^ 18 > 0 then c - 10 ^ 18 else 0), .int (b + 1)])) := fun c b hb0 hb1 p hp =>
      k p _ hp (same_new hp) ⟨_, _, upd_same, by split <;> omega, by omega, by omega⟩
    refine ⟨_, (pss_cons (ps_set (i := 2) sc_law_pot.nd rfl (Or.inl rfl) (pe_op op_add (pe_op op_mul pe_int (pv 1)) pe_int))
  (pss_cons (ps_if (pt_cmpR op_lt (pv 1) (pe_callB call_len_seq (by rfl) T.len PySem.boot_len (pa_cons (pv 0) pa_nil)) (nomark _)) (pss_one (ps_set (i := 2) sc_law_pot.nd rfl (Or.inl rfl) (pe_callB call_abs (by rfl) T.abs bt_abs (pa_cons (pe_ix ix_list (pv 0) (pv 1) (fun _ _ => rfl)) pa_nil)))) pss_nil)
  (pss_one (ps_ret (pe_lst (pa_cons (pe_callB (call_max2 rfl) (by rfl) T.max bt_max (pa_cons pe_int (pa_cons (pe_op op_sub (pv 2) (pe_op op_pow pe_int pe_int)) pa_nil))) (pa_cons (pe_op op_add (pe_op op_mod (pe_callTy call_int1 (by rfl) T.int bt_int (pa_cons (pe_op op_add (pe_op op_add (pe_op op_mul (pe_op op_mod (pe_callTy call_int1 (by rfl) T.int bt_int (pa_cons (pv 2) pa_nil)) pe_int) pe_int) (pe_op op_mul pe_int (pv 1))) pe_int) pa_nil)) pe_int) pe_int) pa_nil))))))), ?_⟩
    refine ⟨_, rfl, _, _, rfl, rfl, .inl ⟨by omega, by omega⟩, _, _, rfl, rfl, _, rfl, _, rfl, a, _, rfl, .inl hS, _, _, rfl, rfl, _, rfl, ?_⟩
    refine ite2 (fun h => ?_) (fun h => ?_)
    · have h := of_decide_eq_true h
      rw [List.length_map] at h
      obtain ⟨z, hz⟩ : ∃ z, ns[i.toNat]? = some z := ⟨ns[i.toNat]'(by omega), List.getElem?_eq_getElem _⟩
      have q := atI_nat (xs := ns.map V.int) (j := i.toNat) (v := .int z) (by rw [List.getElem?_map, hz]; rfl)
      rw [Int.toNat_of_nonneg h0] at q
      refine ⟨_, rfl, _, rfl, a, _, i, _, rfl, rfl, hS, q, _, rfl, ?_⟩
      have b1 : (0 : Int) ≤ (if z < 0 then -z else z) % 2147483563 := Int.emod_nonneg _ (by decide)
      have b2 : (if z < 0 then -z else z) % 2147483563 < 2147483563 := Int.emod_lt_of_pos _ (by decide)
      refine ⟨_, rfl, _, _, rfl, rfl, ⟨by decide, by decide, by decide⟩, _, _, rfl, rfl, _, _, rfl, _, rfl, .inl ⟨_, rfl, _, _, rfl, rfl, (by show (0 : Int) < 2147483563; decide), _, _, rfl, rfl, .inl ⟨by omega, by omega⟩, _, rfl, _, _, rfl, rfl, .inl ⟨by decide, by decide⟩, _, _, rfl, rfl, _, _, rfl, rfl, .inl ⟨_, rfl, _, _, rfl, rfl, (by show (0 : Int) < 2147483549; decide), _, _, rfl, rfl, (by show 2 ≤ sizeLine; decide), fun p hp => ?_⟩⟩⟩
      exact fin _ _ (Int.emod_nonneg _ (by decide)) (Int.emod_lt_of_pos _ (by decide)) p hp
    · have b1 : (0 : Int) ≤ (41 * i + 13) % 2147483563 := Int.emod_nonneg _ (by decide)
      have b2 : (41 * i + 13) % 2147483563 < 2147483563 := Int.emod_lt_of_pos _ (by decide)
      refine ⟨_, rfl, _, _, rfl, rfl, ⟨by decide, by decide, by decide⟩, _, _, rfl, rfl, _, _, rfl, _, rfl, .inl ⟨_, rfl, _, _, rfl, rfl, (by show (0 : Int) < 2147483563; decide), _, _, rfl, rfl, .inl ⟨by omega, by omega⟩, _, rfl, _, _, rfl, rfl, .inl ⟨by decide, by decide⟩, _, _, rfl, rfl, _, _, rfl, rfl, .inl ⟨_, rfl, _, _, rfl, rfl, (by show (0 : Int) < 2147483549; decide), _, _, rfl, rfl, (by show 2 ≤ sizeLine; decide), fun p hp => ?_⟩⟩⟩
      exact fin _ _ (Int.emod_nonneg _ (by decide)) (Int.emod_lt_of_pos _ (by decide)) p hp
end
end K10

/-! ## K10c -/
set_option Elab.async false
set_option linter.all false
set_option maxRecDepth 100000
set_option maxHeartbeats 4000000
namespace K10
open PySem PySem.Spec PyProof.Rows L2 He Vx
/-- the error classes of the text -/
structure ErrSet (P : Program) (w : World) (K : PySem.W.Frag) (mg : Str → Option Value) (base : Heap) : Prop where
  BoxError : Err0 K mg xVal "BoxError" (ga K "BoxError")
  InvalidStates : ErrC P w K mg base xVal "InvalidStates" "value" (ga K "InvalidStates")
  InvalidStarts : ErrC P w K mg base xVal "InvalidStarts" "position" (ga K "InvalidStarts")
  InvalidSteps : ErrC P w K mg base xVal "InvalidSteps" "position" (ga K "InvalidSteps")
  InvalidStep : ErrC P w K mg base xVal "InvalidStep" "value" (ga K "InvalidStep")
  InvalidState : ErrC P w K mg base xVal "InvalidState" "value" (ga K "InvalidState")
  InvalidOrder : ErrC P w K mg base xVal "InvalidOrder" "value" (ga K "InvalidOrder")
  InvalidSet : ErrC P w K mg base xVal "InvalidSet" "value" (ga K "InvalidSet")
  InvalidRow : ErrC P w K mg base xVal "InvalidRow" "position" (ga K "InvalidRow")
  InvalidSign : ErrC P w K mg base xVal "InvalidSign" "value" (ga K "InvalidSign")
  InvalidSigns : ErrC P w K mg base xVal "InvalidSigns" "position" (ga K "InvalidSigns")
  InvalidCall : ErrC P w K mg base xVal "InvalidCall" "value" (ga K "InvalidCall")
  InvalidCalls : ErrC P w K mg base xVal "InvalidCalls" "position" (ga K "InvalidCalls")
  InvalidNames : ErrC P w K mg base xVal "InvalidNames" "value" (ga K "InvalidNames")
  InvalidName : ErrC P w K mg base xVal "InvalidName" "value" (ga K "InvalidName")
  InvalidNumber : ErrC P w K mg base xVal "InvalidNumber" "value" (ga K "InvalidNumber")
  InvalidKind : ErrC P w K mg base xVal "InvalidKind" "value" (ga K "InvalidKind")
  InvalidReading : ErrC P w K mg base xVal "InvalidReading" "value" (ga K "InvalidReading")
  InvalidHidden : ErrC P w K mg base xVal "InvalidHidden" "position" (ga K "InvalidHidden")
  InvalidPairs : ErrC P w K mg base xVal "InvalidPairs" "position" (ga K "InvalidPairs")
  InvalidMatching : ErrC P w K mg base xVal "InvalidMatching" "value" (ga K "InvalidMatching")
  InvalidFan : ErrC P w K mg base xVal "InvalidFan" "value" (ga K "InvalidFan")
  InvalidMiddle : ErrC P w K mg base xVal "InvalidMiddle" "value" (ga K "InvalidMiddle")
  InvalidFamily : ErrC P w K mg base xVal "InvalidFamily" "value" (ga K "InvalidFamily")
  InvalidBox : ErrC P w K mg base xVal "InvalidBox" "value" (ga K "InvalidBox")
  InvalidText : ErrC P w K mg base xVal "InvalidText" "line" (ga K "InvalidText")
  InvalidClaim : ErrC P w K mg base xVal "InvalidClaim" "value" (ga K "InvalidClaim")
  InvalidCommand : ErrC P w K mg base xVal "InvalidCommand" "value" (ga K "InvalidCommand")
  MissingError : Err0 K mg xLook "MissingError" (ga K "MissingError")
  UnknownStep : ErrC P w K mg base xLook "UnknownStep" "value" (ga K "UnknownStep")
  UnknownName : ErrC P w K mg base xLook "UnknownName" "value" (ga K "UnknownName")
  StateError : Err0 K mg xRun "StateError" (ga K "StateError")
  NotMatched : ErrC P w K mg base xRun "NotMatched" "value" (ga K "NotMatched")
  NoMatching : Err0 K mg xRun "NoMatching" (ga K "NoMatching")
  BrokenFan : ErrC P w K mg base xRun "BrokenFan" "value" (ga K "BrokenFan")
  NoFan : ErrC P w K mg base xRun "NoFan" "value" (ga K "NoFan")
  NotStanding : ErrC P w K mg base xRun "NotStanding" "value" (ga K "NotStanding")
  TakenAnswer : ErrC P w K mg base xRun "TakenAnswer" "value" (ga K "TakenAnswer")
  SharedCall : ErrC P w K mg base xRun "SharedCall" "value" (ga K "SharedCall")
  NotGiven : ErrC P w K mg base xRun "NotGiven" "position" (ga K "NotGiven")
  TakenName : ErrC P w K mg base xRun "TakenName" "value" (ga K "TakenName")
  NothingToUndo : Err0 K mg xRun "NothingToUndo" (ga K "NothingToUndo")
  Untrue : Err0 K mg xRun "Untrue" (ga K "Untrue")
  CommandFailed : ErrC P w K mg base xRun "CommandFailed" "position" (ga K "CommandFailed")
  LimitError : Err0 K mg xAri "LimitError" (ga K "LimitError")
  TooMany : ErrC2 P w K mg base xAri "TooMany" "what" "limit" (ga K "TooMany")
section
variable {P : Program} {w : World} {K : PySem.W.Frag} {mg : Str → Option Value} {base : Heap}
def l_law_placed (K : PySem.W.Frag) : List (Addr × Str) := ([(ga K "InvalidStarts", ("position" : Str)), (ga K "InvalidSteps", ("position" : Str)), (ga K "InvalidRow", ("position" : Str)), (ga K "InvalidSigns", ("position" : Str)), (ga K "InvalidCalls", ("position" : Str))] ++ [(ga K "InvalidHidden", ("position" : Str)), (ga K "InvalidPairs", ("position" : Str))])
theorem cd_placed (F : At K mg "_law_placed" s_law_placed) (ES : ErrSet P w K mg base) : Cd P w K mg base 3 "_law_placed" ["_law_thing_here"] (spErrs (l_law_placed K)) := by
  refine cd_mk F sc_law_placed (fun vs H Q E h => ?_) (fun _ _ _ _ _ _ us hl => match us, hl with | [_], _ => rfl) (fun f cdv A outer s H vs Q E hr hG h => ?_)
  · obtain ⟨y, rfl, _⟩ := h
    rfl
  · obtain ⟨y, rfl, k⟩ := h
    refine ⟨_, (pss_cons (ps_set (i := 1) sc_law_placed.nd rfl (Or.inl rfl) (pe_lst (pa_cons (pe_err ES.InvalidStarts (hr.mono (by decide)) (by rfl) (pv 0)) (pa_cons (pe_err ES.InvalidSteps (hr.mono (by decide)) (by rfl) (pv 0)) (pa_cons (pe_err ES.InvalidRow (hr.mono (by decide)) (by rfl) (pv 0)) (pa_cons (pe_err ES.InvalidSigns (hr.mono (by decide)) (by rfl) (pv 0)) (pa_cons (pe_err ES.InvalidCalls (hr.mono (by decide)) (by rfl) (pv 0)) pa_nil)))))))
  (pss_one (ps_ret (pe_op op_cat (pv 1) (pe_lst (pa_cons (pe_err ES.InvalidHidden (hr.mono (by decide)) (by rfl) (pv 0)) (pa_cons (pe_err ES.InvalidPairs (hr.mono (by decide)) (by rfl) (pv 0)) pa_nil))))))), ?_⟩
    refine asg_lst (L := [(ga K "InvalidStarts", ("position" : Str)), (ga K "InvalidSteps", ("position" : Str)), (ga K "InvalidRow", ("position" : Str)), (ga K "InvalidSigns", ("position" : Str)), (ga K "InvalidCalls", ("position" : Str))]) (by rfl) (Nat.le_of_ble_eq_true rfl) (fun p1 as1 H1 n1 s1 e1 r1 => ?_)
    refine ret_cat (L := [(ga K "InvalidHidden", ("position" : Str)), (ga K "InvalidPairs", ("position" : Str))]) (by rfl) (by rfl) e1 r1 (Nat.le_of_ble_eq_true rfl) (Nat.le_of_ble_eq_true rfl) (fun p2 as2 H2 n2 s2 e2 r2 => ?_)
    exact k p2 as2 H2 (s1.free n2) (s1.trans s2) e2 r2
def l_law_valued (K : PySem.W.Frag) : List (Addr × Str) := (((([(ga K "InvalidStates", ("value" : Str)), (ga K "InvalidStep", ("value" : Str)), (ga K "InvalidState", ("value" : Str)), (ga K "InvalidOrder", ("value" : Str)), (ga K "InvalidSet", ("value" : Str))] ++ [(ga K "InvalidSign", ("value" : Str)), (ga K "InvalidCall", ("value" : Str)), (ga K "InvalidNames", ("value" : Str)), (ga K "InvalidName", ("value" : Str))]) ++ [(ga K "InvalidNumber", ("value" : Str)), (ga K "InvalidKind", ("value" : Str)), (ga K "InvalidReading", ("value" : Str)), (ga K "InvalidMatching", ("value" : Str))]) ++ [(ga K "InvalidFan", ("value" : Str)), (ga K "InvalidMiddle", ("value" : Str)), (ga K "InvalidFamily", ("value" : Str)), (ga K "InvalidBox", ("value" : Str))]) ++ [(ga K "InvalidClaim", ("value" : Str)), (ga K "InvalidCommand", ("value" : Str))])
theorem cd_valued (F : At K mg "_law_valued" s_law_valued) (ES : ErrSet P w K mg base) : Cd P w K mg base 3 "_law_valued" ["_law_thing_here"] (spErrs (l_law_valued K)) := by
  refine cd_mk F sc_law_valued (fun vs H Q E h => ?_) (fun _ _ _ _ _ _ us hl => match us, hl with | [_], _ => rfl) (fun f cdv A outer s H vs Q E hr hG h => ?_)
  · obtain ⟨y, rfl, _⟩ := h
    rfl
  · obtain ⟨y, rfl, k⟩ := h
    refine ⟨_, (pss_cons (ps_set (i := 1) sc_law_valued.nd rfl (Or.inl rfl) (pe_lst (pa_cons (pe_err ES.InvalidStates (hr.mono (by decide)) (by rfl) (pv 0)) (pa_cons (pe_err ES.InvalidStep (hr.mono (by decide)) (by rfl) (pv 0)) (pa_cons (pe_err ES.InvalidState (hr.mono (by decide)) (by rfl) (pv 0)) (pa_cons (pe_err ES.InvalidOrder (hr.mono (by decide)) (by rfl) (pv 0)) (pa_cons (pe_err ES.InvalidSet (hr.mono (by decide)) (by rfl) (pv 0)) pa_nil)))))))
  (pss_cons (ps_set (i := 1) sc_law_valued.nd rfl (Or.inl rfl) (pe_op op_cat (pv 1) (pe_lst (pa_cons (pe_err ES.InvalidSign (hr.mono (by decide)) (by rfl) (pv 0)) (pa_cons (pe_err ES.InvalidCall (hr.mono (by decide)) (by rfl) (pv 0)) (pa_cons (pe_err ES.InvalidNames (hr.mono (by decide)) (by rfl) (pv 0)) (pa_cons (pe_err ES.InvalidName (hr.mono (by decide)) (by rfl) (pv 0)) pa_nil)))))))
  (pss_cons (ps_set (i := 1) sc_law_valued.nd rfl (Or.inl rfl) (pe_op op_cat (pv 1) (pe_lst (pa_cons (pe_err ES.InvalidNumber (hr.mono (by decide)) (by rfl) (pv 0)) (pa_cons (pe_err ES.InvalidKind (hr.mono (by decide)) (by rfl) (pv 0)) (pa_cons (pe_err ES.InvalidReading (hr.mono (by decide)) (by rfl) (pv 0)) (pa_cons (pe_err ES.InvalidMatching (hr.mono (by decide)) (by rfl) (pv 0)) pa_nil)))))))
  (pss_cons (ps_set (i := 1) sc_law_valued.nd rfl (Or.inl rfl) (pe_op op_cat (pv 1) (pe_lst (pa_cons (pe_err ES.InvalidFan (hr.mono (by decide)) (by rfl) (pv 0)) (pa_cons (pe_err ES.InvalidMiddle (hr.mono (by decide)) (by rfl) (pv 0)) (pa_cons (pe_err ES.InvalidFamily (hr.mono (by decide)) (by rfl) (pv 0)) (pa_cons (pe_err ES.InvalidBox (hr.mono (by decide)) (by rfl) (pv 0)) pa_nil)))))))
  (pss_one (ps_ret (pe_op op_cat (pv 1) (pe_lst (pa_cons (pe_err ES.InvalidClaim (hr.mono (by decide)) (by rfl) (pv 0)) (pa_cons (pe_err ES.InvalidCommand (hr.mono (by decide)) (by rfl) (pv 0)) pa_nil)))))))))), ?_⟩
    refine asg_lst (L := [(ga K "InvalidStates", ("value" : Str)), (ga K "InvalidStep", ("value" : Str)), (ga K "InvalidState", ("value" : Str)), (ga K "InvalidOrder", ("value" : Str)), (ga K "InvalidSet", ("value" : Str))]) (by rfl) (Nat.le_of_ble_eq_true rfl) (fun p1 as1 H1 n1 s1 e1 r1 => ?_)
    refine asg_cat (L := [(ga K "InvalidSign", ("value" : Str)), (ga K "InvalidCall", ("value" : Str)), (ga K "InvalidNames", ("value" : Str)), (ga K "InvalidName", ("value" : Str))]) (by rfl) (by rfl) e1 r1 (Nat.le_of_ble_eq_true rfl) (Nat.le_of_ble_eq_true rfl) (fun p2 as2 H2 n2 s2 e2 r2 => ?_)
    refine asg_cat (L := [(ga K "InvalidNumber", ("value" : Str)), (ga K "InvalidKind", ("value" : Str)), (ga K "InvalidReading", ("value" : Str)), (ga K "InvalidMatching", ("value" : Str))]) (by rfl) (by rfl) e2 r2 (Nat.le_of_ble_eq_true rfl) (Nat.le_of_ble_eq_true rfl) (fun p3 as3 H3 n3 s3 e3 r3 => ?_)
    refine asg_cat (L := [(ga K "InvalidFan", ("value" : Str)), (ga K "InvalidMiddle", ("value" : Str)), (ga K "InvalidFamily", ("value" : Str)), (ga K "InvalidBox", ("value" : Str))]) (by rfl) (by rfl) e3 r3 (Nat.le_of_ble_eq_true rfl) (Nat.le_of_ble_eq_true rfl) (fun p4 as4 H4 n4 s4 e4 r4 => ?_)
    refine ret_cat (L := [(ga K "InvalidClaim", ("value" : Str)), (ga K "InvalidCommand", ("value" : Str))]) (by rfl) (by rfl) e4 r4 (Nat.le_of_ble_eq_true rfl) (Nat.le_of_ble_eq_true rfl) (fun p5 as5 H5 n5 s5 e5 r5 => ?_)
    exact k p5 as5 H5 (s1.free (s2.free (s3.free (s4.free n5)))) ((((s1.trans s2).trans s3).trans s4).trans s5) e5 r5
def l_law_stood (K : PySem.W.Frag) : List (Addr × Str) := ([(ga K "NotMatched", ("value" : Str)), (ga K "BrokenFan", ("value" : Str)), (ga K "NoFan", ("value" : Str)), (ga K "NotStanding", ("value" : Str)), (ga K "TakenAnswer", ("value" : Str))] ++ [(ga K "SharedCall", ("value" : Str)), (ga K "TakenName", ("value" : Str))])
theorem cd_stood (F : At K mg "_law_stood" s_law_stood) (ES : ErrSet P w K mg base) : Cd P w K mg base 3 "_law_stood" ["_law_thing_here"] (spErrs (l_law_stood K)) := by
  refine cd_mk F sc_law_stood (fun vs H Q E h => ?_) (fun _ _ _ _ _ _ us hl => match us, hl with | [_], _ => rfl) (fun f cdv A outer s H vs Q E hr hG h => ?_)
  · obtain ⟨y, rfl, _⟩ := h
    rfl
  · obtain ⟨y, rfl, k⟩ := h
    refine ⟨_, (pss_cons (ps_set (i := 1) sc_law_stood.nd rfl (Or.inl rfl) (pe_lst (pa_cons (pe_err ES.NotMatched (hr.mono (by decide)) (by rfl) (pv 0)) (pa_cons (pe_err ES.BrokenFan (hr.mono (by decide)) (by rfl) (pv 0)) (pa_cons (pe_err ES.NoFan (hr.mono (by decide)) (by rfl) (pv 0)) (pa_cons (pe_err ES.NotStanding (hr.mono (by decide)) (by rfl) (pv 0)) (pa_cons (pe_err ES.TakenAnswer (hr.mono (by decide)) (by rfl) (pv 0)) pa_nil)))))))
  (pss_one (ps_ret (pe_op op_cat (pv 1) (pe_lst (pa_cons (pe_err ES.SharedCall (hr.mono (by decide)) (by rfl) (pv 0)) (pa_cons (pe_err ES.TakenName (hr.mono (by decide)) (by rfl) (pv 0)) pa_nil))))))), ?_⟩
    refine asg_lst (L := [(ga K "NotMatched", ("value" : Str)), (ga K "BrokenFan", ("value" : Str)), (ga K "NoFan", ("value" : Str)), (ga K "NotStanding", ("value" : Str)), (ga K "TakenAnswer", ("value" : Str))]) (by rfl) (Nat.le_of_ble_eq_true rfl) (fun p1 as1 H1 n1 s1 e1 r1 => ?_)
    refine ret_cat (L := [(ga K "SharedCall", ("value" : Str)), (ga K "TakenName", ("value" : Str))]) (by rfl) (by rfl) e1 r1 (Nat.le_of_ble_eq_true rfl) (Nat.le_of_ble_eq_true rfl) (fun p2 as2 H2 n2 s2 e2 r2 => ?_)
    exact k p2 as2 H2 (s1.free n2) (s1.trans s2) e2 r2
def l_law_placed_by_name (K : PySem.W.Frag) : List (Addr × Str) := (([(ga K "InvalidStarts", ("position" : Str)), (ga K "InvalidSteps", ("position" : Str)), (ga K "InvalidRow", ("position" : Str))] ++ [(ga K "InvalidSigns", ("position" : Str)), (ga K "InvalidCalls", ("position" : Str)), (ga K "InvalidHidden", ("position" : Str))]) ++ [(ga K "InvalidPairs", ("position" : Str)), (ga K "NotGiven", ("position" : Str)), (ga K "CommandFailed", ("position" : Str))])
theorem cd_placed_by_name (F : At K mg "_law_placed_by_name" s_law_placed_by_name) (ES : ErrSet P w K mg base) : Cd P w K mg base 3 "_law_placed_by_name" ["_law_thing_here"] (spErrs (l_law_placed_by_name K)) := by
  refine cd_mk F sc_law_placed_by_name (fun vs H Q E h => ?_) (fun _ _ _ _ _ _ us hl => match us, hl with | [_], _ => rfl) (fun f cdv A outer s H vs Q E hr hG h => ?_)
  · obtain ⟨y, rfl, _⟩ := h
    rfl
  · obtain ⟨y, rfl, k⟩ := h
    refine ⟨_, (pss_cons (ps_set (i := 1) sc_law_placed_by_name.nd rfl (Or.inl rfl) (pe_lst (pa_cons (pe_errK ES.InvalidStarts (hr.mono (by decide)) (by rfl) (pv 0)) (pa_cons (pe_errK ES.InvalidSteps (hr.mono (by decide)) (by rfl) (pv 0)) (pa_cons (pe_errK ES.InvalidRow (hr.mono (by decide)) (by rfl) (pv 0)) pa_nil)))))
  (pss_cons (ps_set (i := 1) sc_law_placed_by_name.nd rfl (Or.inl rfl) (pe_op op_cat (pv 1) (pe_lst (pa_cons (pe_errK ES.InvalidSigns (hr.mono (by decide)) (by rfl) (pv 0)) (pa_cons (pe_errK ES.InvalidCalls (hr.mono (by decide)) (by rfl) (pv 0)) (pa_cons (pe_errK ES.InvalidHidden (hr.mono (by decide)) (by rfl) (pv 0)) pa_nil))))))
  (pss_one (ps_ret (pe_op op_cat (pv 1) (pe_lst (pa_cons (pe_errK ES.InvalidPairs (hr.mono (by decide)) (by rfl) (pv 0)) (pa_cons (pe_errK ES.NotGiven (hr.mono (by decide)) (by rfl) (pv 0)) (pa_cons (pe_errK ES.CommandFailed (hr.mono (by decide)) (by rfl) (pv 0)) pa_nil))))))))), ?_⟩
    refine asg_lst (L := [(ga K "InvalidStarts", ("position" : Str)), (ga K "InvalidSteps", ("position" : Str)), (ga K "InvalidRow", ("position" : Str))]) (by rfl) (Nat.le_of_ble_eq_true rfl) (fun p1 as1 H1 n1 s1 e1 r1 => ?_)
    refine asg_cat (L := [(ga K "InvalidSigns", ("position" : Str)), (ga K "InvalidCalls", ("position" : Str)), (ga K "InvalidHidden", ("position" : Str))]) (by rfl) (by rfl) e1 r1 (Nat.le_of_ble_eq_true rfl) (Nat.le_of_ble_eq_true rfl) (fun p2 as2 H2 n2 s2 e2 r2 => ?_)
    refine ret_cat (L := [(ga K "InvalidPairs", ("position" : Str)), (ga K "NotGiven", ("position" : Str)), (ga K "CommandFailed", ("position" : Str))]) (by rfl) (by rfl) e2 r2 (Nat.le_of_ble_eq_true rfl) (Nat.le_of_ble_eq_true rfl) (fun p3 as3 H3 n3 s3 e3 r3 => ?_)
    exact k p3 as3 H3 (s1.free (s2.free n3)) ((s1.trans s2).trans s3) e3 r3
def l_law_valued_by_name (K : PySem.W.Frag) : List (Addr × Str) := (((((((([(ga K "InvalidStates", ("value" : Str)), (ga K "InvalidStep", ("value" : Str)), (ga K "InvalidState", ("value" : Str)), (ga K "InvalidOrder", ("value" : Str))] ++ [(ga K "InvalidSet", ("value" : Str)), (ga K "InvalidSign", ("value" : Str)), (ga K "InvalidCall", ("value" : Str))]) ++ [(ga K "InvalidNames", ("value" : Str)), (ga K "InvalidName", ("value" : Str)), (ga K "InvalidNumber", ("value" : Str))]) ++ [(ga K "InvalidKind", ("value" : Str)), (ga K "InvalidReading", ("value" : Str)), (ga K "InvalidMatching", ("value" : Str))]) ++ [(ga K "InvalidFan", ("value" : Str)), (ga K "InvalidMiddle", ("value" : Str)), (ga K "InvalidFamily", ("value" : Str))]) ++ [(ga K "InvalidBox", ("value" : Str)), (ga K "InvalidClaim", ("value" : Str)), (ga K "InvalidCommand", ("value" : Str))]) ++ [(ga K "UnknownStep", ("value" : Str)), (ga K "UnknownName", ("value" : Str)), (ga K "NotMatched", ("value" : Str))]) ++ [(ga K "BrokenFan", ("value" : Str)), (ga K "NoFan", ("value" : Str)), (ga K "NotStanding", ("value" : Str))]) ++ [(ga K "TakenAnswer", ("value" : Str)), (ga K "SharedCall", ("value" : Str)), (ga K "TakenName", ("value" : Str))])
theorem cd_valued_by_name (F : At K mg "_law_valued_by_name" s_law_valued_by_name) (ES : ErrSet P w K mg base) : Cd P w K mg base 3 "_law_valued_by_name" ["_law_thing_here"] (spErrs (l_law_valued_by_name K)) := by
  refine cd_mk F sc_law_valued_by_name (fun vs H Q E h => ?_) (fun _ _ _ _ _ _ us hl => match us, hl with | [_], _ => rfl) (fun f cdv A outer s H vs Q E hr hG h => ?_)
  · obtain ⟨y, rfl, _⟩ := h
    rfl
  · obtain ⟨y, rfl, k⟩ := h
    refine ⟨_, (pss_cons (ps_set (i := 1) sc_law_valued_by_name.nd rfl (Or.inl rfl) (pe_lst (pa_cons (pe_errK ES.InvalidStates (hr.mono (by decide)) (by rfl) (pv 0)) (pa_cons (pe_errK ES.InvalidStep (hr.mono (by decide)) (by rfl) (pv 0)) (pa_cons (pe_errK ES.InvalidState (hr.mono (by decide)) (by rfl) (pv 0)) (pa_cons (pe_errK ES.InvalidOrder (hr.mono (by decide)) (by rfl) (pv 0)) pa_nil))))))
  (pss_cons (ps_set (i := 1) sc_law_valued_by_name.nd rfl (Or.inl rfl) (pe_op op_cat (pv 1) (pe_lst (pa_cons (pe_errK ES.InvalidSet (hr.mono (by decide)) (by rfl) (pv 0)) (pa_cons (pe_errK ES.InvalidSign (hr.mono (by decide)) (by rfl) (pv 0)) (pa_cons (pe_errK ES.InvalidCall (hr.mono (by decide)) (by rfl) (pv 0)) pa_nil))))))
  (pss_cons (ps_set (i := 1) sc_law_valued_by_name.nd rfl (Or.inl rfl) (pe_op op_cat (pv 1) (pe_lst (pa_cons (pe_errK ES.InvalidNames (hr.mono (by decide)) (by rfl) (pv 0)) (pa_cons (pe_errK ES.InvalidName (hr.mono (by decide)) (by rfl) (pv 0)) (pa_cons (pe_errK ES.InvalidNumber (hr.mono (by decide)) (by rfl) (pv 0)) pa_nil))))))
  (pss_cons (ps_set (i := 1) sc_law_valued_by_name.nd rfl (Or.inl rfl) (pe_op op_cat (pv 1) (pe_lst (pa_cons (pe_errK ES.InvalidKind (hr.mono (by decide)) (by rfl) (pv 0)) (pa_cons (pe_errK ES.InvalidReading (hr.mono (by decide)) (by rfl) (pv 0)) (pa_cons (pe_errK ES.InvalidMatching (hr.mono (by decide)) (by rfl) (pv 0)) pa_nil))))))
  (pss_cons (ps_set (i := 1) sc_law_valued_by_name.nd rfl (Or.inl rfl) (pe_op op_cat (pv 1) (pe_lst (pa_cons (pe_errK ES.InvalidFan (hr.mono (by decide)) (by rfl) (pv 0)) (pa_cons (pe_errK ES.InvalidMiddle (hr.mono (by decide)) (by rfl) (pv 0)) (pa_cons (pe_errK ES.InvalidFamily (hr.mono (by decide)) (by rfl) (pv 0)) pa_nil))))))
  (pss_cons (ps_set (i := 1) sc_law_valued_by_name.nd rfl (Or.inl rfl) (pe_op op_cat (pv 1) (pe_lst (pa_cons (pe_errK ES.InvalidBox (hr.mono (by decide)) (by rfl) (pv 0)) (pa_cons (pe_errK ES.InvalidClaim (hr.mono (by decide)) (by rfl) (pv 0)) (pa_cons (pe_errK ES.InvalidCommand (hr.mono (by decide)) (by rfl) (pv 0)) pa_nil))))))
  (pss_cons (ps_set (i := 1) sc_law_valued_by_name.nd rfl (Or.inl rfl) (pe_op op_cat (pv 1) (pe_lst (pa_cons (pe_errK ES.UnknownStep (hr.mono (by decide)) (by rfl) (pv 0)) (pa_cons (pe_errK ES.UnknownName (hr.mono (by decide)) (by rfl) (pv 0)) (pa_cons (pe_errK ES.NotMatched (hr.mono (by decide)) (by rfl) (pv 0)) pa_nil))))))
  (pss_cons (ps_set (i := 1) sc_law_valued_by_name.nd rfl (Or.inl rfl) (pe_op op_cat (pv 1) (pe_lst (pa_cons (pe_errK ES.BrokenFan (hr.mono (by decide)) (by rfl) (pv 0)) (pa_cons (pe_errK ES.NoFan (hr.mono (by decide)) (by rfl) (pv 0)) (pa_cons (pe_errK ES.NotStanding (hr.mono (by decide)) (by rfl) (pv 0)) pa_nil))))))
  (pss_one (ps_ret (pe_op op_cat (pv 1) (pe_lst (pa_cons (pe_errK ES.TakenAnswer (hr.mono (by decide)) (by rfl) (pv 0)) (pa_cons (pe_errK ES.SharedCall (hr.mono (by decide)) (by rfl) (pv 0)) (pa_cons (pe_errK ES.TakenName (hr.mono (by decide)) (by rfl) (pv 0)) pa_nil))))))))))))))), ?_⟩
    refine asg_lst (L := [(ga K "InvalidStates", ("value" : Str)), (ga K "InvalidStep", ("value" : Str)), (ga K "InvalidState", ("value" : Str)), (ga K "InvalidOrder", ("value" : Str))]) (by rfl) (Nat.le_of_ble_eq_true rfl) (fun p1 as1 H1 n1 s1 e1 r1 => ?_)
    refine asg_cat (L := [(ga K "InvalidSet", ("value" : Str)), (ga K "InvalidSign", ("value" : Str)), (ga K "InvalidCall", ("value" : Str))]) (by rfl) (by rfl) e1 r1 (Nat.le_of_ble_eq_true rfl) (Nat.le_of_ble_eq_true rfl) (fun p2 as2 H2 n2 s2 e2 r2 => ?_)
    refine asg_cat (L := [(ga K "InvalidNames", ("value" : Str)), (ga K "InvalidName", ("value" : Str)), (ga K "InvalidNumber", ("value" : Str))]) (by rfl) (by rfl) e2 r2 (Nat.le_of_ble_eq_true rfl) (Nat.le_of_ble_eq_true rfl) (fun p3 as3 H3 n3 s3 e3 r3 => ?_)
    refine asg_cat (L := [(ga K "InvalidKind", ("value" : Str)), (ga K "InvalidReading", ("value" : Str)), (ga K "InvalidMatching", ("value" : Str))]) (by rfl) (by rfl) e3 r3 (Nat.le_of_ble_eq_true rfl) (Nat.le_of_ble_eq_true rfl) (fun p4 as4 H4 n4 s4 e4 r4 => ?_)
    refine asg_cat (L := [(ga K "InvalidFan", ("value" : Str)), (ga K "InvalidMiddle", ("value" : Str)), (ga K "InvalidFamily", ("value" : Str))]) (by rfl) (by rfl) e4 r4 (Nat.le_of_ble_eq_true rfl) (Nat.le_of_ble_eq_true rfl) (fun p5 as5 H5 n5 s5 e5 r5 => ?_)
    refine asg_cat (L := [(ga K "InvalidBox", ("value" : Str)), (ga K "InvalidClaim", ("value" : Str)), (ga K "InvalidCommand", ("value" : Str))]) (by rfl) (by rfl) e5 r5 (Nat.le_of_ble_eq_true rfl) (Nat.le_of_ble_eq_true rfl) (fun p6 as6 H6 n6 s6 e6 r6 => ?_)
    refine asg_cat (L := [(ga K "UnknownStep", ("value" : Str)), (ga K "UnknownName", ("value" : Str)), (ga K "NotMatched", ("value" : Str))]) (by rfl) (by rfl) e6 r6 (Nat.le_of_ble_eq_true rfl) (Nat.le_of_ble_eq_true rfl) (fun p7 as7 H7 n7 s7 e7 r7 => ?_)
    refine asg_cat (L := [(ga K "BrokenFan", ("value" : Str)), (ga K "NoFan", ("value" : Str)), (ga K "NotStanding", ("value" : Str))]) (by rfl) (by rfl) e7 r7 (Nat.le_of_ble_eq_true rfl) (Nat.le_of_ble_eq_true rfl) (fun p8 as8 H8 n8 s8 e8 r8 => ?_)
    refine ret_cat (L := [(ga K "TakenAnswer", ("value" : Str)), (ga K "SharedCall", ("value" : Str)), (ga K "TakenName", ("value" : Str))]) (by rfl) (by rfl) e8 r8 (Nat.le_of_ble_eq_true rfl) (Nat.le_of_ble_eq_true rfl) (fun p9 as9 H9 n9 s9 e9 r9 => ?_)
    exact k p9 as9 H9 (s1.free (s2.free (s3.free (s4.free (s5.free (s6.free (s7.free (s8.free n9)))))))) ((((((((s1.trans s2).trans s3).trans s4).trans s5).trans s6).trans s7).trans s8).trans s9) e9 r9
end
end K10

/-! ## K10d -/
set_option Elab.async false
set_option linter.all false
set_option maxRecDepth 100000
set_option maxHeartbeats 4000000
namespace K10
open PySem PySem.Spec PyProof.Rows L2 He Vx

theorem cat_len {α β : Type} {F : Addr → α → Prop} {G : Addr → β → Prop} {as bs : List Addr} {L : List α} {M : List β} (r : Paired F as L) (q : Paired G bs M) (h : L.length + M.length ≤ 1000) : (as.map V.ref).length + (bs.map V.ref).length ≤ sizeLine := by
  rw [List.length_map, List.length_map, paired_len r, paired_len q]
  exact Nat.le_of_lt (small1000 h)
/-- the four lists of errors made with y -/
structure Every (K : PySem.W.Frag) (H : Hp) (y : V) (b1 b2 b3 b4 : Addr) (as1 as2 as3 zs : List Addr) (a4 : Addr) : Prop where
  h1 : H b1 = some (.lst (as1.map V.ref))
  h2 : H b2 = some (.lst (as2.map V.ref))
  h3 : H b3 = some (.lst ((as3 ++ zs).map V.ref))
  h4 : H b4 = some (.lst [.ref a4])
  r1 : XOs H y as1 (l_law_placed K ++ [(ga K "InvalidText", ("line" : Str))] ++ l_law_valued K)
  r2 : XOs H y as2 [(ga K "UnknownStep", ("value" : Str)), (ga K "UnknownName", ("value" : Str))]
  r3 : XOs H y as3 (l_law_stood K ++ [(ga K "NotGiven", ("position" : Str)), (ga K "CommandFailed", ("position" : Str))])
  r5 : Paired (fun a C => H a = some (exo a C none)) zs [ga K "NoMatching", ga K "NothingToUndo", ga K "Untrue"]
  r4 : XO H a4 (ga K "TooMany") [("limit", .int 5), ("what", y)]
theorem zs_mono {H H' : Hp} (s : Same H H') : ∀ {as : List Addr} {L : List Addr}, Paired (fun a C => H a = some (exo a C none)) as L → Paired (fun a C => H' a = some (exo a C none)) as L
  | _, _, .nil => .nil
  | _, _, .cons a r => .cons (s _ _ a) (zs_mono s r)
theorem Every.mono {K : PySem.W.Frag} {H H' : Hp} (s : Same H H') {y : V} {b1 b2 b3 b4 a4 : Addr} {as1 as2 as3 zs : List Addr} (E : Every K H y b1 b2 b3 b4 as1 as2 as3 zs a4) : Every K H' y b1 b2 b3 b4 as1 as2 as3 zs a4 :=
  ⟨s _ _ E.h1, s _ _ E.h2, s _ _ E.h3, s _ _ E.h4, E.r1.mono s, E.r2.mono s, E.r3.mono s, zs_mono s E.r5, E.r4.mono s⟩
def spEvery (K : PySem.W.Frag) : Sp := fun vs H Q _ => ∃ y, vs = [y] ∧ ∀ p b1 b2 b3 b4 as1 as2 as3 zs a4 H', H p = none → Same H H' → H' p = some (.lst [.ref b1, .ref b2, .ref b3, .ref b4]) → Every K H' y b1 b2 b3 b4 as1 as2 as3 zs a4 → Q (.ref p) H'
section
variable {P : Program} {w : World} {K : PySem.W.Frag} {mg : Str → Option Value} {base : Heap}
theorem cd_every (F : At K mg "_law_every" s_law_every) (ES : ErrSet P w K mg base) (c__law_placed : Cd P w K mg base 3 "_law_placed" ["_law_thing_here"] (spErrs (l_law_placed K)))
    (c__law_valued : Cd P w K mg base 3 "_law_valued" ["_law_thing_here"] (spErrs (l_law_valued K))) (c__law_stood : Cd P w K mg base 3 "_law_stood" ["_law_thing_here"] (spErrs (l_law_stood K))) :
    Cd P w K mg base 4 "_law_every" ["_law_thing_here"] (spEvery K) := by
  refine cd_mk F sc_law_every (fun vs H Q E h => ?_) (fun _ _ _ _ _ _ us hl => match us, hl with | [_], _ => rfl) (fun f cdv A outer s H vs Q E hr hG h => ?_)
  · obtain ⟨y, rfl, _⟩ := h
    rfl
  · obtain ⟨y, rfl, k⟩ := h
    refine ⟨_, (pss_cons (ps_set (i := 1) sc_law_every.nd rfl (Or.inl rfl) (pe_op op_cat (pe_op op_cat (pe_cd c__law_placed (hr.mono (by decide)) hG (by rfl) (pa_cons (pv 0) pa_nil)) (pe_lst (pa_cons (pe_err ES.InvalidText (hr.mono (by decide)) (by rfl) (pv 0)) pa_nil))) (pe_cd c__law_valued (hr.mono (by decide)) hG (by rfl) (pa_cons (pv 0) pa_nil))))
  (pss_cons (ps_set (i := 2) sc_law_every.nd rfl (Or.inl rfl) (pe_op op_cat (pe_cd c__law_stood (hr.mono (by decide)) hG (by rfl) (pa_cons (pv 0) pa_nil)) (pe_lst (pa_cons (pe_err ES.NotGiven (hr.mono (by decide)) (by rfl) (pv 0)) (pa_cons (pe_err ES.CommandFailed (hr.mono (by decide)) (by rfl) (pv 0)) (pa_cons (pe_err0 ES.NoMatching (by rfl)) (pa_cons (pe_err0 ES.NothingToUndo (by rfl)) (pa_cons (pe_err0 ES.Untrue (by rfl)) pa_nil))))))))
  (pss_one (ps_ret (pe_lst (pa_cons (pv 1) (pa_cons (pe_lst (pa_cons (pe_err ES.UnknownStep (hr.mono (by decide)) (by rfl) (pv 0)) (pa_cons (pe_err ES.UnknownName (hr.mono (by decide)) (by rfl) (pv 0)) pa_nil))) (pa_cons (pv 2) (pa_cons (pe_lst (pa_cons (pe_err2 ES.TooMany (hr.mono (by decide)) (by rfl) (pv 0) pe_int) pa_nil)) pa_nil))))))))), ?_⟩
    refine ⟨y, rfl, y, rfl, fun p1 as1 H1 n1 s1 e1 r1 => ?_⟩
    refine lst_read (L := [(ga K "InvalidText", ("line" : Str))]) (y := y) rfl (Nat.le_of_ble_eq_true rfl) fun p2 as2 H2 n2 s2 e2 r2 => ?_
    refine ⟨p1, p2, _, _, rfl, rfl, s2 _ _ e1, e2, cat_len r1 r2 (Nat.le_of_ble_eq_true rfl), fun p3 n3 => ?_⟩
    generalize g3 : upd H2 p3 _ = H3
    have s3 : Same H2 H3 := g3 ▸ same_new n3
    have e3 := g3 ▸ upd_same (H := H2) (a := p3)
    clear g3
    have r3 := paired_app ((r1.mono s2).mono s3) (r2.mono s3)
    rw [← List.map_append] at e3
    refine ⟨y, rfl, y, rfl, fun p4 as4 H4 n4 s4 e4 r4 => ?_⟩
    refine ⟨p3, p4, _, _, rfl, rfl, s4 _ _ e3, e4, cat_len r3 r4 (Nat.le_of_ble_eq_true rfl), fun p5 n5 => ?_⟩
    generalize g5 : upd H4 p5 _ = H5
    have s5 : Same H4 H5 := g5 ▸ same_new n5
    have e5 := g5 ▸ upd_same (H := H4) (a := p5)
    clear g5
    rw [← List.map_append] at e5
    have r5 := paired_app (XOs.mono (s4.trans s5) r3) (r4.mono s5)
    -- what stood
    refine ⟨y, rfl, y, rfl, fun p6 as6 H6 n6 s6 e6 r6 => ?_⟩
    refine ⟨y, rfl, fun a7 H7 n7 s7 x7 => ⟨y, rfl, fun a8 H8 n8 s8 x8 => fun a9 n9 => ?_⟩⟩
    generalize g9 : upd H8 a9 _ = H9
    have s9 : Same H8 H9 := g9 ▸ same_new n9
    have e9 := g9 ▸ upd_same (H := H8) (a := a9)
    clear g9
    refine fun a10 n10 => ?_
    generalize g10 : upd H9 a10 _ = H10
    have s10 : Same H9 H10 := g10 ▸ same_new n10
    have e10 := g10 ▸ upd_same (H := H9) (a := a10)
    clear g10
    refine fun a11 n11 => ?_
    generalize g11 : upd H10 a11 _ = H11
    have s11 : Same H10 H11 := g11 ▸ same_new n11
    have e11 := g11 ▸ upd_same (H := H10) (a := a11)
    clear g11
    refine ⟨by show 5 ≤ sizeLine; decide, fun p12 n12 => ?_⟩
    generalize g12 : upd H11 p12 _ = H12
    have s12 : Same H11 H12 := g12 ▸ same_new n12
    have e12 := g12 ▸ upd_same (H := H11) (a := p12)
    clear g12
    have S12 := s7.trans (s8.trans (s9.trans (s10.trans (s11.trans s12))))
    refine ⟨p6, p12, _, _, rfl, rfl, S12 _ _ e6, e12, ?_, fun p13 n13 => ?_⟩
    · have q := paired_len r6
      rw [List.length_map, q]
      show (7 : Nat) + 5 ≤ sizeLine
      decide
    generalize g13 : upd H12 p13 _ = H13
    have s13 : Same H12 H13 := g13 ▸ same_new n13
    have e13 := g13 ▸ upd_same (H := H12) (a := p13)
    clear g13
    -- the four lists
    refine ⟨_, rfl, y, rfl, fun a14 H14 n14 s14 x14 => ⟨y, rfl, fun a15 H15 n15 s15 x15 => ⟨by show 2 ≤ sizeLine; decide, fun p16 n16 => ?_⟩⟩⟩
    generalize g16 : upd H15 p16 _ = H16
    have s16 : Same H15 H16 := g16 ▸ same_new n16
    have e16 := g16 ▸ upd_same (H := H15) (a := p16)
    clear g16
    refine ⟨_, rfl, y, rfl, fun a17 H17 n17 s17 x17 => ⟨by show 1 ≤ sizeLine; decide, fun p18 n18 => ?_⟩⟩
    generalize g18 : upd H17 p18 _ = H18
    have s18 : Same H17 H18 := g18 ▸ same_new n18
    have e18 := g18 ▸ upd_same (H := H17) (a := p18)
    clear g18
    refine ⟨by show 4 ≤ sizeLine; decide, fun p19 n19 => ?_⟩
    generalize g19 : upd H18 p19 _ = H19
    have s19 : Same H18 H19 := g19 ▸ same_new n19
    have e19 := g19 ▸ upd_same (H := H18) (a := p19)
    clear g19
    have T13 := s14.trans (s15.trans (s16.trans (s17.trans (s18.trans s19))))
    have T11 := s12.trans (s13.trans T13)
    have T8 := s9.trans (s10.trans (s11.trans T11))
    have T5 := s6.trans (s7.trans (s8.trans T8))
    have T0 := s1.trans (s2.trans (s3.trans (s4.trans (s5.trans T5))))
    have T18 := s1.trans (s2.trans (s3.trans (s4.trans (s5.trans (s6.trans (s7.trans (s8.trans (s9.trans (s10.trans (s11.trans (s12.trans (s13.trans (s14.trans (s15.trans (s16.trans (s17.trans s18))))))))))))))))
    refine k p19 p5 p16 p13 p18 (as1 ++ as2 ++ as4) [a14, a15] (as6 ++ [a7, a8]) [a9, a10, a11] a17 _ (T18.free n19) T0 e19 ⟨T5 _ _ e5, (s17.trans (s18.trans s19)) _ _ e16, ?_, s19 _ _ e18, XOs.mono T5 r5, ?_, ?_, ?_, x17.mono (s18.trans s19)⟩
    · have q := T13 _ _ e13
      rw [q, List.map_append, List.map_append, List.append_assoc]
      rfl
    · exact .cons (x14.mono (s15.trans (s16.trans (s17.trans (s18.trans s19))))) (.cons (x15.mono (s16.trans (s17.trans (s18.trans s19)))) .nil)
    · exact paired_app (XOs.mono (s7.trans (s8.trans T8)) r6) (.cons (x7.mono (s8.trans T8)) (.cons (x8.mono T8) .nil))
    · exact .cons ((s10.trans (s11.trans T11)) _ _ e9) (.cons ((s11.trans T11) _ _ e10) (.cons (T11 _ _ e11) .nil))
end
end K10

/-! ## K10e -/
set_option Elab.async false
set_option linter.all false
set_option maxRecDepth 100000
set_option maxHeartbeats 4000000
namespace K10
open PySem PySem.Spec PyProof.Rows L2 He Vx
section
variable {P : Program} {w : World} {K : PySem.W.Frag} {mg : Str → Option Value} {base : Heap}
def l_law_of_boxes : List CE := (((((((([.own "InvalidStarts", .own "InvalidSteps", .own "InvalidRow"] ++ [.own "InvalidSigns", .own "InvalidCalls", .own "InvalidHidden"]) ++ [.own "InvalidPairs", .own "InvalidText", .own "InvalidStates"]) ++ [.own "InvalidStep", .own "InvalidState", .own "InvalidOrder"]) ++ [.own "InvalidSet", .own "InvalidSign", .own "InvalidCall"]) ++ [.own "InvalidNames", .own "InvalidName", .own "InvalidNumber"]) ++ [.own "InvalidKind", .own "InvalidReading", .own "InvalidMatching"]) ++ [.own "InvalidFan", .own "InvalidMiddle", .own "InvalidFamily"]) ++ [.own "InvalidBox", .own "InvalidClaim", .own "InvalidCommand"])
theorem cd_of_boxes (F : At K mg "_law_of_boxes" s_law_of_boxes) (T : BI mg) (ES : ErrSet P w K mg base) (XG : XcG K) : Cd P w K mg base 1 "_law_of_boxes" ["_law_e"] (spIs K l_law_of_boxes) := by
  refine cd_mk F sc_law_of_boxes (fun vs H Q E h => ?_) (fun _ _ _ _ _ _ us hl => match us, hl with | [_], _ => rfl) (fun f cdv A outer s H vs Q E hr hG h => ?_)
  · obtain ⟨a, C, b, g, rfl, _⟩ := h
    rfl
  · obtain ⟨a, C, b, g, rfl, hx, X, hg, k⟩ := h
    refine ⟨_, (pss_cons (ps_set (i := 1) sc_law_of_boxes.nd rfl (Or.inl rfl) (pe_lst (pa_cons (pe_callB (call_isX XG) (by rfl) T.isinstance bt_isinstance (pa_cons (pv 0) (pa_cons (pe_glob (v := .ref _) (by rfl) ES.InvalidStarts.hm rfl) pa_nil))) (pa_cons (pe_callB (call_isX XG) (by rfl) T.isinstance bt_isinstance (pa_cons (pv 0) (pa_cons (pe_glob (v := .ref _) (by rfl) ES.InvalidSteps.hm rfl) pa_nil))) (pa_cons (pe_callB (call_isX XG) (by rfl) T.isinstance bt_isinstance (pa_cons (pv 0) (pa_cons (pe_glob (v := .ref _) (by rfl) ES.InvalidRow.hm rfl) pa_nil))) pa_nil)))))
  (pss_cons (ps_set (i := 1) sc_law_of_boxes.nd rfl (Or.inl rfl) (pe_op op_cat (pv 1) (pe_lst (pa_cons (pe_callB (call_isX XG) (by rfl) T.isinstance bt_isinstance (pa_cons (pv 0) (pa_cons (pe_glob (v := .ref _) (by rfl) ES.InvalidSigns.hm rfl) pa_nil))) (pa_cons (pe_callB (call_isX XG) (by rfl) T.isinstance bt_isinstance (pa_cons (pv 0) (pa_cons (pe_glob (v := .ref _) (by rfl) ES.InvalidCalls.hm rfl) pa_nil))) (pa_cons (pe_callB (call_isX XG) (by rfl) T.isinstance bt_isinstance (pa_cons (pv 0) (pa_cons (pe_glob (v := .ref _) (by rfl) ES.InvalidHidden.hm rfl) pa_nil))) pa_nil))))))
  (pss_cons (ps_set (i := 1) sc_law_of_boxes.nd rfl (Or.inl rfl) (pe_op op_cat (pv 1) (pe_lst (pa_cons (pe_callB (call_isX XG) (by rfl) T.isinstance bt_isinstance (pa_cons (pv 0) (pa_cons (pe_glob (v := .ref _) (by rfl) ES.InvalidPairs.hm rfl) pa_nil))) (pa_cons (pe_callB (call_isX XG) (by rfl) T.isinstance bt_isinstance (pa_cons (pv 0) (pa_cons (pe_glob (v := .ref _) (by rfl) ES.InvalidText.hm rfl) pa_nil))) (pa_cons (pe_callB (call_isX XG) (by rfl) T.isinstance bt_isinstance (pa_cons (pv 0) (pa_cons (pe_glob (v := .ref _) (by rfl) ES.InvalidStates.hm rfl) pa_nil))) pa_nil))))))
  (pss_cons (ps_set (i := 1) sc_law_of_boxes.nd rfl (Or.inl rfl) (pe_op op_cat (pv 1) (pe_lst (pa_cons (pe_callB (call_isX XG) (by rfl) T.isinstance bt_isinstance (pa_cons (pv 0) (pa_cons (pe_glob (v := .ref _) (by rfl) ES.InvalidStep.hm rfl) pa_nil))) (pa_cons (pe_callB (call_isX XG) (by rfl) T.isinstance bt_isinstance (pa_cons (pv 0) (pa_cons (pe_glob (v := .ref _) (by rfl) ES.InvalidState.hm rfl) pa_nil))) (pa_cons (pe_callB (call_isX XG) (by rfl) T.isinstance bt_isinstance (pa_cons (pv 0) (pa_cons (pe_glob (v := .ref _) (by rfl) ES.InvalidOrder.hm rfl) pa_nil))) pa_nil))))))
  (pss_cons (ps_set (i := 1) sc_law_of_boxes.nd rfl (Or.inl rfl) (pe_op op_cat (pv 1) (pe_lst (pa_cons (pe_callB (call_isX XG) (by rfl) T.isinstance bt_isinstance (pa_cons (pv 0) (pa_cons (pe_glob (v := .ref _) (by rfl) ES.InvalidSet.hm rfl) pa_nil))) (pa_cons (pe_callB (call_isX XG) (by rfl) T.isinstance bt_isinstance (pa_cons (pv 0) (pa_cons (pe_glob (v := .ref _) (by rfl) ES.InvalidSign.hm rfl) pa_nil))) (pa_cons (pe_callB (call_isX XG) (by rfl) T.isinstance bt_isinstance (pa_cons (pv 0) (pa_cons (pe_glob (v := .ref _) (by rfl) ES.InvalidCall.hm rfl) pa_nil))) pa_nil))))))
  (pss_cons (ps_set (i := 1) sc_law_of_boxes.nd rfl (Or.inl rfl) (pe_op op_cat (pv 1) (pe_lst (pa_cons (pe_callB (call_isX XG) (by rfl) T.isinstance bt_isinstance (pa_cons (pv 0) (pa_cons (pe_glob (v := .ref _) (by rfl) ES.InvalidNames.hm rfl) pa_nil))) (pa_cons (pe_callB (call_isX XG) (by rfl) T.isinstance bt_isinstance (pa_cons (pv 0) (pa_cons (pe_glob (v := .ref _) (by rfl) ES.InvalidName.hm rfl) pa_nil))) (pa_cons (pe_callB (call_isX XG) (by rfl) T.isinstance bt_isinstance (pa_cons (pv 0) (pa_cons (pe_glob (v := .ref _) (by rfl) ES.InvalidNumber.hm rfl) pa_nil))) pa_nil))))))
  (pss_cons (ps_set (i := 1) sc_law_of_boxes.nd rfl (Or.inl rfl) (pe_op op_cat (pv 1) (pe_lst (pa_cons (pe_callB (call_isX XG) (by rfl) T.isinstance bt_isinstance (pa_cons (pv 0) (pa_cons (pe_glob (v := .ref _) (by rfl) ES.InvalidKind.hm rfl) pa_nil))) (pa_cons (pe_callB (call_isX XG) (by rfl) T.isinstance bt_isinstance (pa_cons (pv 0) (pa_cons (pe_glob (v := .ref _) (by rfl) ES.InvalidReading.hm rfl) pa_nil))) (pa_cons (pe_callB (call_isX XG) (by rfl) T.isinstance bt_isinstance (pa_cons (pv 0) (pa_cons (pe_glob (v := .ref _) (by rfl) ES.InvalidMatching.hm rfl) pa_nil))) pa_nil))))))
  (pss_cons (ps_set (i := 1) sc_law_of_boxes.nd rfl (Or.inl rfl) (pe_op op_cat (pv 1) (pe_lst (pa_cons (pe_callB (call_isX XG) (by rfl) T.isinstance bt_isinstance (pa_cons (pv 0) (pa_cons (pe_glob (v := .ref _) (by rfl) ES.InvalidFan.hm rfl) pa_nil))) (pa_cons (pe_callB (call_isX XG) (by rfl) T.isinstance bt_isinstance (pa_cons (pv 0) (pa_cons (pe_glob (v := .ref _) (by rfl) ES.InvalidMiddle.hm rfl) pa_nil))) (pa_cons (pe_callB (call_isX XG) (by rfl) T.isinstance bt_isinstance (pa_cons (pv 0) (pa_cons (pe_glob (v := .ref _) (by rfl) ES.InvalidFamily.hm rfl) pa_nil))) pa_nil))))))
  (pss_one (ps_ret (pe_op op_cat (pv 1) (pe_lst (pa_cons (pe_callB (call_isX XG) (by rfl) T.isinstance bt_isinstance (pa_cons (pv 0) (pa_cons (pe_glob (v := .ref _) (by rfl) ES.InvalidBox.hm rfl) pa_nil))) (pa_cons (pe_callB (call_isX XG) (by rfl) T.isinstance bt_isinstance (pa_cons (pv 0) (pa_cons (pe_glob (v := .ref _) (by rfl) ES.InvalidClaim.hm rfl) pa_nil))) (pa_cons (pe_callB (call_isX XG) (by rfl) T.isinstance bt_isinstance (pa_cons (pv 0) (pa_cons (pe_glob (v := .ref _) (by rfl) ES.InvalidCommand.hm rfl) pa_nil))) pa_nil))))))))))))))), ?_⟩
    have hg := fun c (hc : c ∈ l_law_of_boxes) => hg c hc
    refine asg_is (L := [.own "InvalidStarts", .own "InvalidSteps", .own "InvalidRow"]) (g := g) (by rfl) hx X (fun c hc => hg c (List.mem_append_left _ (List.mem_append_left _ (List.mem_append_left _ (List.mem_append_left _ (List.mem_append_left _ (List.mem_append_left _ (List.mem_append_left _ (List.mem_append_left _ hc))))))))) (Nat.le_of_ble_eq_true rfl) (fun p1 H1 n1 s1 e1 => ?_)
    refine asg_catI (L := [.own "InvalidSigns", .own "InvalidCalls", .own "InvalidHidden"]) (g := g) (by rfl) (by rfl) e1 (hx.mono s1) X (fun c hc => hg c (List.mem_append_left _ (List.mem_append_left _ (List.mem_append_left _ (List.mem_append_left _ (List.mem_append_left _ (List.mem_append_left _ (List.mem_append_left _ (List.mem_append_right _ hc))))))))) (Nat.le_of_ble_eq_true rfl) (Nat.le_of_ble_eq_true rfl) (fun p2 H2 n2 s2 e2 => ?_)
    refine asg_catI (L := [.own "InvalidPairs", .own "InvalidText", .own "InvalidStates"]) (g := g) (by rfl) (by rfl) e2 (hx.mono (s1.trans s2)) X (fun c hc => hg c (List.mem_append_left _ (List.mem_append_left _ (List.mem_append_left _ (List.mem_append_left _ (List.mem_append_left _ (List.mem_append_left _ (List.mem_append_right _ hc)))))))) (Nat.le_of_ble_eq_true rfl) (Nat.le_of_ble_eq_true rfl) (fun p3 H3 n3 s3 e3 => ?_)
    refine asg_catI (L := [.own "InvalidStep", .own "InvalidState", .own "InvalidOrder"]) (g := g) (by rfl) (by rfl) e3 (hx.mono ((s1.trans s2).trans s3)) X (fun c hc => hg c (List.mem_append_left _ (List.mem_append_left _ (List.mem_append_left _ (List.mem_append_left _ (List.mem_append_left _ (List.mem_append_right _ hc))))))) (Nat.le_of_ble_eq_true rfl) (Nat.le_of_ble_eq_true rfl) (fun p4 H4 n4 s4 e4 => ?_)
    refine asg_catI (L := [.own "InvalidSet", .own "InvalidSign", .own "InvalidCall"]) (g := g) (by rfl) (by rfl) e4 (hx.mono (((s1.trans s2).trans s3).trans s4)) X (fun c hc => hg c (List.mem_append_left _ (List.mem_append_left _ (List.mem_append_left _ (List.mem_append_left _ (List.mem_append_right _ hc)))))) (Nat.le_of_ble_eq_true rfl) (Nat.le_of_ble_eq_true rfl) (fun p5 H5 n5 s5 e5 => ?_)
    refine asg_catI (L := [.own "InvalidNames", .own "InvalidName", .own "InvalidNumber"]) (g := g) (by rfl) (by rfl) e5 (hx.mono ((((s1.trans s2).trans s3).trans s4).trans s5)) X (fun c hc => hg c (List.mem_append_left _ (List.mem_append_left _ (List.mem_append_left _ (List.mem_append_right _ hc))))) (Nat.le_of_ble_eq_true rfl) (Nat.le_of_ble_eq_true rfl) (fun p6 H6 n6 s6 e6 => ?_)
    refine asg_catI (L := [.own "InvalidKind", .own "InvalidReading", .own "InvalidMatching"]) (g := g) (by rfl) (by rfl) e6 (hx.mono (((((s1.trans s2).trans s3).trans s4).trans s5).trans s6)) X (fun c hc => hg c (List.mem_append_left _ (List.mem_append_left _ (List.mem_append_right _ hc)))) (Nat.le_of_ble_eq_true rfl) (Nat.le_of_ble_eq_true rfl) (fun p7 H7 n7 s7 e7 => ?_)
    refine asg_catI (L := [.own "InvalidFan", .own "InvalidMiddle", .own "InvalidFamily"]) (g := g) (by rfl) (by rfl) e7 (hx.mono ((((((s1.trans s2).trans s3).trans s4).trans s5).trans s6).trans s7)) X (fun c hc => hg c (List.mem_append_left _ (List.mem_append_right _ hc))) (Nat.le_of_ble_eq_true rfl) (Nat.le_of_ble_eq_true rfl) (fun p8 H8 n8 s8 e8 => ?_)
    refine ret_catI (L := [.own "InvalidBox", .own "InvalidClaim", .own "InvalidCommand"]) (g := g) (by rfl) (by rfl) e8 (hx.mono (((((((s1.trans s2).trans s3).trans s4).trans s5).trans s6).trans s7).trans s8)) X (fun c hc => hg c (List.mem_append_right _ hc)) (Nat.le_of_ble_eq_true rfl) (Nat.le_of_ble_eq_true rfl) (fun p9 H9 n9 s9 e9 => ?_)
    exact k p9 H9 (s1.free (s2.free (s3.free (s4.free (s5.free (s6.free (s7.free (s8.free n9)))))))) ((((((((s1.trans s2).trans s3).trans s4).trans s5).trans s6).trans s7).trans s8).trans s9) e9
def l_law_of_others : List CE := (((([.own "UnknownStep", .own "UnknownName", .own "NotMatched"] ++ [.own "BrokenFan", .own "NoFan", .own "NotStanding"]) ++ [.own "TakenAnswer", .own "SharedCall", .own "TakenName"]) ++ [.own "NotGiven", .own "CommandFailed", .own "NoMatching"]) ++ [.own "NothingToUndo", .own "Untrue", .own "TooMany"])
theorem cd_of_others (F : At K mg "_law_of_others" s_law_of_others) (T : BI mg) (ES : ErrSet P w K mg base) (XG : XcG K) : Cd P w K mg base 1 "_law_of_others" ["_law_e"] (spIs K l_law_of_others) := by
  refine cd_mk F sc_law_of_others (fun vs H Q E h => ?_) (fun _ _ _ _ _ _ us hl => match us, hl with | [_], _ => rfl) (fun f cdv A outer s H vs Q E hr hG h => ?_)
  · obtain ⟨a, C, b, g, rfl, _⟩ := h
    rfl
  · obtain ⟨a, C, b, g, rfl, hx, X, hg, k⟩ := h
    refine ⟨_, (pss_cons (ps_set (i := 1) sc_law_of_others.nd rfl (Or.inl rfl) (pe_lst (pa_cons (pe_callB (call_isX XG) (by rfl) T.isinstance bt_isinstance (pa_cons (pv 0) (pa_cons (pe_glob (v := .ref _) (by rfl) ES.UnknownStep.hm rfl) pa_nil))) (pa_cons (pe_callB (call_isX XG) (by rfl) T.isinstance bt_isinstance (pa_cons (pv 0) (pa_cons (pe_glob (v := .ref _) (by rfl) ES.UnknownName.hm rfl) pa_nil))) (pa_cons (pe_callB (call_isX XG) (by rfl) T.isinstance bt_isinstance (pa_cons (pv 0) (pa_cons (pe_glob (v := .ref _) (by rfl) ES.NotMatched.hm rfl) pa_nil))) pa_nil)))))
  (pss_cons (ps_set (i := 1) sc_law_of_others.nd rfl (Or.inl rfl) (pe_op op_cat (pv 1) (pe_lst (pa_cons (pe_callB (call_isX XG) (by rfl) T.isinstance bt_isinstance (pa_cons (pv 0) (pa_cons (pe_glob (v := .ref _) (by rfl) ES.BrokenFan.hm rfl) pa_nil))) (pa_cons (pe_callB (call_isX XG) (by rfl) T.isinstance bt_isinstance (pa_cons (pv 0) (pa_cons (pe_glob (v := .ref _) (by rfl) ES.NoFan.hm rfl) pa_nil))) (pa_cons (pe_callB (call_isX XG) (by rfl) T.isinstance bt_isinstance (pa_cons (pv 0) (pa_cons (pe_glob (v := .ref _) (by rfl) ES.NotStanding.hm rfl) pa_nil))) pa_nil))))))
  (pss_cons (ps_set (i := 1) sc_law_of_others.nd rfl (Or.inl rfl) (pe_op op_cat (pv 1) (pe_lst (pa_cons (pe_callB (call_isX XG) (by rfl) T.isinstance bt_isinstance (pa_cons (pv 0) (pa_cons (pe_glob (v := .ref _) (by rfl) ES.TakenAnswer.hm rfl) pa_nil))) (pa_cons (pe_callB (call_isX XG) (by rfl) T.isinstance bt_isinstance (pa_cons (pv 0) (pa_cons (pe_glob (v := .ref _) (by rfl) ES.SharedCall.hm rfl) pa_nil))) (pa_cons (pe_callB (call_isX XG) (by rfl) T.isinstance bt_isinstance (pa_cons (pv 0) (pa_cons (pe_glob (v := .ref _) (by rfl) ES.TakenName.hm rfl) pa_nil))) pa_nil))))))
  (pss_cons (ps_set (i := 1) sc_law_of_others.nd rfl (Or.inl rfl) (pe_op op_cat (pv 1) (pe_lst (pa_cons (pe_callB (call_isX XG) (by rfl) T.isinstance bt_isinstance (pa_cons (pv 0) (pa_cons (pe_glob (v := .ref _) (by rfl) ES.NotGiven.hm rfl) pa_nil))) (pa_cons (pe_callB (call_isX XG) (by rfl) T.isinstance bt_isinstance (pa_cons (pv 0) (pa_cons (pe_glob (v := .ref _) (by rfl) ES.CommandFailed.hm rfl) pa_nil))) (pa_cons (pe_callB (call_isX XG) (by rfl) T.isinstance bt_isinstance (pa_cons (pv 0) (pa_cons (pe_glob (v := .ref _) (by rfl) ES.NoMatching.hm rfl) pa_nil))) pa_nil))))))
  (pss_one (ps_ret (pe_op op_cat (pv 1) (pe_lst (pa_cons (pe_callB (call_isX XG) (by rfl) T.isinstance bt_isinstance (pa_cons (pv 0) (pa_cons (pe_glob (v := .ref _) (by rfl) ES.NothingToUndo.hm rfl) pa_nil))) (pa_cons (pe_callB (call_isX XG) (by rfl) T.isinstance bt_isinstance (pa_cons (pv 0) (pa_cons (pe_glob (v := .ref _) (by rfl) ES.Untrue.hm rfl) pa_nil))) (pa_cons (pe_callB (call_isX XG) (by rfl) T.isinstance bt_isinstance (pa_cons (pv 0) (pa_cons (pe_glob (v := .ref _) (by rfl) ES.TooMany.hm rfl) pa_nil))) pa_nil))))))))))), ?_⟩
    have hg := fun c (hc : c ∈ l_law_of_others) => hg c hc
    refine asg_is (L := [.own "UnknownStep", .own "UnknownName", .own "NotMatched"]) (g := g) (by rfl) hx X (fun c hc => hg c (List.mem_append_left _ (List.mem_append_left _ (List.mem_append_left _ (List.mem_append_left _ hc))))) (Nat.le_of_ble_eq_true rfl) (fun p1 H1 n1 s1 e1 => ?_)
    refine asg_catI (L := [.own "BrokenFan", .own "NoFan", .own "NotStanding"]) (g := g) (by rfl) (by rfl) e1 (hx.mono s1) X (fun c hc => hg c (List.mem_append_left _ (List.mem_append_left _ (List.mem_append_left _ (List.mem_append_right _ hc))))) (Nat.le_of_ble_eq_true rfl) (Nat.le_of_ble_eq_true rfl) (fun p2 H2 n2 s2 e2 => ?_)
    refine asg_catI (L := [.own "TakenAnswer", .own "SharedCall", .own "TakenName"]) (g := g) (by rfl) (by rfl) e2 (hx.mono (s1.trans s2)) X (fun c hc => hg c (List.mem_append_left _ (List.mem_append_left _ (List.mem_append_right _ hc)))) (Nat.le_of_ble_eq_true rfl) (Nat.le_of_ble_eq_true rfl) (fun p3 H3 n3 s3 e3 => ?_)
    refine asg_catI (L := [.own "NotGiven", .own "CommandFailed", .own "NoMatching"]) (g := g) (by rfl) (by rfl) e3 (hx.mono ((s1.trans s2).trans s3)) X (fun c hc => hg c (List.mem_append_left _ (List.mem_append_right _ hc))) (Nat.le_of_ble_eq_true rfl) (Nat.le_of_ble_eq_true rfl) (fun p4 H4 n4 s4 e4 => ?_)
    refine ret_catI (L := [.own "NothingToUndo", .own "Untrue", .own "TooMany"]) (g := g) (by rfl) (by rfl) e4 (hx.mono (((s1.trans s2).trans s3).trans s4)) X (fun c hc => hg c (List.mem_append_right _ hc)) (Nat.le_of_ble_eq_true rfl) (Nat.le_of_ble_eq_true rfl) (fun p5 H5 n5 s5 e5 => ?_)
    exact k p5 H5 (s1.free (s2.free (s3.free (s4.free n5)))) ((((s1.trans s2).trans s3).trans s4).trans s5) e5
def l_law_families : List CE := (([.own "BoxError", .own "MissingError", .own "StateError", .own "LimitError"] ++ [.ty "ValueError", .ty "LookupError", .ty "RuntimeError"]) ++ [.ty "ArithmeticError"])
theorem cd_families (F : At K mg "_law_families" s_law_families) (T : BI mg) (ES : ErrSet P w K mg base) (XG : XcG K) : Cd P w K mg base 1 "_law_families" ["_law_e"] (spIs K l_law_families) := by
  refine cd_mk F sc_law_families (fun vs H Q E h => ?_) (fun _ _ _ _ _ _ us hl => match us, hl with | [_], _ => rfl) (fun f cdv A outer s H vs Q E hr hG h => ?_)
  · obtain ⟨a, C, b, g, rfl, _⟩ := h
    rfl
  · obtain ⟨a, C, b, g, rfl, hx, X, hg, k⟩ := h
    refine ⟨_, (pss_cons (ps_set (i := 1) sc_law_families.nd rfl (Or.inl rfl) (pe_lst (pa_cons (pe_callB (call_isX XG) (by rfl) T.isinstance bt_isinstance (pa_cons (pv 0) (pa_cons (pe_glob (v := .ref _) (by rfl) ES.BoxError.hm rfl) pa_nil))) (pa_cons (pe_callB (call_isX XG) (by rfl) T.isinstance bt_isinstance (pa_cons (pv 0) (pa_cons (pe_glob (v := .ref _) (by rfl) ES.MissingError.hm rfl) pa_nil))) (pa_cons (pe_callB (call_isX XG) (by rfl) T.isinstance bt_isinstance (pa_cons (pv 0) (pa_cons (pe_glob (v := .ref _) (by rfl) ES.StateError.hm rfl) pa_nil))) (pa_cons (pe_callB (call_isX XG) (by rfl) T.isinstance bt_isinstance (pa_cons (pv 0) (pa_cons (pe_glob (v := .ref _) (by rfl) ES.LimitError.hm rfl) pa_nil))) pa_nil))))))
  (pss_cons (ps_set (i := 1) sc_law_families.nd rfl (Or.inl rfl) (pe_op op_cat (pv 1) (pe_lst (pa_cons (pe_callB (call_isX XG) (by rfl) T.isinstance bt_isinstance (pa_cons (pv 0) (pa_cons (pe_bltn (v := .ty "ValueError") (by rfl) T.ValueError bt_ValueError rfl) pa_nil))) (pa_cons (pe_callB (call_isX XG) (by rfl) T.isinstance bt_isinstance (pa_cons (pv 0) (pa_cons (pe_bltn (v := .ty "LookupError") (by rfl) T.LookupError bt_LookupError rfl) pa_nil))) (pa_cons (pe_callB (call_isX XG) (by rfl) T.isinstance bt_isinstance (pa_cons (pv 0) (pa_cons (pe_bltn (v := .ty "RuntimeError") (by rfl) T.RuntimeError bt_RuntimeError rfl) pa_nil))) pa_nil))))))
  (pss_one (ps_ret (pe_op op_cat (pv 1) (pe_lst (pa_cons (pe_callB (call_isX XG) (by rfl) T.isinstance bt_isinstance (pa_cons (pv 0) (pa_cons (pe_bltn (v := .ty "ArithmeticError") (by rfl) T.ArithmeticError bt_ArithmeticError rfl) pa_nil))) pa_nil))))))), ?_⟩
    have hg := fun c (hc : c ∈ l_law_families) => hg c hc
    refine asg_is (L := [.own "BoxError", .own "MissingError", .own "StateError", .own "LimitError"]) (g := g) (by rfl) hx X (fun c hc => hg c (List.mem_append_left _ (List.mem_append_left _ hc))) (Nat.le_of_ble_eq_true rfl) (fun p1 H1 n1 s1 e1 => ?_)
    refine asg_catI (L := [.ty "ValueError", .ty "LookupError", .ty "RuntimeError"]) (g := g) (by rfl) (by rfl) e1 (hx.mono s1) X (fun c hc => hg c (List.mem_append_left _ (List.mem_append_right _ hc))) (Nat.le_of_ble_eq_true rfl) (Nat.le_of_ble_eq_true rfl) (fun p2 H2 n2 s2 e2 => ?_)
    refine ret_catI (L := [.ty "ArithmeticError"]) (g := g) (by rfl) (by rfl) e2 (hx.mono (s1.trans s2)) X (fun c hc => hg c (List.mem_append_right _ hc)) (Nat.le_of_ble_eq_true rfl) (Nat.le_of_ble_eq_true rfl) (fun p3 H3 n3 s3 e3 => ?_)
    exact k p3 H3 (s1.free (s2.free n3)) ((s1.trans s2).trans s3) e3
end
end K10

/-! ## K10I0 -/
set_option Elab.async false
set_option linter.all false
set_option maxRecDepth 100000
set_option maxHeartbeats 4000000
namespace K10
open PySem PySem.Spec PyProof.Rows L2 He Vx
open PySem.W (kitOne)

def ceName : CE → Str
  | .own x => x
  | .ty _ => ""
/-- the 42 kinds -/
def kNames : List Str := (l_law_of_boxes ++ l_law_of_others).map ceName
theorem kNames_own : l_law_of_boxes ++ l_law_of_others = kNames.map CE.own := rfl
def famOf (i : Nat) : Nat := if i < 27 then 0 else if i < 29 then 1 else if i < 41 then 2 else 3
def famB (K : PySem.W.Frag) (x : Str) (f : Nat) : Nat → List CE → Bool
  | _, [] => true
  | j, c :: r => decide (kitOne K (.ref (ga K x)) (c.u K) = some (decide (j % 4 = f))) && famB K x f (j + 1) r
def famAll (K : PySem.W.Frag) : Nat → List Str → Bool
  | _, [] => true
  | i, x :: r => famB K x (famOf i) 0 l_law_families && famAll K (i + 1) r
end K10
/-! ## HD11 -/
set_option Elab.async false
set_option linter.all false
set_option maxRecDepth 100000
set_option maxHeartbeats 0
namespace K10
open PySem PySem.Spec PyProof.Rows L2 He Vx
abbrev R : PySem.W.OpenRow := PySem.W.OpenLaw.row PySem.Challenge.rw_aheadbehind_k10_errors_and_basics
abbrev qv : Program := PySem.W.view R.prog [77]
def clsB : Stmt → List Stmt
  | .ClassDef _ _ _ b _ _ _ _ _ _ _ => b
  | _ => []
def met (i : Nat) : Stmt := (clsB (top i)).getD 0 (.Pass ⟨0, 0, 0, 0⟩)
def dD (x : Str) (st : Stmt) : He.DefD := ⟨(x, none), x, x, defArgs st, defBody st, defScope st, [], []⟩
def dM (c q : Str) (st : Stmt) : He.DefD := ⟨(c, some "__init__"), "__init__", q, defArgs st, defBody st, defScope st, [], []⟩
def names0 : List PySem.Str := ["__name__", "is_integer", "is_count", "is_name", "is_sign", "is_row", "is_list", "BoxError", "InvalidStates", "InvalidStarts", "InvalidSteps", "InvalidStep", "InvalidState", "InvalidOrder", "InvalidSet", "InvalidRow", "InvalidSign", "InvalidSigns", "InvalidCall", "InvalidCalls", "InvalidNames", "InvalidName", "InvalidNumber", "InvalidKind", "InvalidReading", "InvalidHidden", "InvalidPairs", "InvalidMatching", "InvalidFan", "InvalidMiddle"]
def names1 : List PySem.Str := ["InvalidFamily", "InvalidBox", "InvalidText", "InvalidClaim", "InvalidCommand", "MissingError", "UnknownStep", "UnknownName", "StateError", "NotMatched", "NoMatching", "BrokenFan", "NoFan", "NotStanding", "TakenAnswer", "SharedCall", "NotGiven", "TakenName", "NothingToUndo", "Untrue", "CommandFailed", "LimitError", "TooMany", "_law_pot", "_law_draw", "_law_pick", "_law_thing", "_law_placed", "_law_valued", "_law_stood"]
def names2 : List PySem.Str := ["_law_placed_by_name", "_law_valued_by_name", "_law_every", "_law_of_boxes", "_law_of_others", "_law_families", "_law_kept_right", "_law_kinds_right", "_law_is_number", "_law_is_word", "_law_is_pair", "_law_word", "_law_things", "_law_basics_right", "_law_right"]
def names : List PySem.Str := names0 ++ names1 ++ names2
def ecs0 : List EC := [⟨"InvalidStates", xVal, "value", ""⟩, ⟨"InvalidStarts", xVal, "position", ""⟩, ⟨"InvalidSteps", xVal, "position", ""⟩, ⟨"InvalidStep", xVal, "value", ""⟩, ⟨"InvalidState", xVal, "value", ""⟩, ⟨"InvalidOrder", xVal, "value", ""⟩, ⟨"InvalidSet", xVal, "value", ""⟩, ⟨"InvalidRow", xVal, "position", ""⟩, ⟨"InvalidSign", xVal, "value", ""⟩, ⟨"InvalidSigns", xVal, "position", ""⟩, ⟨"InvalidCall", xVal, "value", ""⟩, ⟨"InvalidCalls", xVal, "position", ""⟩, ⟨"InvalidNames", xVal, "value", ""⟩, ⟨"InvalidName", xVal, "value", ""⟩, ⟨"InvalidNumber", xVal, "value", ""⟩, ⟨"InvalidKind", xVal, "value", ""⟩]
def ecs1 : List EC := [⟨"InvalidReading", xVal, "value", ""⟩, ⟨"InvalidHidden", xVal, "position", ""⟩, ⟨"InvalidPairs", xVal, "position", ""⟩, ⟨"InvalidMatching", xVal, "value", ""⟩, ⟨"InvalidFan", xVal, "value", ""⟩, ⟨"InvalidMiddle", xVal, "value", ""⟩, ⟨"InvalidFamily", xVal, "value", ""⟩, ⟨"InvalidBox", xVal, "value", ""⟩, ⟨"InvalidText", xVal, "line", ""⟩, ⟨"InvalidClaim", xVal, "value", ""⟩, ⟨"InvalidCommand", xVal, "value", ""⟩, ⟨"UnknownStep", xLook, "value", ""⟩, ⟨"UnknownName", xLook, "value", ""⟩, ⟨"NotMatched", xRun, "value", ""⟩, ⟨"BrokenFan", xRun, "value", ""⟩, ⟨"NoFan", xRun, "value", ""⟩]
def ecs2 : List EC := [⟨"NotStanding", xRun, "value", ""⟩, ⟨"TakenAnswer", xRun, "value", ""⟩, ⟨"SharedCall", xRun, "value", ""⟩, ⟨"NotGiven", xRun, "position", ""⟩, ⟨"TakenName", xRun, "value", ""⟩, ⟨"CommandFailed", xRun, "position", ""⟩, ⟨"TooMany", xAri, "what", "limit"⟩]
def ecs : List EC := ecs0 ++ ecs1 ++ ecs2
def ec00 : List EC := [⟨"BoxError", xVal, "", ""⟩, ⟨"MissingError", xLook, "", ""⟩, ⟨"StateError", xRun, "", ""⟩, ⟨"NoMatching", xRun, "", ""⟩, ⟨"NothingToUndo", xRun, "", ""⟩, ⟨"Untrue", xRun, "", ""⟩, ⟨"LimitError", xAri, "", ""⟩]
def ec0 : List EC := ec00
def fnA0 : List He.DefD := [dD "is_integer" s_is_integer, dD "is_count" s_is_count, dD "is_name" s_is_name, dD "is_sign" s_is_sign, dD "is_row" s_is_row, dD "is_list" s_is_list, dD "_law_pot" s_law_pot, dD "_law_draw" s_law_draw, dD "_law_pick" s_law_pick, dD "_law_thing" s_law_thing, dD "_law_placed" s_law_placed, dD "_law_valued" s_law_valued, dD "_law_stood" s_law_stood, dD "_law_placed_by_name" s_law_placed_by_name, dD "_law_valued_by_name" s_law_valued_by_name, dD "_law_every" s_law_every]
def fnA1 : List He.DefD := [dD "_law_of_boxes" s_law_of_boxes, dD "_law_of_others" s_law_of_others, dD "_law_families" s_law_families, dD "_law_kept_right" s_law_kept_right, dD "_law_kinds_right" s_law_kinds_right, dD "_law_is_number" s_law_is_number, dD "_law_is_word" s_law_is_word, dD "_law_is_pair" s_law_is_pair, dD "_law_word" s_law_word, dD "_law_things" s_law_things, dD "_law_basics_right" s_law_basics_right, dD "_law_right" s_law_right, dD "law" s_law]
def fnA : List He.DefD := fnA0 ++ fnA1
def fnB0 : List He.DefD := [dM "InvalidStates" "InvalidStates.__init__" (met 9), dM "InvalidStarts" "InvalidStarts.__init__" (met 10), dM "InvalidSteps" "InvalidSteps.__init__" (met 11), dM "InvalidStep" "InvalidStep.__init__" (met 12), dM "InvalidState" "InvalidState.__init__" (met 13), dM "InvalidOrder" "InvalidOrder.__init__" (met 14), dM "InvalidSet" "InvalidSet.__init__" (met 15), dM "InvalidRow" "InvalidRow.__init__" (met 16), dM "InvalidSign" "InvalidSign.__init__" (met 17), dM "InvalidSigns" "InvalidSigns.__init__" (met 18), dM "InvalidCall" "InvalidCall.__init__" (met 19), dM "InvalidCalls" "InvalidCalls.__init__" (met 20), dM "InvalidNames" "InvalidNames.__init__" (met 21), dM "InvalidName" "InvalidName.__init__" (met 22), dM "InvalidNumber" "InvalidNumber.__init__" (met 23), dM "InvalidKind" "InvalidKind.__init__" (met 24)]
def fnB1 : List He.DefD := [dM "InvalidReading" "InvalidReading.__init__" (met 25), dM "InvalidHidden" "InvalidHidden.__init__" (met 26), dM "InvalidPairs" "InvalidPairs.__init__" (met 27), dM "InvalidMatching" "InvalidMatching.__init__" (met 28), dM "InvalidFan" "InvalidFan.__init__" (met 29), dM "InvalidMiddle" "InvalidMiddle.__init__" (met 30), dM "InvalidFamily" "InvalidFamily.__init__" (met 31), dM "InvalidBox" "InvalidBox.__init__" (met 32), dM "InvalidText" "InvalidText.__init__" (met 33), dM "InvalidClaim" "InvalidClaim.__init__" (met 34), dM "InvalidCommand" "InvalidCommand.__init__" (met 35), dM "UnknownStep" "UnknownStep.__init__" (met 37), dM "UnknownName" "UnknownName.__init__" (met 38), dM "NotMatched" "NotMatched.__init__" (met 40), dM "BrokenFan" "BrokenFan.__init__" (met 42), dM "NoFan" "NoFan.__init__" (met 43)]
def fnB2 : List He.DefD := [dM "NotStanding" "NotStanding.__init__" (met 44), dM "TakenAnswer" "TakenAnswer.__init__" (met 45), dM "SharedCall" "SharedCall.__init__" (met 46), dM "NotGiven" "NotGiven.__init__" (met 47), dM "TakenName" "TakenName.__init__" (met 48), dM "CommandFailed" "CommandFailed.__init__" (met 51), dM "TooMany" "TooMany.__init__" (met 53)]
def fnB : List He.DefD := fnB0 ++ fnB1 ++ fnB2
def faD0 : List He.Fa := [.glo "is_integer", .glo "is_count", .glo "is_name", .glo "is_sign", .glo "is_row", .glo "is_list", .glo "_law_pot", .glo "_law_draw", .glo "_law_pick", .glo "_law_thing", .glo "_law_placed", .glo "_law_valued", .glo "_law_stood", .glo "_law_placed_by_name", .glo "_law_valued_by_name", .glo "_law_every"]
def faD1 : List He.Fa := [.glo "_law_of_boxes", .glo "_law_of_others", .glo "_law_families", .glo "_law_kept_right", .glo "_law_kinds_right", .glo "_law_is_number", .glo "_law_is_word", .glo "_law_is_pair", .glo "_law_word", .glo "_law_things", .glo "_law_basics_right", .glo "_law_right", .glo "law"]
def faD : List He.Fa := faD0 ++ faD1
def fnK : List He.DefD := fnA ++ fnB
def faK : List He.Fa := biFa ++ faD
def xbK (K : PySem.W.Frag) : Bool := xgB K && (ecs.all (fun c => c.ok K) && (ec0.all (fun c => c.ok0 K) && (isAll K kNames 0 kNames && famAll K 0 kNames)))
def refA (g : Addr → Option Obj) (a : Addr) : List Addr := (match g a with
  | some o => refsD o
  | none => []).filter fun b => b != mainGlobals && b != builtinsNs
def asK (ns : List Str) (g : Addr → Option Obj) : List Addr := mainGlobals :: (ns.map (ga (frG g [mainGlobals])) ++ ((ns.map (ga (frG g [mainGlobals]))).flatMap fun a => refA g a ++ (refA g a).flatMap fun b => refA g b ++ (refA g b).flatMap fun c => refA g c))
def nsK : List Str := (ecs.map EC.x ++ ec0.map EC.x) ++ fnA.map fun d => d.name
def hookY (ns : List Str) (xb : PySem.W.Frag → Bool) (fa : List Fa) (fn : List DefD) : PySem.W.Hook where
  α := AlX
  obs := fun s => (xb (frG s.heap.get? (asK ns s.heap.get?)), obsD fa fn (frG s.heap.get? (asK ns s.heap.get?)))
  val := fun _ => (true, valD fn)
  says := fun _ h => ∃ K : PySem.W.Frag, K.In h ∧ xb K = true ∧ SaysD fa fn K
  of := fun _ _ e => ⟨_, frG_in, congrArg (fun z : AlX => z.1) e, congrArg (fun z : AlX => z.2) e⟩
  keeps := fun _ _ _ ⟨K, hK, c⟩ k => ⟨K, PySem.W.Frag.In.keeps hK k, c⟩
def obY (ns : List Str) (xb : PySem.W.Frag → Bool) (fa : List Fa) (fn : List DefD) (s : PySem.W.SharedT) : AlX :=
  (xb (frG (HandSHeadRun.getT s) (asK ns (HandSHeadRun.getT s))), obsD fa fn (frG (HandSHeadRun.getT s) (asK ns (HandSHeadRun.getT s))))
theorem obY_eq {ns : List Str} {xb : PySem.W.Frag → Bool} {fa : List Fa} {fn : List DefD} (s : PySem.W.SharedT) : obY ns xb fa fn s = (hookY ns xb fa fn).obs s.abs := by
  have e : HandSHeadRun.getT s = s.abs.heap.get? := funext fun a => HandSHeadRun.getT_eq s a
  unfold obY
  rw [e]
  rfl
abbrev hk : PySem.W.Hook := hookY nsK xbK faK fnK
def ob (s : PySem.W.SharedT) : AlX := obY nsK xbK faK fnK s
theorem ob_eq (s : PySem.W.SharedT) : ob s = hk.obs s.abs := obY_eq s
noncomputable abbrev endK (w : World) (os : PySem.OsState) := HandSHeadRun.endF (HandSHeadRun.stepQ (HandSHeadRun.denQ HandSHeadRun.tabQ) R.prog w) 20000 R.prog w os
end K10

/-! ## HZR -/
set_option Elab.async false
set_option linter.all false
set_option maxRecDepth 100000
set_option maxHeartbeats 0
namespace K10
open PySem PySem.Spec PyProof.Rows L2 He Vx
theorem runA (w : World) (os : PySem.OsState) : (endK w os).map (fun s => (HandSHeadRun.looksF R.prog (PySem.W.boot_heap w.params) s.abs, HandSHeadRun.seenQ qv names (importedModules R.prog.main.body) (fun s => PySem.W.xlAt qv [] s && PySem.W.recOk R.toRowW.records s) s.abs)) = some (true, PySem.W.openGood qv names) := by
  kernel_rfl
def xbP (K : PySem.W.Frag) : Bool := xgB K && ecs.all (fun c => c.ok K)
def xbQ (K : PySem.W.Frag) : Bool := ec0.all (fun c => c.ok0 K) && (isAll K kNames 0 kNames && famAll K 0 kNames)
theorem xbK_eq (K : PySem.W.Frag) : xbK K = (xbP K && xbQ K) := by
  unfold xbK xbP xbQ
  rw [Bool.and_assoc]
theorem runXP (w : World) (os : PySem.OsState) : (endK w os).map (fun s => xbP (frG (HandSHeadRun.getT s) (asK nsK (HandSHeadRun.getT s)))) = some true := by
  kernel_rfl
theorem runXQ (w : World) (os : PySem.OsState) : (endK w os).map (fun s => xbQ (frG (HandSHeadRun.getT s) (asK nsK (HandSHeadRun.getT s)))) = some true := by
  kernel_rfl
theorem runX (w : World) (os : PySem.OsState) : (endK w os).map (fun s => xbK (frG (HandSHeadRun.getT s) (asK nsK (HandSHeadRun.getT s)))) = some true := by
  have f := runXP w os
  have m := runXQ w os
  rcases h : endK w os with _ | s
  · rw [h] at f
    cases f
  · rw [h] at f m
    rw [Option.map_some] at f m ⊢
    rw [xbK_eq, Option.some.inj f, Option.some.inj m]
    rfl
theorem runF (w : World) (os : PySem.OsState) : (endK w os).map (fun s => obsD faK fnA (frG (HandSHeadRun.getT s) (asK nsK (HandSHeadRun.getT s)))) = some (valD fnA) := by
  kernel_rfl
theorem runM (w : World) (os : PySem.OsState) : (endK w os).map (fun s => obsD [] fnB (frG (HandSHeadRun.getT s) (asK nsK (HandSHeadRun.getT s)))) = some (valD fnB) := by
  kernel_rfl
theorem obsD_app {fa : List Fa} {f1 f2 : List DefD} {K : PySem.W.Frag} (h1 : obsD fa f1 K = valD f1) (h2 : obsD [] f2 K = valD f2) : obsD fa (f1 ++ f2) K = valD (f1 ++ f2) := by
  obtain ⟨a1, a2⟩ := Prod.mk.inj h1
  obtain ⟨b1, b2⟩ := Prod.mk.inj h2
  obtain ⟨c1, c2⟩ := Bool.and_eq_true_iff.mp a1
  obtain ⟨_, d2⟩ := Bool.and_eq_true_iff.mp b1
  refine Prod.ext ?_ ?_
  · show ((fa.all fun f => f.ok K) && (f1 ++ f2).all fun d => d.ok K) = true
    rw [List.all_append, c1, c2, d2]
    rfl
  · show (f1 ++ f2).map (fun d => fnW K d.at_) = (f1 ++ f2).map DefD.val
    rw [List.map_append, List.map_append, a2, b2]
theorem runD (w : World) (os : PySem.OsState) : (endK w os).map (fun s => obsD faK fnK (frG (HandSHeadRun.getT s) (asK nsK (HandSHeadRun.getT s)))) = some (valD fnK) := by
  have f := runF w os
  have m := runM w os
  rcases h : endK w os with _ | s
  · rw [h] at f
    cases f
  · rw [h] at f m
    rw [Option.map_some] at f m ⊢
    exact congrArg some (obsD_app (Option.some.inj f) (Option.some.inj m))
theorem run (w : World) : HandSHeadRun.RunEq R qv hk ob 20000 names w := fun os => by
  have a := runA w os
  have x := runX w os
  have d := runD w os
  change Option.map _ (endK w os) = _
  rcases h : endK w os with _ | s
  · rw [h] at a
    cases a
  · rw [h] at a x d
    rw [Option.map_some] at a x d ⊢
    obtain ⟨a1, a2⟩ := Prod.mk.inj (Option.some.inj a)
    have x1 := Option.some.inj x
    have d1 := Option.some.inj d
    exact congrArg some (Prod.ext a1 (Prod.ext a2 (Prod.ext x1 d1)))
end K10
/-! ## K10f -/
set_option Elab.async false
set_option linter.all false
set_option maxRecDepth 100000
set_option maxHeartbeats 4000000
namespace K10
open PySem PySem.Spec PyProof.Rows L2 He Vx
/-- the twelve things -/
def things : List PyData := [.none, .int 0, .int 7, .bool true, .int (-(10 ^ 29)), .str "", .str "a b", .tuple [.int 1, .str "x"], .list [.int 1, .list [.int 2]], .dict [(.str "a", .int 1)], .tuple [], .list []]
def spThing (K : PySem.W.Frag) : Sp := fun vs H Q _ => ∃ p : Addr, vs = [.ref p] ∧ Pot p H ∧ ∀ (x : V) (d : PyData) H', Stp p H H' → Da K (off p H') x d → d ∈ things → Q x H'
section
variable {P : Program} {w : World} {K : PySem.W.Frag} {mg : Str → Option Value} {base : Heap}
theorem cd_thing (F : At K mg "_law_thing" s_law_thing) (c__law_pick : Cd P w K mg base 2 "_law_pick" ["_law_pot_here", "_law_menu"] (spPick K)) : Cd P w K mg base 3 "_law_thing" ["_law_pot_here"] (spThing K) := by
  refine cd_mk F sc_law_thing (fun vs H Q E h => ?_) (fun _ _ _ _ _ _ us hl => match us, hl with | [_], _ => rfl) (fun f cdv A outer s H vs Q E hr hG h => ?_)
  · obtain ⟨p, rfl, _⟩ := h
    rfl
  · obtain ⟨p, rfl, hP, k⟩ := h
    refine ⟨_, (pss_one (ps_ret (pe_cd c__law_pick (hr.mono (by decide)) hG (by rfl) (pa_cons (pv 0) (pa_cons (pe_lst (pa_cons pe_non (pa_cons pe_int (pa_cons pe_int (pa_cons pe_bl (pa_cons (pe_un un_neg (pe_op op_pow pe_int pe_int)) (pa_cons pe_str (pa_cons pe_str (pa_cons (pe_tup (pa_cons pe_int (pa_cons pe_str pa_nil))) (pa_cons (pe_lst (pa_cons pe_int (pa_cons (pe_lst (pa_cons pe_int pa_nil)) pa_nil))) (pa_cons (pe_disp (pps_cons pe_str pe_int pps_nil) (by rfl) (by rfl) (fun z => by cases z) (by decide)) (pa_cons (pe_tup pa_nil) (pa_cons (pe_lst pa_nil) pa_nil))))))))))))) pa_nil))))), ?_⟩
    refine ⟨_, rfl, _, _, rfl, rfl, ⟨by decide, by decide, by decide⟩, _, rfl, (by show 2 ≤ sizeLine; decide), fun a1 n1 => ?_⟩
    generalize g1 : upd H a1 _ = H1
    have s1 : Same H H1 := g1 ▸ same_new n1
    have e1 := g1 ▸ upd_same (H := H) (a := a1)
    clear g1
    refine ⟨by show 1 ≤ sizeLine; decide, fun a2 n2 => ?_⟩
    generalize g2 : upd H1 a2 _ = H2
    have s2 : Same H1 H2 := g2 ▸ same_new n2
    have e2 := g2 ▸ upd_same (H := H1) (a := a2)
    clear g2
    refine ⟨by show 2 ≤ sizeLine; decide, fun a3 n3 => ?_⟩
    generalize g3 : upd H2 a3 _ = H3
    have s3 : Same H2 H3 := g3 ▸ same_new n3
    have e3 := g3 ▸ upd_same (H := H2) (a := a3)
    clear g3
    refine fun a4 n4 => ?_
    refine ⟨upd_same, [(Sum.inr ("a" : Str), .int 1)], rfl, by decide, ?_⟩
    generalize g4 : upd (upd H3 a4 _) a4 _ = H4
    have s4 : Same H3 H4 := fun b o e => by
      have nb := ne_of_none e n4
      rw [← g4, upd_ne nb, upd_ne nb]
      exact e
    have e4 : H4 a4 = some (.dK [(Sum.inr ("a" : Str), .int 1)]) := by
      rw [← g4, upd_same]
      rfl
    clear g4
    refine ⟨by show 0 ≤ sizeLine; decide, fun a5 n5 => ?_⟩
    generalize g5 : upd H4 a5 _ = H5
    have s5 : Same H4 H5 := g5 ▸ same_new n5
    have e5 := g5 ▸ upd_same (H := H4) (a := a5)
    clear g5
    refine ⟨by show 0 ≤ sizeLine; decide, fun a6 n6 => ?_⟩
    generalize g6 : upd H5 a6 _ = H6
    have s6 : Same H5 H6 := g6 ▸ same_new n6
    have e6 := g6 ▸ upd_same (H := H5) (a := a6)
    clear g6
    refine ⟨by show 12 ≤ sizeLine; decide, fun a7 n7 => ?_⟩
    generalize g7 : upd H6 a7 _ = H7
    have s7 : Same H6 H7 := g7 ▸ same_new n7
    have e7 := g7 ▸ upd_same (H := H6) (a := a7)
    clear g7
    have T6 := s7
    have T5 := s6.trans T6
    have T4 := s5.trans T5
    have T3 := s4.trans T4
    have T2 := s3.trans T3
    have T1 := s2.trans T2
    have P1 := hP.keep s1
    have P2 := P1.keep s2
    have P3 := P2.keep s3
    have P4 := P3.keep s4
    have P5 := P4.keep s5
    have P6 := P5.keep s6
    have P7 := P6.keep s7
    have o1 : off p H7 a1 = some (.tup [.int 1, .str "x"]) := (off_ne (hP.new n1)).trans (T1 _ _ e1)
    have o2 : off p H7 a2 = some (.lst [.int 2]) := (off_ne (P1.new n2)).trans (T2 _ _ e2)
    have o3 : off p H7 a3 = some (.lst [.int 1, .ref a2]) := (off_ne (P2.new n3)).trans (T3 _ _ e3)
    have o4 : off p H7 a4 = some (.dK [(Sum.inr ("a" : Str), .int 1)]) := (off_ne (P3.new n4)).trans (T4 _ _ e4)
    have o5 : off p H7 a5 = some (.tup []) := (off_ne (P4.new n5)).trans (T5 _ _ e5)
    have o6 : off p H7 a6 = some (.lst []) := (off_ne (P5.new n6)).trans (T6 _ _ e6)
    have o7 := (off_ne (P6.new n7)).trans e7
    have D : Das K (off p H7) [.non, .int 0, .int 7, .bl true, .int (-(10 ^ 29)), .str "", .str "a b", .ref a1, .ref a3, .ref a4, .ref a5, .ref a6] things :=
      .cons .non (.cons (.int _) (.cons (.int _) (.cons (.bl _) (.cons (.int _) (.cons (.str _) (.cons (.str _) (.cons (.tup (SqT.of o1) (.cons (.int _) (.cons (.str _) .nil)))
        (.cons (.lst (SqL.of o3) (.cons (.int _) (.cons (.lst (SqL.of o2) (.cons (.int _) .nil)) .nil))) (.cons (.dK o4 (.cons (.int _) .nil)) (.cons (.tup (SqT.of o5) .nil) (.cons (.lst (SqL.of o6) .nil) .nil)))))))))))
    refine ⟨p, a7, _, rfl, P7, SqL.of o7, by show 1 ≤ 12; omega, by show 12 ≤ 1000; omega, fun x H' st hx => ?_⟩
    obtain ⟨d, hd, q⟩ := D.mem hx
    exact k x d H' (((Stp.refl hP).same (s1.trans T1)).trans st) (q.mono st.k) hd
end
end K10

/-! ## K10g -/
set_option Elab.async false
set_option linter.all false
set_option maxRecDepth 100000
set_option maxHeartbeats 4000000
namespace K10
open PySem PySem.Spec PyProof.Rows L2 He Vx

def spTrue : Sp := fun vs H Q _ => ∃ p : Addr, vs = [.ref p] ∧ Pot p H ∧ ∀ H', Stp p H H' → Q (.bl true) H'
section
variable {P : Program} {w : World} {K : PySem.W.Frag} {mg : Str → Option Value} {base : Heap}
theorem sm_things : ∀ d ∈ things, Sm 60 d := by
  have h : ∀ d ∈ things, d.showable = true ∧ d.depth ≤ 20 ∧ d.shown.length ≤ 60 := by decide +kernel
  exact h
theorem sm_rep {d : PyData} (hd : d ∈ things) (n : Nat) (hn : n ≤ 100) : Show (.list (List.replicate n d)) :=
  show_list (N := 60) (fun e he => by rw [List.eq_of_mem_replicate he]; exact sm_things d hd) (by rw [List.length_replicate]; omega)
theorem sm_two {d e : PyData} (hd : d ∈ things) (he : e ∈ things) : Show (.list [d, e]) :=
  show_list (N := 60) (List.forall_mem_cons.2 ⟨sm_things d hd, List.forall_mem_cons.2 ⟨sm_things e he, fun _ h => nomatch h⟩⟩) (by show 2 * 62 + 2 ≤ 100000; decide)
theorem sm_four {d e : PyData} (hd : d ∈ things) (he : e ∈ things) : Show (.list [d, e, e, d]) :=
  show_list (N := 60) (List.forall_mem_cons.2 ⟨sm_things d hd, List.forall_mem_cons.2 ⟨sm_things e he, List.forall_mem_cons.2 ⟨sm_things e he, List.forall_mem_cons.2 ⟨sm_things d hd, fun _ h => nomatch h⟩⟩⟩⟩) (by show 4 * 62 + 2 ≤ 100000; decide)
theorem rd_pos (ES : ErrSet P w K mg base) : Rdy K "position" [(ga K "NotGiven", ("position" : Str)), (ga K "CommandFailed", ("position" : Str))] := (List.forall_mem_cons.2 ⟨⟨rfl, ⟨_, ES.NotGiven.T⟩, ES.NotGiven.no⟩, List.forall_mem_cons.2 ⟨⟨rfl, ⟨_, ES.CommandFailed.T⟩, ES.CommandFailed.no⟩, fun _ h => nomatch h⟩⟩)
theorem rd_unk (ES : ErrSet P w K mg base) : Rdy K "value" [(ga K "UnknownStep", ("value" : Str)), (ga K "UnknownName", ("value" : Str))] := (List.forall_mem_cons.2 ⟨⟨rfl, ⟨_, ES.UnknownStep.T⟩, ES.UnknownStep.no⟩, List.forall_mem_cons.2 ⟨⟨rfl, ⟨_, ES.UnknownName.T⟩, ES.UnknownName.no⟩, fun _ h => nomatch h⟩⟩)
theorem rd_text (ES : ErrSet P w K mg base) : Rdy K "line" [(ga K "InvalidText", ("line" : Str))] := (List.forall_mem_cons.2 ⟨⟨rfl, ⟨_, ES.InvalidText.T⟩, ES.InvalidText.no⟩, fun _ h => nomatch h⟩)
theorem rd_placed (ES : ErrSet P w K mg base) : Rdy K "position" (l_law_placed K) := (Rdy.app (List.forall_mem_cons.2 ⟨⟨rfl, ⟨_, ES.InvalidStarts.T⟩, ES.InvalidStarts.no⟩, List.forall_mem_cons.2 ⟨⟨rfl, ⟨_, ES.InvalidSteps.T⟩, ES.InvalidSteps.no⟩, List.forall_mem_cons.2 ⟨⟨rfl, ⟨_, ES.InvalidRow.T⟩, ES.InvalidRow.no⟩, List.forall_mem_cons.2 ⟨⟨rfl, ⟨_, ES.InvalidSigns.T⟩, ES.InvalidSigns.no⟩, List.forall_mem_cons.2 ⟨⟨rfl, ⟨_, ES.InvalidCalls.T⟩, ES.InvalidCalls.no⟩, fun _ h => nomatch h⟩⟩⟩⟩⟩) (List.forall_mem_cons.2 ⟨⟨rfl, ⟨_, ES.InvalidHidden.T⟩, ES.InvalidHidden.no⟩, List.forall_mem_cons.2 ⟨⟨rfl, ⟨_, ES.InvalidPairs.T⟩, ES.InvalidPairs.no⟩, fun _ h => nomatch h⟩⟩))
theorem rd_valued (ES : ErrSet P w K mg base) : Rdy K "value" (l_law_valued K) := (Rdy.app (Rdy.app (Rdy.app (Rdy.app (List.forall_mem_cons.2 ⟨⟨rfl, ⟨_, ES.InvalidStates.T⟩, ES.InvalidStates.no⟩, List.forall_mem_cons.2 ⟨⟨rfl, ⟨_, ES.InvalidStep.T⟩, ES.InvalidStep.no⟩, List.forall_mem_cons.2 ⟨⟨rfl, ⟨_, ES.InvalidState.T⟩, ES.InvalidState.no⟩, List.forall_mem_cons.2 ⟨⟨rfl, ⟨_, ES.InvalidOrder.T⟩, ES.InvalidOrder.no⟩, List.forall_mem_cons.2 ⟨⟨rfl, ⟨_, ES.InvalidSet.T⟩, ES.InvalidSet.no⟩, fun _ h => nomatch h⟩⟩⟩⟩⟩) (List.forall_mem_cons.2 ⟨⟨rfl, ⟨_, ES.InvalidSign.T⟩, ES.InvalidSign.no⟩, List.forall_mem_cons.2 ⟨⟨rfl, ⟨_, ES.InvalidCall.T⟩, ES.InvalidCall.no⟩, List.forall_mem_cons.2 ⟨⟨rfl, ⟨_, ES.InvalidNames.T⟩, ES.InvalidNames.no⟩, List.forall_mem_cons.2 ⟨⟨rfl, ⟨_, ES.InvalidName.T⟩, ES.InvalidName.no⟩, fun _ h => nomatch h⟩⟩⟩⟩)) (List.forall_mem_cons.2 ⟨⟨rfl, ⟨_, ES.InvalidNumber.T⟩, ES.InvalidNumber.no⟩, List.forall_mem_cons.2 ⟨⟨rfl, ⟨_, ES.InvalidKind.T⟩, ES.InvalidKind.no⟩, List.forall_mem_cons.2 ⟨⟨rfl, ⟨_, ES.InvalidReading.T⟩, ES.InvalidReading.no⟩, List.forall_mem_cons.2 ⟨⟨rfl, ⟨_, ES.InvalidMatching.T⟩, ES.InvalidMatching.no⟩, fun _ h => nomatch h⟩⟩⟩⟩)) (List.forall_mem_cons.2 ⟨⟨rfl, ⟨_, ES.InvalidFan.T⟩, ES.InvalidFan.no⟩, List.forall_mem_cons.2 ⟨⟨rfl, ⟨_, ES.InvalidMiddle.T⟩, ES.InvalidMiddle.no⟩, List.forall_mem_cons.2 ⟨⟨rfl, ⟨_, ES.InvalidFamily.T⟩, ES.InvalidFamily.no⟩, List.forall_mem_cons.2 ⟨⟨rfl, ⟨_, ES.InvalidBox.T⟩, ES.InvalidBox.no⟩, fun _ h => nomatch h⟩⟩⟩⟩)) (List.forall_mem_cons.2 ⟨⟨rfl, ⟨_, ES.InvalidClaim.T⟩, ES.InvalidClaim.no⟩, List.forall_mem_cons.2 ⟨⟨rfl, ⟨_, ES.InvalidCommand.T⟩, ES.InvalidCommand.no⟩, fun _ h => nomatch h⟩⟩))
theorem rd_stood (ES : ErrSet P w K mg base) : Rdy K "value" (l_law_stood K) := (Rdy.app (List.forall_mem_cons.2 ⟨⟨rfl, ⟨_, ES.NotMatched.T⟩, ES.NotMatched.no⟩, List.forall_mem_cons.2 ⟨⟨rfl, ⟨_, ES.BrokenFan.T⟩, ES.BrokenFan.no⟩, List.forall_mem_cons.2 ⟨⟨rfl, ⟨_, ES.NoFan.T⟩, ES.NoFan.no⟩, List.forall_mem_cons.2 ⟨⟨rfl, ⟨_, ES.NotStanding.T⟩, ES.NotStanding.no⟩, List.forall_mem_cons.2 ⟨⟨rfl, ⟨_, ES.TakenAnswer.T⟩, ES.TakenAnswer.no⟩, fun _ h => nomatch h⟩⟩⟩⟩⟩) (List.forall_mem_cons.2 ⟨⟨rfl, ⟨_, ES.SharedCall.T⟩, ES.SharedCall.no⟩, List.forall_mem_cons.2 ⟨⟨rfl, ⟨_, ES.TakenName.T⟩, ES.TakenName.no⟩, fun _ h => nomatch h⟩⟩))
theorem rd_pbn (ES : ErrSet P w K mg base) : Rdy K "position" (l_law_placed_by_name K) := (Rdy.app (Rdy.app (List.forall_mem_cons.2 ⟨⟨rfl, ⟨_, ES.InvalidStarts.T⟩, ES.InvalidStarts.no⟩, List.forall_mem_cons.2 ⟨⟨rfl, ⟨_, ES.InvalidSteps.T⟩, ES.InvalidSteps.no⟩, List.forall_mem_cons.2 ⟨⟨rfl, ⟨_, ES.InvalidRow.T⟩, ES.InvalidRow.no⟩, fun _ h => nomatch h⟩⟩⟩) (List.forall_mem_cons.2 ⟨⟨rfl, ⟨_, ES.InvalidSigns.T⟩, ES.InvalidSigns.no⟩, List.forall_mem_cons.2 ⟨⟨rfl, ⟨_, ES.InvalidCalls.T⟩, ES.InvalidCalls.no⟩, List.forall_mem_cons.2 ⟨⟨rfl, ⟨_, ES.InvalidHidden.T⟩, ES.InvalidHidden.no⟩, fun _ h => nomatch h⟩⟩⟩)) (List.forall_mem_cons.2 ⟨⟨rfl, ⟨_, ES.InvalidPairs.T⟩, ES.InvalidPairs.no⟩, List.forall_mem_cons.2 ⟨⟨rfl, ⟨_, ES.NotGiven.T⟩, ES.NotGiven.no⟩, List.forall_mem_cons.2 ⟨⟨rfl, ⟨_, ES.CommandFailed.T⟩, ES.CommandFailed.no⟩, fun _ h => nomatch h⟩⟩⟩))
theorem rd_vbn (ES : ErrSet P w K mg base) : Rdy K "value" (l_law_valued_by_name K) := (Rdy.app (Rdy.app (Rdy.app (Rdy.app (Rdy.app (Rdy.app (Rdy.app (Rdy.app (List.forall_mem_cons.2 ⟨⟨rfl, ⟨_, ES.InvalidStates.T⟩, ES.InvalidStates.no⟩, List.forall_mem_cons.2 ⟨⟨rfl, ⟨_, ES.InvalidStep.T⟩, ES.InvalidStep.no⟩, List.forall_mem_cons.2 ⟨⟨rfl, ⟨_, ES.InvalidState.T⟩, ES.InvalidState.no⟩, List.forall_mem_cons.2 ⟨⟨rfl, ⟨_, ES.InvalidOrder.T⟩, ES.InvalidOrder.no⟩, fun _ h => nomatch h⟩⟩⟩⟩) (List.forall_mem_cons.2 ⟨⟨rfl, ⟨_, ES.InvalidSet.T⟩, ES.InvalidSet.no⟩, List.forall_mem_cons.2 ⟨⟨rfl, ⟨_, ES.InvalidSign.T⟩, ES.InvalidSign.no⟩, List.forall_mem_cons.2 ⟨⟨rfl, ⟨_, ES.InvalidCall.T⟩, ES.InvalidCall.no⟩, fun _ h => nomatch h⟩⟩⟩)) (List.forall_mem_cons.2 ⟨⟨rfl, ⟨_, ES.InvalidNames.T⟩, ES.InvalidNames.no⟩, List.forall_mem_cons.2 ⟨⟨rfl, ⟨_, ES.InvalidName.T⟩, ES.InvalidName.no⟩, List.forall_mem_cons.2 ⟨⟨rfl, ⟨_, ES.InvalidNumber.T⟩, ES.InvalidNumber.no⟩, fun _ h => nomatch h⟩⟩⟩)) (List.forall_mem_cons.2 ⟨⟨rfl, ⟨_, ES.InvalidKind.T⟩, ES.InvalidKind.no⟩, List.forall_mem_cons.2 ⟨⟨rfl, ⟨_, ES.InvalidReading.T⟩, ES.InvalidReading.no⟩, List.forall_mem_cons.2 ⟨⟨rfl, ⟨_, ES.InvalidMatching.T⟩, ES.InvalidMatching.no⟩, fun _ h => nomatch h⟩⟩⟩)) (List.forall_mem_cons.2 ⟨⟨rfl, ⟨_, ES.InvalidFan.T⟩, ES.InvalidFan.no⟩, List.forall_mem_cons.2 ⟨⟨rfl, ⟨_, ES.InvalidMiddle.T⟩, ES.InvalidMiddle.no⟩, List.forall_mem_cons.2 ⟨⟨rfl, ⟨_, ES.InvalidFamily.T⟩, ES.InvalidFamily.no⟩, fun _ h => nomatch h⟩⟩⟩)) (List.forall_mem_cons.2 ⟨⟨rfl, ⟨_, ES.InvalidBox.T⟩, ES.InvalidBox.no⟩, List.forall_mem_cons.2 ⟨⟨rfl, ⟨_, ES.InvalidClaim.T⟩, ES.InvalidClaim.no⟩, List.forall_mem_cons.2 ⟨⟨rfl, ⟨_, ES.InvalidCommand.T⟩, ES.InvalidCommand.no⟩, fun _ h => nomatch h⟩⟩⟩)) (List.forall_mem_cons.2 ⟨⟨rfl, ⟨_, ES.UnknownStep.T⟩, ES.UnknownStep.no⟩, List.forall_mem_cons.2 ⟨⟨rfl, ⟨_, ES.UnknownName.T⟩, ES.UnknownName.no⟩, List.forall_mem_cons.2 ⟨⟨rfl, ⟨_, ES.NotMatched.T⟩, ES.NotMatched.no⟩, fun _ h => nomatch h⟩⟩⟩)) (List.forall_mem_cons.2 ⟨⟨rfl, ⟨_, ES.BrokenFan.T⟩, ES.BrokenFan.no⟩, List.forall_mem_cons.2 ⟨⟨rfl, ⟨_, ES.NoFan.T⟩, ES.NoFan.no⟩, List.forall_mem_cons.2 ⟨⟨rfl, ⟨_, ES.NotStanding.T⟩, ES.NotStanding.no⟩, fun _ h => nomatch h⟩⟩⟩)) (List.forall_mem_cons.2 ⟨⟨rfl, ⟨_, ES.TakenAnswer.T⟩, ES.TakenAnswer.no⟩, List.forall_mem_cons.2 ⟨⟨rfl, ⟨_, ES.SharedCall.T⟩, ES.SharedCall.no⟩, List.forall_mem_cons.2 ⟨⟨rfl, ⟨_, ES.TakenName.T⟩, ES.TakenName.no⟩, fun _ h => nomatch h⟩⟩⟩))
theorem cd_kept_right (F : At K mg "_law_kept_right" s_law_kept_right) (T : BI mg) (ES : ErrSet P w K mg base) (c__law_thing : Cd P w K mg base 3 "_law_thing" ["_law_pot_here"] (spThing K)) (c__law_placed : Cd P w K mg base 3 "_law_placed" ["_law_thing_here"] (spErrs (l_law_placed K)))
    (c__law_valued : Cd P w K mg base 3 "_law_valued" ["_law_thing_here"] (spErrs (l_law_valued K))) (c__law_stood : Cd P w K mg base 3 "_law_stood" ["_law_thing_here"] (spErrs (l_law_stood K)))
    (c__law_placed_by_name : Cd P w K mg base 3 "_law_placed_by_name" ["_law_thing_here"] (spErrs (l_law_placed_by_name K))) (c__law_valued_by_name : Cd P w K mg base 3 "_law_valued_by_name" ["_law_thing_here"] (spErrs (l_law_valued_by_name K)))
    (c__law_every : Cd P w K mg base 4 "_law_every" ["_law_thing_here"] (spEvery K)) : Cd P w K mg base 5 "_law_kept_right" ["_law_pot_here"] spTrue := by
  refine cd_mk F sc_law_kept_right (fun vs H Q E h => ?_) (fun _ _ _ _ _ _ us hl => match us, hl with | [_], _ => rfl) (fun f cdv A outer s H vs Q E hr hG h => ?_)
  · obtain ⟨p, rfl, _⟩ := h
    rfl
  · obtain ⟨p, rfl, hP, k⟩ := h
    refine ⟨_, (pss_cons (ps_par (i := 1) (j := 2) (by rfl) sc_law_kept_right.nd rfl rfl (by decide) rfl rfl (pa_cons (pe_cd c__law_thing (hr.mono (by decide)) hG (by rfl) (pa_cons (pv 0) pa_nil)) (pa_cons (pe_cd c__law_thing (hr.mono (by decide)) hG (by rfl) (pa_cons (pv 0) pa_nil)) pa_nil)) (by rfl))
  (pss_cons (ps_par (i := 3) (j := 4) (by rfl) sc_law_kept_right.nd rfl rfl (by decide) rfl rfl (pa_cons (pe_cd c__law_placed (hr.mono (by decide)) hG (by rfl) (pa_cons (pv 1) pa_nil)) (pa_cons (pe_cd c__law_valued (hr.mono (by decide)) hG (by rfl) (pa_cons (pv 1) pa_nil)) pa_nil)) (by rfl))
  (pss_cons (ps_set (i := 5) sc_law_kept_right.nd rfl (Or.inl rfl) (pe_cd c__law_stood (hr.mono (by decide)) hG (by rfl) (pa_cons (pv 1) pa_nil)))
  (pss_cons (ps_par (i := 6) (j := 7) (by rfl) sc_law_kept_right.nd rfl rfl (by decide) rfl rfl (pa_cons (pe_lst (pa_cons (pe_err ES.InvalidText (hr.mono (by decide)) (by rfl) (pv 1)) (pa_cons (pe_errK ES.InvalidText (hr.mono (by decide)) (by rfl) (pv 2)) pa_nil))) (pa_cons (pe_cd c__law_every (hr.mono (by decide)) hG (by rfl) (pa_cons (pv 2) pa_nil)) pa_nil)) (by rfl))
  (pss_cons (ps_set (i := 8) sc_law_kept_right.nd rfl (Or.inl rfl) (pe_op op_cat (pe_op op_cat (pe_lc (own := [("_law_e", 12)]) (g := gName 12) (tt := tYes) (by rfl) sc_law_kept_right.nd (pi_list (pv 3)) (blkOk_by (own := [("_law_e", 12)]) (N := ["_law_pot_here", "_law_thing_here", "_law_further", "_law_placed_here", "_law_valued_here", "_law_stood_here", "_law_texts", "_law_late", "_law_kept", "_law_great", "_law_named", "_law_named_now", "_law_e"]) (sc := defScope s_law_kept_right) (by decide +kernel)) (fun _ _ _ _ _ => pg_name (i := 12) sc_law_kept_right.nd rfl (Or.inl rfl)) (fun _ _ _ _ _ => pts_nil) (fun _ _ _ _ _ => (pe_xa (K := K) (pv 12)))) (pe_lc (own := [("_law_e", 12)]) (g := gName 12) (tt := tYes) (by rfl) sc_law_kept_right.nd (pi_list (pv 4)) (blkOk_by (own := [("_law_e", 12)]) (N := ["_law_pot_here", "_law_thing_here", "_law_further", "_law_placed_here", "_law_valued_here", "_law_stood_here", "_law_texts", "_law_late", "_law_kept", "_law_great", "_law_named", "_law_named_now", "_law_e"]) (sc := defScope s_law_kept_right) (by decide +kernel)) (fun _ _ _ _ _ => pg_name (i := 12) sc_law_kept_right.nd rfl (Or.inl rfl)) (fun _ _ _ _ _ => pts_nil) (fun _ _ _ _ _ => (pe_xa (K := K) (pv 12))))) (pe_lc (own := [("_law_e", 12)]) (g := gName 12) (tt := tYes) (by rfl) sc_law_kept_right.nd (pi_list (pv 5)) (blkOk_by (own := [("_law_e", 12)]) (N := ["_law_pot_here", "_law_thing_here", "_law_further", "_law_placed_here", "_law_valued_here", "_law_stood_here", "_law_texts", "_law_late", "_law_kept", "_law_great", "_law_named", "_law_named_now", "_law_e"]) (sc := defScope s_law_kept_right) (by decide +kernel)) (fun _ _ _ _ _ => pg_name (i := 12) sc_law_kept_right.nd rfl (Or.inl rfl)) (fun _ _ _ _ _ => pts_nil) (fun _ _ _ _ _ => (pe_xa (K := K) (pv 12))))))
  (pss_cons (ps_if (PW.pt (pw_or (pt_cmpR op_ne (pe_callB (call_reprD hG hr.units) (by rfl) T.repr bt_repr (pa_cons (pv 8) pa_nil)) (pe_callB (call_reprD hG hr.units) (by rfl) T.repr bt_repr (pa_cons (pe_op op_rep (pe_lst (pa_cons (pv 1) pa_nil)) (pe_callB call_len_seq (by rfl) T.len PySem.boot_len (pa_cons (pv 8) pa_nil))) pa_nil)) (nomark _)) (pw_or1 (pt_cmpR op_ne (pe_callB (call_reprD hG hr.units) (by rfl) T.repr bt_repr (pa_cons (pe_lc (own := [("_law_e", 12)]) (g := gName 12) (tt := tYes) (by rfl) sc_law_kept_right.nd (pi_list (pv 6)) (blkOk_by (own := [("_law_e", 12)]) (N := ["_law_pot_here", "_law_thing_here", "_law_further", "_law_placed_here", "_law_valued_here", "_law_stood_here", "_law_texts", "_law_late", "_law_kept", "_law_great", "_law_named", "_law_named_now", "_law_e"]) (sc := defScope s_law_kept_right) (by decide +kernel)) (fun _ _ _ _ _ => pg_name (i := 12) sc_law_kept_right.nd rfl (Or.inl rfl)) (fun _ _ _ _ _ => pts_nil) (fun _ _ _ _ _ => (pe_xa (K := K) (pv 12)))) pa_nil)) (pe_callB (call_reprD hG hr.units) (by rfl) T.repr bt_repr (pa_cons (pe_lst (pa_cons (pv 1) (pa_cons (pv 2) pa_nil))) pa_nil)) (nomark _))))) (pss_one (ps_ret pe_bl)) pss_nil)
  (pss_cons (ps_set (i := 8) sc_law_kept_right.nd rfl (Or.inl rfl) (pe_op op_cat (pe_lc (own := [("_law_e", 12)]) (g := gName 12) (tt := tYes) (by rfl) sc_law_kept_right.nd (pi_list (pe_slice sl_list (pe_ix ix_list (pv 7) pe_int (fun _ _ => rfl)) po_none (po_some pe_int))) (blkOk_by (own := [("_law_e", 12)]) (N := ["_law_pot_here", "_law_thing_here", "_law_further", "_law_placed_here", "_law_valued_here", "_law_stood_here", "_law_texts", "_law_late", "_law_kept", "_law_great", "_law_named", "_law_named_now", "_law_e"]) (sc := defScope s_law_kept_right) (by decide +kernel)) (fun _ _ _ _ _ => pg_name (i := 12) sc_law_kept_right.nd rfl (Or.inl rfl)) (fun _ _ _ _ _ => pts_nil) (fun _ _ _ _ _ => (pe_xa (K := K) (pv 12)))) (pe_lc (own := [("_law_e", 12)]) (g := gName 12) (tt := tYes) (by rfl) sc_law_kept_right.nd (pi_list (pe_op op_cat (pe_op op_cat (pe_slice sl_list (pe_ix ix_list (pv 7) pe_int (fun _ _ => rfl)) (po_some pe_int) po_none) (pe_ix ix_list (pv 7) pe_int (fun _ _ => rfl))) (pe_slice sl_list (pe_ix ix_list (pv 7) pe_int (fun _ _ => rfl)) po_none (po_some pe_int)))) (blkOk_by (own := [("_law_e", 12)]) (N := ["_law_pot_here", "_law_thing_here", "_law_further", "_law_placed_here", "_law_valued_here", "_law_stood_here", "_law_texts", "_law_late", "_law_kept", "_law_great", "_law_named", "_law_named_now", "_law_e"]) (sc := defScope s_law_kept_right) (by decide +kernel)) (fun _ _ _ _ _ => pg_name (i := 12) sc_law_kept_right.nd rfl (Or.inl rfl)) (fun _ _ _ _ _ => pts_nil) (fun _ _ _ _ _ => (pe_xa (K := K) (pv 12))))))
  (pss_cons (ps_set (i := 8) sc_law_kept_right.nd rfl (Or.inl rfl) (pe_op op_cat (pe_op op_cat (pv 8) (pe_lc (own := [("_law_e", 12)]) (g := gName 12) (tt := tYes) (by rfl) sc_law_kept_right.nd (pi_list (pe_slice sl_list (pe_ix ix_list (pv 7) pe_int (fun _ _ => rfl)) (po_some pe_int) (po_some pe_int))) (blkOk_by (own := [("_law_e", 12)]) (N := ["_law_pot_here", "_law_thing_here", "_law_further", "_law_placed_here", "_law_valued_here", "_law_stood_here", "_law_texts", "_law_late", "_law_kept", "_law_great", "_law_named", "_law_named_now", "_law_e"]) (sc := defScope s_law_kept_right) (by decide +kernel)) (fun _ _ _ _ _ => pg_name (i := 12) sc_law_kept_right.nd rfl (Or.inl rfl)) (fun _ _ _ _ _ => pts_nil) (fun _ _ _ _ _ => (pe_xa (K := K) (pv 12))))) (pe_lst (pa_cons (pe_xa (K := K) (pe_ix ix_list (pe_ix ix_list (pv 7) pe_int (fun _ _ => rfl)) pe_int (fun _ _ => rfl))) pa_nil))))
  (pss_cons (ps_if (pt_cmpR op_ne (pe_callB (call_reprD hG hr.units) (by rfl) T.repr bt_repr (pa_cons (pv 8) pa_nil)) (pe_callB (call_reprD hG hr.units) (by rfl) T.repr bt_repr (pa_cons (pe_op op_rep (pe_lst (pa_cons (pv 2) pa_nil)) (pe_callB call_len_seq (by rfl) T.len PySem.boot_len (pa_cons (pv 8) pa_nil))) pa_nil)) (nomark _)) (pss_one (ps_ret pe_bl)) pss_nil)
  (pss_cons (ps_par (i := 9) (j := 10) (by rfl) sc_law_kept_right.nd rfl rfl (by decide) rfl rfl (pa_cons (pe_err2 ES.TooMany (hr.mono (by decide)) (by rfl) (pv 1) (pv 2)) (pa_cons (pe_err2K ES.TooMany (hr.mono (by decide)) (by rfl) (pv 1) (pv 2)) pa_nil)) (by rfl))
  (pss_cons (ps_if (pt_cmpR op_ne (pe_callB (call_reprD hG hr.units) (by rfl) T.repr bt_repr (pa_cons (pe_lst (pa_cons (pe_xa (K := K) (pv 9)) (pa_cons (pe_xa (K := K) (pv 9)) (pa_cons (pe_xa (K := K) (pv 10)) (pa_cons (pe_xa (K := K) (pv 10)) pa_nil))))) pa_nil)) (pe_callB (call_reprD hG hr.units) (by rfl) T.repr bt_repr (pa_cons (pe_lst (pa_cons (pv 1) (pa_cons (pv 2) (pa_cons (pv 2) (pa_cons (pv 1) pa_nil))))) pa_nil)) (nomark _)) (pss_one (ps_ret pe_bl)) pss_nil)
  (pss_cons (ps_set (i := 11) sc_law_kept_right.nd rfl (Or.inl rfl) (pe_op op_cat (pe_lc (own := [("_law_e", 12)]) (g := gName 12) (tt := tYes) (by rfl) sc_law_kept_right.nd (pi_list (pe_cd c__law_placed_by_name (hr.mono (by decide)) hG (by rfl) (pa_cons (pv 1) pa_nil))) (blkOk_by (own := [("_law_e", 12)]) (N := ["_law_pot_here", "_law_thing_here", "_law_further", "_law_placed_here", "_law_valued_here", "_law_stood_here", "_law_texts", "_law_late", "_law_kept", "_law_great", "_law_named", "_law_named_now", "_law_e"]) (sc := defScope s_law_kept_right) (by decide +kernel)) (fun _ _ _ _ _ => pg_name (i := 12) sc_law_kept_right.nd rfl (Or.inl rfl)) (fun _ _ _ _ _ => pts_nil) (fun _ _ _ _ _ => (pe_xa (K := K) (pv 12)))) (pe_lc (own := [("_law_e", 12)]) (g := gName 12) (tt := tYes) (by rfl) sc_law_kept_right.nd (pi_list (pe_cd c__law_valued_by_name (hr.mono (by decide)) hG (by rfl) (pa_cons (pv 1) pa_nil))) (blkOk_by (own := [("_law_e", 12)]) (N := ["_law_pot_here", "_law_thing_here", "_law_further", "_law_placed_here", "_law_valued_here", "_law_stood_here", "_law_texts", "_law_late", "_law_kept", "_law_great", "_law_named", "_law_named_now", "_law_e"]) (sc := defScope s_law_kept_right) (by decide +kernel)) (fun _ _ _ _ _ => pg_name (i := 12) sc_law_kept_right.nd rfl (Or.inl rfl)) (fun _ _ _ _ _ => pts_nil) (fun _ _ _ _ _ => (pe_xa (K := K) (pv 12))))))
  (pss_one (ps_ret (pe_and (pe_cmpR op_eq (pe_callB call_len_seq (by rfl) T.len PySem.boot_len (pa_cons (pv 11) pa_nil)) pe_int (nomark _)) (pe_one (pe_cmpR op_eq (pe_callB (call_reprD hG hr.units) (by rfl) T.repr bt_repr (pa_cons (pv 11) pa_nil)) (pe_callB (call_reprD hG hr.units) (by rfl) T.repr bt_repr (pa_cons (pe_op op_rep (pe_lst (pa_cons (pv 1) pa_nil)) pe_int) pa_nil)) (nomark _)))))))))))))))))), ?_⟩
    refine ⟨_, rfl, p, rfl, hP, fun y d H1 st1 D1 hd => ⟨_, rfl, p, rfl, st1.pot, fun z e H2 st2 D2 he => ⟨_, _, rfl, ?_⟩⟩⟩
    have Dy := D1.mono st2.k
    have hP2 := st2.pot
    refine ⟨y, rfl, y, rfl, fun p3 as3 H3 n3 s3 e3 r3 => ⟨y, rfl, y, rfl, fun p4 as4 H4 n4 s4 e4 r4 => ⟨_, _, rfl, ?_⟩⟩⟩
    refine ⟨y, rfl, y, rfl, fun p5 as5 H5 n5 s5 e5 r5 => ?_⟩
    refine ⟨y, rfl, fun a6 H6 n6 s6 x6 => ⟨z, rfl, fun a7 H7 n7 s7 x7 => ⟨by show 2 ≤ sizeLine; decide, fun p8 n8 => ?_⟩⟩⟩
    generalize g8 : upd H7 p8 _ = H8
    have s8 : Same H7 H8 := g8 ▸ same_new n8
    have e8 := g8 ▸ upd_same (H := H7) (a := p8)
    clear g8
    refine ⟨z, rfl, z, rfl, fun p9 b1 b2 b3 b4 bs1 bs2 bs3 zs a4 H9 n9 s9 e9 E9 => ⟨_, _, rfl, ?_⟩⟩
    -- what was kept of the first thing
    have g1 : Rdy K "position" (l_law_placed K) := rd_placed ES
    have g2 : Rdy K "value" (l_law_valued K) := rd_valued ES
    have g3 : Rdy K "value" (l_law_stood K) := rd_stood ES
    have w34 := s4.trans (s5.trans (s6.trans (s7.trans (s8.trans s9))))
    have w5 := s6.trans (s7.trans (s8.trans s9))
    dsimp only
    refine in_set (in_op (in_op ?_))
    refine attr_v (K := K) (by rfl) (SqL.of (w34 _ _ e3)) (XOs.mono w34 r3) g1 (Nat.le_of_ble_eq_true rfl) (fun _ => by rfl) (fun _ => by rfl) fun p10 H10 n10 s10 e10 => ?_
    refine attr_v (K := K) (by rfl) (SqL.of ((s5.trans (w5.trans s10)) _ _ e4)) (XOs.mono (s5.trans (w5.trans s10)) r4) g2 (Nat.le_of_ble_eq_true rfl) (fun _ => by rfl) (fun _ => by rfl) fun p11 H11 n11 s11 e11 => ?_
    refine ⟨p10, p11, _, _, rfl, rfl, s11 _ _ e10, e11, (by show (7 : Nat) + 19 ≤ sizeLine; decide), fun p12 n12 => ?_⟩
    generalize g12 : upd H11 p12 _ = H12
    have s12 : Same H11 H12 := g12 ▸ same_new n12
    have e12 := g12 ▸ upd_same (H := H11) (a := p12)
    clear g12
    refine attr_v (K := K) (by rfl) (SqL.of ((w5.trans (s10.trans (s11.trans s12))) _ _ e5)) (XOs.mono (w5.trans (s10.trans (s11.trans s12))) r5) g3 (Nat.le_of_ble_eq_true rfl) (fun _ => by rfl) (fun _ => by rfl) fun p13 H13 n13 s13 e13 => ?_
    refine ⟨p12, p13, _, _, rfl, rfl, s13 _ _ e12, e13, (by show (26 : Nat) + 7 ≤ sizeLine; decide), fun p14 n14 => ?_⟩
    generalize g14 : upd H13 p14 _ = H14
    have s14 : Same H13 H14 := g14 ▸ same_new n14
    have e14 := g14 ▸ upd_same (H := H13) (a := p14)
    clear g14
    have e14' : H14 p14 = some (.lst (List.replicate 33 y)) := e14
    have w14 : Same H2 H14 := s3.trans (w34.trans (s10.trans (s11.trans (s12.trans (s13.trans s14)))))
    have P14 := hP2.keep w14
    have Dy14 := Dy.mono (same_off w14)
    have n14p : p14 ≠ p := (hP2.keep (s3.trans (w34.trans (s10.trans (s11.trans (s12.trans s13)))))).new n14
    have m14 := sm_rep hd 33 (by omega)
    have e14o : off p H14 p14 = some (.lst (List.replicate 33 y)) := (off_ne n14p).trans e14'
    have d14 : Da K H14 (.ref p14) (.list (List.replicate 33 d)) := (Da.lst (SqL.of e14o) (Das.rep Dy14 33)).mono off_same
    refine in_if (in_or (in_op ?_))
    refine ⟨_, rfl, .ref p14, .list (List.replicate 33 d), rfl, d14, m14.1, m14.2.1, m14.2.2, ?_⟩
    refine ⟨_, rfl, (by show 1 ≤ sizeLine; decide), fun p15 n15 => ?_⟩
    generalize g15 : upd H14 p15 _ = H15
    have s15 : Same H14 H15 := g15 ▸ same_new n15
    have e15 := g15 ▸ upd_same (H := H14) (a := p15)
    clear g15
    refine ⟨_, rfl, p14, _, rfl, .inl (SqL.of (s15 _ _ e14')), ?_⟩
    refine ⟨p15, _, _, rfl, rfl, e15, (by show (-(2 ^ 63) : Int) ≤ 33; decide), (by show (33 : Int) < 2 ^ 63; decide), (by show 1 * 33 ≤ sizeLine; decide), fun p16 n16 => ?_⟩
    generalize g16 : upd H15 p16 _ = H16
    have s16 : Same H15 H16 := g16 ▸ same_new n16
    have e16 := g16 ▸ upd_same (H := H15) (a := p16)
    clear g16
    have e16' : H16 p16 = some (.lst (List.replicate 33 y)) := e16
    have w16 := s15.trans s16
    have P16 := P14.keep w16
    have Dy16 := Dy14.mono (same_off w16)
    have e16o : off p H16 p16 = some (.lst (List.replicate 33 y)) := (off_ne ((P14.keep s15).new n16)).trans e16'
    have d16 : Da K H16 (.ref p16) (.list (List.replicate 33 d)) := (Da.lst (SqL.of e16o) (Das.rep Dy16 33)).mono off_same
    refine ⟨.ref p16, .list (List.replicate 33 d), rfl, d16, m14.1, m14.2.1, m14.2.2, rfl, _, rfl, iteNS rfl ?_⟩
    -- the lines
    have w69 := s7.trans (s8.trans s9)
    have w716 := s10.trans (s11.trans (s12.trans (s13.trans (s14.trans w16))))
    have XT : XOv H16 [a6, a7] [((ga K "InvalidText", ("line" : Str)), y), ((ga K "InvalidText", ("line" : Str)), z)] := .cons (x6.mono (w69.trans w716)) (.cons (x7.mono (s8.trans (s9.trans w716))) .nil)
    have gT := rd_text ES
    refine in_test (in_op (in_cb (in_cons ?_)))
    refine attr_val (K := K) (by rfl) (SqL.of ((s9.trans w716) _ _ e8)) XT (fun q hq => ?_) (Nat.le_of_ble_eq_true rfl) (fun _ => by rfl) (fun _ => by rfl) fun p17 H17 n17 s17 e17 => ?_
    · rcases List.mem_cons.mp hq with rfl | hq
      · exact gT _ (List.mem_cons_self ..)
      · rcases List.mem_cons.mp hq with rfl | hq
        · exact gT _ (List.mem_cons_self ..)
        · exact nomatch hq
    have e17' : H17 p17 = some (.lst [y, z]) := e17
    have P17 := P16.keep s17
    have w2 := w14.trans (w16.trans s17)
    have Dy17 := Dy.mono (same_off w2)
    have Dz17 := D2.mono (same_off w2)
    have e17o := (off_ne (P16.new n17)).trans e17'
    have m17 := sm_two hd he
    refine ⟨.ref p17, .list [d, e], rfl, (Da.lst (SqL.of e17o) (.cons Dy17 (.cons Dz17 .nil))).mono off_same, m17.1, m17.2.1, m17.2.2, ?_⟩
    refine ⟨_, rfl, _, rfl, (by show 2 ≤ sizeLine; decide), fun p18 n18 => ?_⟩
    generalize g18 : upd H17 p18 _ = H18
    have s18 : Same H17 H18 := g18 ▸ same_new n18
    have e18 := g18 ▸ upd_same (H := H17) (a := p18)
    clear g18
    have e18o := (off_ne (P17.new n18)).trans e18
    refine ⟨.ref p18, .list [d, e], rfl, (Da.lst (SqL.of e18o) (.cons (Dy17.mono (same_off s18)) (.cons (Dz17.mono (same_off s18)) .nil))).mono off_same, m17.1, m17.2.1, m17.2.2, rfl, _, rfl, ?_⟩
    rw [not_dec rfl]
    refine iteF ?_
    -- what was kept of the further one
    have w918 := w716.trans (s17.trans s18)
    have E18 := E9.mono w918
    have l1 : bs1.length = 27 := paired_len E18.r1
    have l3 : bs3.length = 9 := paired_len E18.r3
    have l2 : bs2.length = 2 := paired_len E18.r2
    have e9a := w918 _ _ e9
    refine in_set (in_op ?_)
    refine attr_any (K := K) (L := l_law_placed K) (y := z) (fun R k => ?_) g1 (Nat.le_of_ble_eq_true rfl) (fun _ => by rfl) (fun _ => by rfl) (fun p19 H19 n19 s19 e19 => ?_)
    · refine ⟨_, rfl, p9, _, 0, _, rfl, rfl, SqL.of e9a, rfl, 7, rfl, b1, _, rfl, SqL.of E18.h1, fun q nq => k q (bs1.take 7) _ (same_new nq) (SqL.of ?_) (XOs.mono (same_new nq) (paired_take 7 E18.r1))⟩
      rw [upd_same, show cutV (bs1.map V.ref) none (some 7) = (bs1.map V.ref).take 7 from cut_to (k := 7) (by rw [List.length_map]; omega), List.map_take]
    have E19 := E18.mono s19
    have e9b := s19 _ _ e9a
    refine attr_any (K := K) (L := l_law_valued K ++ [(ga K "UnknownStep", ("value" : Str)), (ga K "UnknownName", ("value" : Str))] ++ l_law_stood K) (y := z) (fun R k => ?_) (g2.app (rd_unk ES) |>.app g3) (Nat.le_of_ble_eq_true rfl) (fun _ => by rfl) (fun _ => by rfl) (fun p20 H20 n20 s20 e20 => ?_)
    · refine in_op (in_op ?_)
      refine ⟨_, rfl, p9, _, 0, _, rfl, rfl, SqL.of e9b, rfl, 8, rfl, b1, _, rfl, SqL.of E19.h1, fun p21 n21 => ?_⟩
      generalize g21 : upd H19 p21 _ = H21
      have s21 : Same H19 H21 := g21 ▸ same_new n21
      have e21 := g21 ▸ upd_same (H := H19) (a := p21)
      clear g21
      rw [show cutV (bs1.map V.ref) (some 8) none = (bs1.map V.ref).drop 8 from cut_from (k := 8) (by rw [List.length_map]; omega), ← List.map_drop] at e21
      have E21 := E19.mono s21
      refine ⟨_, rfl, p9, _, 1, _, rfl, rfl, SqL.of (s21 _ _ e9b), rfl, p21, b2, _, _, rfl, rfl, e21, E21.h2, ?_, fun p22 n22 => ?_⟩
      · rw [List.length_map, List.length_map, List.length_drop, l1, l2]
        decide
      generalize g22 : upd H21 p22 _ = H22
      have s22 : Same H21 H22 := g22 ▸ same_new n22
      have e22 := g22 ▸ upd_same (H := H21) (a := p22)
      clear g22
      have E22 := E21.mono s22
      refine ⟨_, rfl, p9, _, 2, _, rfl, rfl, SqL.of ((s21.trans s22) _ _ e9b), rfl, 7, rfl, b3, _, rfl, SqL.of E22.h3, fun p23 n23 => ?_⟩
      generalize g23 : upd H22 p23 _ = H23
      have s23 : Same H22 H23 := g23 ▸ same_new n23
      have e23 := g23 ▸ upd_same (H := H22) (a := p23)
      clear g23
      rw [show cutV ((bs3 ++ zs).map V.ref) none (some 7) = ((bs3 ++ zs).map V.ref).take 7 from cut_to (k := 7) (by rw [List.length_map, List.length_append]; omega), ← List.map_take, List.take_append_of_le_length (by omega)] at e23
      refine ⟨p22, p23, _, _, rfl, rfl, s23 _ _ e22, e23, ?_, fun p24 n24 => ?_⟩
      · rw [List.length_append, List.length_map, List.length_map, List.length_map, List.length_drop, List.length_take, l1, l2, l3]
        decide
      have s24 := same_new (o := .lst ((bs1.drop 8).map V.ref ++ bs2.map V.ref ++ (bs3.take 7).map V.ref)) n24
      have E24 := E22.mono (s23.trans s24)
      refine k p24 (bs1.drop 8 ++ bs2 ++ bs3.take 7) _ (s21.trans (s22.trans (s23.trans s24))) (SqL.of ?_) (paired_app (paired_app (paired_drop 8 E24.r1) E24.r2) (paired_take 7 E24.r3))
      rw [upd_same, List.map_append, List.map_append]
    refine ⟨p19, p20, _, _, rfl, rfl, s20 _ _ e19, e20, (by show (7 : Nat) + 28 ≤ sizeLine; decide), fun p25 n25 => ?_⟩
    generalize g25 : upd H20 p25 _ = H25
    have s25 : Same H20 H25 := g25 ▸ same_new n25
    have e25 := g25 ▸ upd_same (H := H20) (a := p25)
    clear g25
    have w1925 := s20.trans s25
    have E25 := E19.mono w1925
    have e9c := w1925 _ _ e9b
    refine in_set (in_op (in_op ⟨_, rfl, ?_⟩))
    refine attr_any (K := K) (L := [(ga K "NotGiven", ("position" : Str)), (ga K "CommandFailed", ("position" : Str))]) (y := z) (fun R k => ?_) (rd_pos ES) (Nat.le_of_ble_eq_true rfl) (fun _ => by rfl) (fun _ => by rfl) (fun p26 H26 n26 s26 e26 => ?_)
    · refine ⟨_, rfl, p9, _, 2, _, rfl, rfl, SqL.of e9c, rfl, 7, rfl, 9, rfl, b3, _, rfl, SqL.of E25.h3, fun q nq => k q (bs3.drop 7) _ (same_new nq) (SqL.of ?_) (XOs.mono (same_new nq) (paired_drop 7 E25.r3))⟩
      rw [upd_same, show cutV ((bs3 ++ zs).map V.ref) (some 7) (some 9) = (((bs3 ++ zs).map V.ref).drop 7).take (9 - 7) from cut_mid (k := 7) (m := 9) (by rw [List.length_map, List.length_append]; omega) (by rw [List.length_map, List.length_append]; omega), ← List.map_drop, ← List.map_take,
        List.drop_append_of_le_length (by omega), List.take_append_of_le_length (by rw [List.length_drop]; omega), List.take_of_length_le (by rw [List.length_drop]; omega)]
    refine ⟨p25, p26, _, _, rfl, rfl, s26 _ _ e25, e26, (by show (35 : Nat) + 2 ≤ sizeLine; decide), fun p27 n27 => ?_⟩
    generalize g27 : upd H26 p27 _ = H27
    have s27 : Same H26 H27 := g27 ▸ same_new n27
    have e27 := g27 ▸ upd_same (H := H26) (a := p27)
    clear g27
    have E27 := E25.mono (s26.trans s27)
    obtain ⟨a7b, ha7⟩ : ∃ a, bs1[7]? = some a := ⟨bs1[7]'(by omega), List.getElem?_eq_getElem _⟩
    obtain ⟨c7, hc7, x7b⟩ := paired_at E27.r1 ha7
    have ec7 : (ga K "InvalidText", ("line" : Str)) = c7 := by
      have q : (l_law_placed K ++ [(ga K "InvalidText", ("line" : Str))] ++ l_law_valued K)[7]? = some (ga K "InvalidText", ("line" : Str)) := rfl
      exact Option.some.inj (q.symm.trans hc7)
    subst ec7
    have at7 : atI (bs1.map V.ref) 7 = some (.ref a7b) := atI_nat (j := 7) (by rw [List.getElem?_map, ha7]; rfl)
    obtain ⟨_, ⟨bT, TT⟩, noT⟩ := rd_text ES _ (List.mem_cons_self ..)
    refine ⟨_, rfl, p9, _, 0, _, rfl, rfl, SqL.of ((s26.trans s27) _ _ e9c), rfl, b1, _, 7, _, rfl, rfl, SqL.of E27.h1, at7, bT, a7b, _, _, z, rfl, x7b, TT, noT, (by rw [lookup_put, if_pos rfl]), (by show 1 ≤ sizeLine; decide), fun p28 n28 => ?_⟩
    generalize g28 : upd H27 p28 _ = H28
    have s28 : Same H27 H28 := g28 ▸ same_new n28
    have e28 := g28 ▸ upd_same (H := H27) (a := p28)
    clear g28
    refine ⟨p27, p28, _, _, rfl, rfl, s28 _ _ e27, e28, (by show (37 : Nat) + 1 ≤ sizeLine; decide), fun p29 n29 => ?_⟩
    generalize g29 : upd H28 p29 _ = H29
    have s29 : Same H28 H29 := g29 ▸ same_new n29
    have e29 := g29 ▸ upd_same (H := H28) (a := p29)
    clear g29
    have e29' : H29 p29 = some (.lst (List.replicate 38 z)) := e29
    have w3 : Same H17 H29 := s18.trans (s19.trans (w1925.trans (s26.trans (s27.trans (s28.trans s29)))))
    have P28 := P17.keep (s18.trans (s19.trans (w1925.trans (s26.trans (s27.trans s28)))))
    have P29 := P28.keep s29
    have Dz29 := Dz17.mono (same_off w3)
    have e29o := (off_ne (P28.new n29)).trans e29'
    have m29 := sm_rep he 38 (by omega)
    refine in_if (in_test (in_op ?_))
    refine ⟨_, rfl, .ref p29, .list (List.replicate 38 e), rfl, (Da.lst (SqL.of e29o) (Das.rep Dz29 38)).mono off_same, m29.1, m29.2.1, m29.2.2, ?_⟩
    refine ⟨_, rfl, (by show 1 ≤ sizeLine; decide), fun p30 n30 => ?_⟩
    generalize g30 : upd H29 p30 _ = H30
    have s30 : Same H29 H30 := g30 ▸ same_new n30
    have e30 := g30 ▸ upd_same (H := H29) (a := p30)
    clear g30
    refine ⟨_, rfl, p29, _, rfl, .inl (SqL.of (s30 _ _ e29')), ?_⟩
    refine ⟨p30, _, _, rfl, rfl, e30, (by show (-(2 ^ 63) : Int) ≤ 38; decide), (by show (38 : Int) < 2 ^ 63; decide), (by show 1 * 38 ≤ sizeLine; decide), fun p31 n31 => ?_⟩
    generalize g31 : upd H30 p31 _ = H31
    have s31 : Same H30 H31 := g31 ▸ same_new n31
    have e31 := g31 ▸ upd_same (H := H30) (a := p31)
    clear g31
    have e31' : H31 p31 = some (.lst (List.replicate 38 z)) := e31
    have w31 := s30.trans s31
    have P31 := P29.keep w31
    have e31o := (off_ne ((P29.keep s30).new n31)).trans e31'
    refine ⟨.ref p31, .list (List.replicate 38 e), rfl, (Da.lst (SqL.of e31o) (Das.rep (Dz29.mono (same_off w31)) 38)).mono off_same, m29.1, m29.2.1, m29.2.2, rfl, _, rfl, iteNS rfl ?_⟩
    -- two values, by place and by name
    have TT2 := ES.TooMany
    refine ⟨y, rfl, z, rfl, fun a32 H32 n32 s32 x32 => ⟨y, rfl, z, rfl, fun a33 H33 n33 s33 x33 => ⟨_, _, rfl, ?_⟩⟩⟩
    have w33 := w31.trans (s32.trans s33)
    have P33 := P29.keep w33
    have W33 := w2.trans (w3.trans w33)
    have Dy33 := Dy.mono (same_off W33)
    have Dz33 := D2.mono (same_off W33)
    dsimp only
    refine in_if (in_test (in_op ?_))
    refine ⟨_, rfl, _, a32, _, _, y, rfl, x32.mono s33, TT2.T, TT2.no, (by rw [lookup_put, if_neg (by decide +kernel), lookup_put, if_pos rfl]), ?_⟩
    refine ⟨_, rfl, _, a32, _, _, z, rfl, x32.mono s33, TT2.T, TT2.no2, (by rw [lookup_put, if_pos rfl]), ?_⟩
    refine ⟨_, rfl, _, a33, _, _, z, rfl, x33, TT2.T, TT2.no, (by rw [lookup_put, if_neg (by decide +kernel), lookup_put, if_pos rfl]), ?_⟩
    refine ⟨_, rfl, _, a33, _, _, y, rfl, x33, TT2.T, TT2.no2, (by rw [lookup_put, if_pos rfl]), (by show 4 ≤ sizeLine; decide), fun p34 n34 => ?_⟩
    generalize g34 : upd H33 p34 _ = H34
    have s34 : Same H33 H34 := g34 ▸ same_new n34
    have e34 := g34 ▸ upd_same (H := H33) (a := p34)
    clear g34
    have m34 := sm_four hd he
    have D34 : Das K (off p H34) [y, z, z, y] [d, e, e, d] := .cons (Dy33.mono (same_off s34)) (.cons (Dz33.mono (same_off s34)) (.cons (Dz33.mono (same_off s34)) (.cons (Dy33.mono (same_off s34)) .nil)))
    have e34o := (off_ne (P33.new n34)).trans e34
    have P34 := P33.keep s34
    refine ⟨.ref p34, .list [d, e, e, d], rfl, (Da.lst (SqL.of e34o) D34).mono off_same, m34.1, m34.2.1, m34.2.2, ?_⟩
    refine ⟨_, rfl, _, rfl, _, rfl, _, rfl, (by show 4 ≤ sizeLine; decide), fun p35 n35 => ?_⟩
    generalize g35 : upd H34 p35 _ = H35
    have s35 : Same H34 H35 := g35 ▸ same_new n35
    have e35 := g35 ▸ upd_same (H := H34) (a := p35)
    clear g35
    have e35o := (off_ne (P34.new n35)).trans e35
    refine ⟨.ref p35, .list [d, e, e, d], rfl, (Da.lst (SqL.of e35o) (D34.mono (same_off s35))).mono off_same, m34.1, m34.2.1, m34.2.2, rfl, _, rfl, iteNS rfl ?_⟩
    -- by name
    refine in_set (in_op ?_)
    refine attr_any (K := K) (L := l_law_placed_by_name K) (y := y) (fun R k => ⟨y, rfl, y, rfl, fun q as H1 n s e r => k q as H1 s (SqL.of e) r⟩) (rd_pbn ES) (Nat.le_of_ble_eq_true rfl) (fun _ => by rfl) (fun _ => by rfl) (fun p36 H36 n36 s36 e36 => ?_)
    refine attr_any (K := K) (L := l_law_valued_by_name K) (y := y) (fun R k => ⟨y, rfl, y, rfl, fun q as H1 n s e r => k q as H1 s (SqL.of e) r⟩) (rd_vbn ES) (Nat.le_of_ble_eq_true rfl) (fun _ => by rfl) (fun _ => by rfl) (fun p37 H37 n37 s37 e37 => ?_)
    refine ⟨p36, p37, _, _, rfl, rfl, s37 _ _ e36, e37, (by show (9 : Nat) + 28 ≤ sizeLine; decide), fun p38 n38 => ?_⟩
    generalize g38 : upd H37 p38 _ = H38
    have s38 : Same H37 H38 := g38 ▸ same_new n38
    have e38 := g38 ▸ upd_same (H := H37) (a := p38)
    clear g38
    have e38' : H38 p38 = some (.lst (List.replicate 37 y)) := e38
    have w38 := s34.trans (s35.trans (s36.trans (s37.trans s38)))
    have P37 := P33.keep (s34.trans (s35.trans (s36.trans s37)))
    have P38 := P37.keep s38
    have Dy38 := Dy33.mono (same_off w38)
    have e38o := (off_ne (P37.new n38)).trans e38'
    have m38 := sm_rep hd 37 (by omega)
    refine ⟨_, rfl, p38, _, rfl, .inl (SqL.of e38'), rfl, _, rfl, ?_⟩
    rw [decide_eq_true (show V.int ((List.replicate 37 y).length : Int) = V.int 37 from rfl)]
    refine iteT ?_
    refine ⟨_, rfl, .ref p38, .list (List.replicate 37 d), rfl, (Da.lst (SqL.of e38o) (Das.rep Dy38 37)).mono off_same, m38.1, m38.2.1, m38.2.2, ?_⟩
    refine ⟨_, rfl, (by show 1 ≤ sizeLine; decide), fun p39 n39 => ?_⟩
    generalize g39 : upd H38 p39 _ = H39
    have s39 : Same H38 H39 := g39 ▸ same_new n39
    have e39 := g39 ▸ upd_same (H := H38) (a := p39)
    clear g39
    refine ⟨p39, _, _, rfl, rfl, e39, (by decide), (by decide), (by show 1 * 37 ≤ sizeLine; decide), fun p40 n40 => ?_⟩
    generalize g40 : upd H39 p40 _ = H40
    have s40 : Same H39 H40 := g40 ▸ same_new n40
    have e40 := g40 ▸ upd_same (H := H39) (a := p40)
    clear g40
    have e40' : H40 p40 = some (.lst (List.replicate 37 y)) := e40
    have e40o := (off_ne ((P38.keep s39).new n40)).trans e40'
    refine ⟨.ref p40, .list (List.replicate 37 d), rfl, (Da.lst (SqL.of e40o) (Das.rep (Dy38.mono (same_off (s39.trans s40))) 37)).mono off_same, m38.1, m38.2.1, m38.2.2, rfl, ?_⟩
    rw [decide_eq_true rfl]
    exact k _ (st1.trans (st2.same (W33.trans (w38.trans (s39.trans s40)))))
end
end K10

/-! ## K10i -/
set_option Elab.async false
set_option linter.all false
set_option maxRecDepth 100000
set_option maxHeartbeats 4000000
namespace K10
open PySem PySem.Spec PyProof.Rows L2 He Vx
open PySem.W (kitOne)

structure Kinds (K : PySem.W.Frag) : Prop where
  X : ∀ x ∈ kNames, ∃ b, XcC b K (ga K x)
  own : isAll K kNames 0 kNames = true
  fam : famAll K 0 kNames = true
theorem famB_ok {K : PySem.W.Frag} {x : Str} {f : Nat} : ∀ {L : List CE} {i j : Nat} {c : CE}, famB K x f i L = true → L[j]? = some c → kitOne K (.ref (ga K x)) (c.u K) = some (decide ((i + j) % 4 = f))
  | [], _, _, _, _, e => by simp at e
  | d :: r, i, 0, c, h, e => by
    simp at e
    subst e
    exact of_decide_eq_true (ba h).1
  | d :: r, i, j + 1, c, h, e => by
    have q := famB_ok (i := i + 1) (j := j) (ba h).2 (by simpa using e)
    rw [show i + (j + 1) = i + 1 + j by omega]
    exact q
theorem famAll_ok {K : PySem.W.Frag} : ∀ {L : List Str} {i n : Nat} {x : Str}, famAll K i L = true → L[n]? = some x → famB K x (famOf (i + n)) 0 l_law_families = true
  | [], _, _, _, _, e => by simp at e
  | z :: r, i, 0, x, h, e => by
    simp at e
    subst e
    exact (ba h).1
  | z :: r, i, n + 1, x, h, e => by
    have q := famAll_ok (i := i + 1) (n := n) (ba h).2 (by simpa using e)
    rw [show i + (n + 1) = i + 1 + n by omega]
    exact q
theorem Kinds.kit {K : PySem.W.Frag} (k : Kinds K) {n : Nat} {x : Str} (e : kNames[n]? = some x) {j : Nat} {c : CE} (ec : (l_law_of_boxes ++ l_law_of_others)[j]? = some c) : kitOne K (.ref (ga K x)) (c.u K) = some (decide (j = n)) := by
  rw [kNames_own, List.getElem?_map] at ec
  obtain ⟨y, hy, rfl⟩ := Option.map_eq_some_iff.mp ec
  have q := isAll_ok k.own e hy
  rw [Nat.zero_add] at q
  exact q
theorem Kinds.kitF {K : PySem.W.Frag} (k : Kinds K) {n : Nat} {x : Str} (e : kNames[n]? = some x) {j : Nat} {c : CE} (ec : l_law_families[j]? = some c) : kitOne K (.ref (ga K x)) (c.u K) = some (decide (j % 4 = famOf n)) := by
  have q := famAll_ok k.fam e
  rw [Nat.zero_add] at q
  have q2 := famB_ok q ec
  rw [Nat.zero_add] at q2
  exact q2
def offs : Nat → Nat
  | 0 => 0
  | 1 => 27
  | 2 => 29
  | 3 => 41
  | _ => 42
def lens : Nat → Nat
  | 0 => 27
  | 1 => 2
  | 2 => 12
  | 3 => 1
  | _ => 0
theorem fam_off : ∀ f < 4, ∀ j < lens f, famOf (offs f + j) = f := by decide
theorem off_len : ∀ f < 4, offs f + lens f = offs (f + 1) ∧ lens f ≤ 27 := by decide
theorem Every.parts {K : PySem.W.Frag} {H : Hp} {y : V} {b1 b2 b3 b4 a4 : Addr} {as1 as2 as3 zs : List Addr} (E : Every K H y b1 b2 b3 b4 as1 as2 as3 zs a4) :
    ∀ {f : Nat} {b : Addr}, [b1, b2, b3, b4][f]? = some b → f < 4 ∧ ∃ as, H b = some (.lst (as.map V.ref)) ∧ XIs H as (((kNames.drop (offs f)).take (lens f)).map (ga K))
  | 0, b, e => by
    cases e
    exact ⟨by omega, as1, E.h1, xis_of E.r1⟩
  | 1, b, e => by
    cases e
    exact ⟨by omega, as2, E.h2, xis_of E.r2⟩
  | 2, b, e => by
    cases e
    exact ⟨by omega, as3 ++ zs, E.h3, paired_app (xis_of E.r3) (xis_bare E.r5)⟩
  | 3, b, e => by
    cases e
    exact ⟨by omega, [a4], E.h4, .cons (.inr ⟨_, E.r4⟩) .nil⟩
  | f + 4, b, e => by simp at e
theorem Every.four {K : PySem.W.Frag} {H : Hp} {y : V} {b1 b2 b3 b4 a4 : Addr} {as1 as2 as3 zs : List Addr} (E : Every K H y b1 b2 b3 b4 as1 as2 as3 zs a4) : Paired (fun b n => ∃ xs, H b = some (.lst xs) ∧ xs.length = n) [b1, b2, b3, b4] [27, 2, 12, 1] := by
  refine .cons ⟨_, E.h1, ?_⟩ (.cons ⟨_, E.h2, ?_⟩ (.cons ⟨_, E.h3, ?_⟩ (.cons ⟨_, E.h4, rfl⟩ .nil)))
  · rw [List.length_map, paired_len E.r1]
    rfl
  · rw [List.length_map, paired_len E.r2]
    rfl
  · rw [List.length_map, List.length_append, paired_len E.r3, paired_len E.r5]
    rfl
section
variable {P : Program} {w : World} {K : PySem.W.Frag} {mg : Str → Option Value} {base : Heap}
theorem cd_kinds_right (F : At K mg "_law_kinds_right" s_law_kinds_right) (T : BI mg) (KD : Kinds K) (c__law_thing : Cd P w K mg base 3 "_law_thing" ["_law_pot_here"] (spThing K)) (c__law_every : Cd P w K mg base 4 "_law_every" ["_law_thing_here"] (spEvery K))
    (c__law_of_boxes : Cd P w K mg base 1 "_law_of_boxes" ["_law_e"] (spIs K l_law_of_boxes)) (c__law_of_others : Cd P w K mg base 1 "_law_of_others" ["_law_e"] (spIs K l_law_of_others))
    (c__law_families : Cd P w K mg base 1 "_law_families" ["_law_e"] (spIs K l_law_families)) : Cd P w K mg base 5 "_law_kinds_right" ["_law_pot_here"] spTrue := by
  refine cd_mk F sc_law_kinds_right (fun vs H Q E h => ?_) (fun _ _ _ _ _ _ us hl => match us, hl with | [_], _ => rfl) (fun f cdv A outer s H vs Q E hr hG h => ?_)
  · obtain ⟨p, rfl, _⟩ := h
    rfl
  · obtain ⟨p, rfl, hP, k⟩ := h
    refine ⟨_, (pss_cons (ps_asg (pe_tup (pa_cons (pe_cd c__law_every (hr.mono (by decide)) hG (by rfl) (pa_cons (pe_cd c__law_thing (hr.mono (by decide)) hG (by rfl) (pa_cons (pv 0) pa_nil)) pa_nil)) (pa_cons pe_int pa_nil))) (pg_tup (by rfl) (pgs_cons (pg_name (i := 1) sc_law_kinds_right.nd rfl (Or.inl rfl)) (pgs_cons (pg_name (i := 2) sc_law_kinds_right.nd rfl (Or.inr rfl)) pgs_nil))))
  (pss_cons (ps_if (pt_cmpR (op_neD hr.units) (pe_lc (own := [("_law_part", 4)]) (g := gName 4) (tt := tYes) (by rfl) sc_law_kinds_right.nd (pi_list (pv 1)) (blkOk_by (own := [("_law_part", 4)]) (N := ["_law_pot_here", "_law_every_here", "_law_at", "_law_family", "_law_part", "_law_e", "_law_kinds", "_law_place"]) (sc := defScope s_law_kinds_right) (by decide +kernel)) (fun _ _ _ _ _ => pg_name (i := 4) sc_law_kinds_right.nd rfl (Or.inl rfl)) (fun _ _ _ _ _ => pts_nil) (fun _ _ _ _ _ => (pe_callB (call_lenK (K := K) rfl) (by rfl) T.len PySem.boot_len (pa_cons (pv 4) pa_nil)))) (pe_lst (pa_cons pe_int (pa_cons pe_int (pa_cons pe_int (pa_cons pe_int pa_nil))))) (nomark _)) (pss_one (ps_ret pe_bl)) pss_nil)
  (pss_cons (ps_for PassesOwn.never rfl (pi_enum (by rfl) T.enumerate (pa_cons (pv 1) pa_nil)) (pg_tup (by rfl) (pgs_cons (pg_name (i := 3) sc_law_kinds_right.nd rfl (Or.inr rfl)) (pgs_cons (pg_name (i := 4) sc_law_kinds_right.nd rfl (Or.inl rfl)) pgs_nil))) (pss_one (ps_for PassesOwn.never rfl (pi_list (pv 4)) (pg_name (i := 5) sc_law_kinds_right.nd rfl (Or.inl rfl)) (pss_cons (ps_set (i := 6) sc_law_kinds_right.nd rfl (Or.inl rfl) (pe_op op_cat (pe_cd c__law_of_boxes (hr.mono (by decide)) hG (by rfl) (pa_cons (pv 5) pa_nil)) (pe_cd c__law_of_others (hr.mono (by decide)) hG (by rfl) (pa_cons (pv 5) pa_nil))))
  (pss_cons (ps_if (pt_cmpR (op_neD hr.units) (pv 6) (pe_lc (own := [("_law_place", 7)]) (g := gName 7) (tt := tYes) (by rfl) sc_law_kinds_right.nd (pi_range1 (by rfl) T.range (pa_cons pe_int pa_nil)) (blkOk_by (own := [("_law_place", 7)]) (N := ["_law_pot_here", "_law_every_here", "_law_at", "_law_family", "_law_part", "_law_e", "_law_kinds", "_law_place"]) (sc := defScope s_law_kinds_right) (by decide +kernel)) (fun _ _ _ _ _ => pg_name (i := 7) sc_law_kinds_right.nd rfl (Or.inl rfl)) (fun _ _ _ _ _ => pts_nil) (fun _ _ _ _ _ => (pe_cmpR op_eq (pv 7) (pv 2) (nomark _)))) (nomark _)) (pss_one (ps_ret pe_bl)) pss_nil)
  (pss_cons (ps_if (pt_cmpR (op_neD hr.units) (pe_cd c__law_families (hr.mono (by decide)) hG (by rfl) (pa_cons (pv 5) pa_nil)) (pe_lc (own := [("_law_place", 7)]) (g := gName 7) (tt := tYes) (by rfl) sc_law_kinds_right.nd (pi_range1 (by rfl) T.range (pa_cons pe_int pa_nil)) (blkOk_by (own := [("_law_place", 7)]) (N := ["_law_pot_here", "_law_every_here", "_law_at", "_law_family", "_law_part", "_law_e", "_law_kinds", "_law_place"]) (sc := defScope s_law_kinds_right) (by decide +kernel)) (fun _ _ _ _ _ => pg_name (i := 7) sc_law_kinds_right.nd rfl (Or.inl rfl)) (fun _ _ _ _ _ => pts_nil) (fun _ _ _ _ _ => (pe_cmpR op_eq (pe_op op_mod (pe_callTy call_int1 (by rfl) T.int bt_int (pa_cons (pv 7) pa_nil)) pe_int) (pv 3) (nomark _)))) (nomark _)) (pss_one (ps_ret pe_bl)) pss_nil)
  (pss_one (ps_set (i := 2) sc_law_kinds_right.nd rfl (Or.inr rfl) (pe_op op_add (pv 2) pe_int)))))))))
  (pss_one (ps_ret (pe_cmpR op_eq (pv 2) pe_int (nomark _))))))), ?_⟩
    refine ⟨_, rfl, p, rfl, hP, fun y d H1 st1 D1 hd => ⟨y, rfl, fun q b1 b2 b3 b4 as1 as2 as3 zs a4 H2 n2 s2 e2 E2 => ?_⟩⟩
    refine ⟨by show 2 ≤ sizeLine; decide, fun p0 n0 => ?_⟩
    generalize g0 : upd H2 p0 _ = H0
    have s0 : Same H2 H0 := g0 ▸ same_new n0
    have e0 := g0 ▸ upd_same (H := H2) (a := p0)
    clear g0
    refine ⟨p0, _, rfl, SqT.of e0, rfl, ⟨_, _, rfl, ⟨_, _, rfl, ⟨rfl, ?_⟩⟩⟩⟩
    have E0 := E2.mono s0
    have e20 := s0 _ _ e2
    dsimp only
    refine in_if (in_op ?_)
    refine len_lc (K := K) (bs := [b1, b2, b3, b4]) (by rfl) (SqL.of e20) E0.four (Nat.le_of_ble_eq_true rfl) (fun _ => by rfl) (fun _ => by rfl) fun p3 H3 n3 s3 e3 => ?_
    refine ⟨by show 4 ≤ sizeLine; decide, fun p4 n4 => ?_⟩
    generalize g4 : upd H3 p4 _ = H4
    have s4 : Same H3 H4 := g4 ▸ same_new n4
    have e4 := g4 ▸ upd_same (H := H3) (a := p4)
    clear g4
    refine ne_ints (K := K) (ns := [27, 2, 12, 1]) (s4 _ _ e3) e4 ⟨false, rfl, iteF ?_⟩
    have E4 := E0.mono (s3.trans s4)
    have e24 := (s3.trans s4) _ _ e20
    have st4 := ((st1.same s2).same s0).same (s3.trans s4)
    refine ⟨_, rfl, q, _, rfl, SqL.of e24, ?_⟩
    refine for_it (walk_enum (K := K) (a := q) (xs := [b1, b2, b3, b4].map V.ref)) (fun i σ H' => ∃ a3 a4 a5 a6 a7 : Option V, σ = [some (.ref p), some (.ref q), some (.int (offs i : Nat)), a3, a4, a5, a6, a7] ∧ Same H4 H') ⟨_, _, _, _, _, rfl, Same.refl _⟩
      (fun i σ H' _ z => ?_) (fun i x σ H5 H6 hi z y => ?_) (fun σ H' z => ?_)
    · obtain ⟨_, _, _, _, _, _, S⟩ := z
      exact SqL.of (S _ _ e24)
    · obtain ⟨a3, a5, a6, a7, a8, rfl, S5⟩ := z
      obtain ⟨T6, x1, x2, rfl, n6, rfl, hx1, hx2⟩ := y
      cases hx1
      change ([b1, b2, b3, b4].map V.ref)[i]? = some x2 at hx2
      rw [List.getElem?_map] at hx2
      obtain ⟨b, hb, rfl⟩ := Option.map_eq_some_iff.mp hx2
      generalize g6 : upd H5 T6 _ = H6
      have s6 : Same H5 H6 := g6 ▸ same_new n6
      have e6 := g6 ▸ upd_same (H := H5) (a := T6)
      clear g6
      have S6 := S5.trans s6
      obtain ⟨hf, as, eb, X6⟩ := (E4.mono S6).parts hb
      have hl : as.length = lens i := by
        have q := paired_len X6
        rw [List.length_map, List.length_take, List.length_drop] at q
        have q2 := off_len i hf
        have q3 : kNames.length = 42 := by rfl
        have q4 : offs (i + 1) ≤ 42 := by
          have h42 : ∀ i < 4, offs (i + 1) ≤ 42 := by decide
          exact h42 i hf
        omega
      refine ⟨T6, _, rfl, SqT.of e6, rfl, ⟨_, _, rfl, ⟨_, _, rfl, ⟨rfl, ?_⟩⟩⟩⟩
      refine ⟨_, rfl, b, rfl, ⟨_, SqL.of eb⟩, for_list (K := K) (a := b) (xs := as.map V.ref) (fun j σ H' => ∃ a5 a6 a7 : Option V, σ = [some (.ref p), some (.ref q), some (.int ((offs i + j : Nat) : Int)), some (.int (i : Nat)), some (.ref b), a5, a6, a7] ∧ Same H6 H') ⟨_, _, _, rfl, Same.refl _⟩
        (fun j σ H' _ z => ?_) (fun j x σ H7 hj z => ?_) (fun σ H' z => ?_)⟩
      · obtain ⟨_, _, _, _, S⟩ := z
        exact SqL.of (S _ _ eb)
      · obtain ⟨a5, a6, a7, rfl, S7⟩ := z
        rw [List.getElem?_map] at hj
        obtain ⟨a, ha, rfl⟩ := Option.map_eq_some_iff.mp hj
        obtain ⟨C, hC, hx⟩ := paired_at X6 ha
        rw [List.getElem?_map] at hC
        obtain ⟨nm, hnm, rfl⟩ := Option.map_eq_some_iff.mp hC
        have hjl : j < lens i := by
          have q := (List.getElem?_eq_some_iff.mp ha).1
          omega
        rw [List.getElem?_take, if_pos hjl, List.getElem?_drop] at hnm
        obtain ⟨b', X⟩ := KD.X nm (List.mem_of_getElem? hnm)
        have hfo := fam_off i hf j hjl
        have kit := fun {j' c} (e : (l_law_of_boxes ++ l_law_of_others)[j']? = some c) => KD.kit hnm e
        have kitF := fun {j' c} (e : l_law_families[j']? = some c) => KD.kitF hnm e
        rw [hfo] at kitF
        have hx7 := hx.mono S7
        have hn42 : offs i + j < 42 := by
          have q := (List.getElem?_eq_some_iff.mp hnm).1
          exact q
        generalize hn : offs i + j = n at *
        have g1 : ∀ c ∈ l_law_of_boxes ++ l_law_of_others, kitOne K (.ref (ga K nm)) (c.u K) = some ((kitOne K (.ref (ga K nm)) (c.u K)).getD false) := fun c hc => by
          obtain ⟨j', h'⟩ := List.getElem?_of_mem hc
          rw [kit h']
          rfl
        have g2 : ∀ c ∈ l_law_families, kitOne K (.ref (ga K nm)) (c.u K) = some ((kitOne K (.ref (ga K nm)) (c.u K)).getD false) := fun c hc => by
          obtain ⟨j', h'⟩ := List.getElem?_of_mem hc
          rw [kitF h']
          rfl
        refine in_set (in_op ?_)
        refine ⟨_, rfl, a, _, b', _, rfl, hx7, X, fun c hc => g1 c (List.mem_append_left _ hc), fun p8 H8 n8 s8 e8 => ?_⟩
        refine ⟨_, rfl, a, _, b', _, rfl, hx7.mono s8, X, fun c hc => g1 c (List.mem_append_right _ hc), fun p9 H9 n9 s9 e9 => ?_⟩
        refine ⟨p8, p9, _, _, rfl, rfl, s9 _ _ e8, e9, (by show (27 : Nat) + 15 ≤ sizeLine; decide), fun p10 n10 => ?_⟩
        generalize g10 : upd H9 p10 _ = H10
        have s10 : Same H9 H10 := g10 ▸ same_new n10
        have e10 := g10 ▸ upd_same (H := H9) (a := p10)
        clear g10
        rw [← List.map_append, map_kit (fun j c h => kit h)] at e10
        refine in_if (in_op ?_)
        refine ⟨_, rfl, ?_⟩
        refine rng_lc (n := 42) (fun j' => V.bl (decide (j' = n))) (fun i' H' R hi' r => ?_) (by omega) (fun _ => by rfl) fun p11 H11 n11 s11 e11 => ?_
        · refine ⟨_, rfl, _, rfl, rfl, ?_⟩
          rw [dec_nat]
          exact r
        refine ne_bools (K := K) (bs := (List.range 42).map fun j' => decide (j' = n)) (by rw [List.map_map]; exact s11 _ _ e10) (by rw [List.map_map]; exact e11) ⟨false, rfl, iteF ?_⟩
        have w11 := s8.trans (s9.trans (s10.trans s11))
        refine in_if (in_op ?_)
        refine ⟨_, rfl, a, _, b', _, rfl, hx7.mono w11, X, g2, fun p12 H12 n12 s12 e12 => ?_⟩
        rw [map_kit (fun j c h => kitF h)] at e12
        refine rng_lc (n := 8) (fun j' => V.bl (decide (j' % 4 = i))) (fun i' H' R hi' r => ?_) (by omega) (fun _ => by rfl) fun p13 H13 n13 s13 e13 => ?_
        · refine ⟨_, rfl, .inl ⟨_, rfl, ⟨_, _, rfl, rfl, (by show (0 : Int) < 4; decide), ⟨_, rfl, rfl, ?_⟩⟩⟩⟩
          rw [dec_mod]
          exact r
        refine ne_bools (K := K) (bs := (List.range 8).map fun j' => decide (j' % 4 = i)) (by rw [List.map_map]; exact s13 _ _ e12) (by rw [List.map_map]; exact e13) ⟨false, rfl, iteF ?_⟩
        refine ⟨_, rfl, _, _, rfl, rfl, ?_⟩
        have e : ((n : Nat) : Int) + 1 = ((offs i + (j + 1) : Nat) : Int) := by omega
        rw [← e]
        exact ⟨_, _, _, rfl, S7.trans (w11.trans (s12.trans s13))⟩
      · obtain ⟨_, _, _, rfl, S⟩ := z
        have q := off_len i hf
        have e : offs i + (as.map V.ref).length = offs (i + 1) := by rw [← q.1, List.length_map, hl]
        rw [e]
        exact ⟨_, _, _, _, _, rfl, S6.trans S⟩
    · obtain ⟨_, _, _, _, _, rfl, S⟩ := z
      refine ⟨_, rfl, rfl, ?_⟩
      exact k H' (st4.same S)
end
end K10

/-! ## K10p -/
set_option Elab.async false
set_option linter.all false
set_option maxRecDepth 100000
set_option maxHeartbeats 4000000
namespace K10
open PySem PySem.Spec PyProof.Rows L2 He Vx

section
variable {P : Program} {w : World} {K : PySem.W.Frag} {mg : Str → Option Value} {base : Heap}
theorem cd_is_integer (F : At K mg "is_integer" s_is_integer) (T : BI mg) : CdK P w K mg base 1 "is_integer" "value" (spP K numD) := by
  refine cd_mkK F sc_is_integer (fun vs H Q E h => ?_) (fun _ _ _ _ _ _ us hl => match us, hl with | [_], _ => rfl) (fun _ _ _ _ _ _ _ => rfl) (fun f cdv A outer s H vs Q E hr hG h => ?_)
  · obtain ⟨x, d, rfl, _⟩ := h
    rfl
  · obtain ⟨x, d, rfl, hd, ok, k⟩ := h
    refine ⟨_, (pss_one (ps_ret (pe_and (pe_callB (call_isD (K := K) rfl) (by rfl) T.isinstance bt_isinstance (pa_cons (pv 0) (pa_cons (pe_bltn (v := .ty "int") (by rfl) T.int bt_int rfl) pa_nil))) (pe_one (pe_not (pe_callB (call_isD (K := K) rfl) (by rfl) T.isinstance bt_isinstance (pa_cons (pv 0) (pa_cons (pe_bltn (v := .ty "bool") (by rfl) T.bool bt_bool rfl) pa_nil)))))))), ?_⟩
    refine ⟨_, rfl, x, d, _, rfl, hd, by decide, _, rfl, ?_⟩
    rw [isI]
    have k' := k H (Same.refl H)
    cases e : numD d || boolD d with
    | false =>
      refine iteF ?_
      rw [show numD d = false by cases d <;> first | rfl | cases e] at k'
      exact k'
    | true =>
      refine iteT ⟨_, rfl, x, d, _, rfl, hd, by decide, _, rfl, ?_⟩
      rw [isBo]
      rw [show numD d = !boolD d by cases d <;> first | rfl | cases e] at k'
      exact k'
theorem cd_is_count (F : At K mg "is_count" s_is_count) (T : BI mg) (c_is_integer : Cd P w K mg base 1 "is_integer" ["value"] (spP K numD)) : CdK P w K mg base 2 "is_count" "value" (spP K cntD) := by
  refine cd_mkK F sc_is_count (fun vs H Q E h => ?_) (fun _ _ _ _ _ _ us hl => match us, hl with | [_], _ => rfl) (fun _ _ _ _ _ _ _ => rfl) (fun f cdv A outer s H vs Q E hr hG h => ?_)
  · obtain ⟨x, d, rfl, _⟩ := h
    rfl
  · obtain ⟨x, d, rfl, hd, ok, k⟩ := h
    refine ⟨_, (pss_one (ps_ret (pe_and (pe_cd c_is_integer (hr.mono (by decide)) hG (by rfl) (pa_cons (pv 0) pa_nil)) (pe_one (pe_cmpR op_ge (pv 0) pe_int (nomark _)))))), ?_⟩
    refine ⟨_, rfl, x, d, rfl, hd, ok, fun H1 s1 => ⟨_, rfl, ?_⟩⟩
    have k' := k H1 s1
    cases hd with
    | int i => exact iteT ⟨_, rfl, _, _, rfl, rfl, k'⟩
    | non => exact iteF k'
    | bl _ => exact iteF k'
    | str _ => exact iteF k'
    | lst _ _ => exact iteF k'
    | tup _ _ => exact iteF k'
    | dK _ _ => exact iteF k'
    | dT _ _ => exact iteF k'
theorem cd_is_list (F : At K mg "is_list" s_is_list) (T : BI mg) : Cd P w K mg base 1 "is_list" ["value"] (spP K seqD) := by
  refine cd_mk F sc_is_list (fun vs H Q E h => ?_) (fun _ _ _ _ _ _ us hl => match us, hl with | [_], _ => rfl) (fun f cdv A outer s H vs Q E hr hG h => ?_)
  · obtain ⟨x, d, rfl, _⟩ := h
    rfl
  · obtain ⟨x, d, rfl, hd, ok, k⟩ := h
    refine ⟨_, (pss_one (ps_ret (pe_callB (call_isDT (K := K) rfl) (by rfl) T.isinstance bt_isinstance (pa_cons (pv 0) (pa_cons (pe_tup (pa_cons (pe_bltn (v := .ty "list") (by rfl) T.list bt_list rfl) (pa_cons (pe_bltn (v := .ty "tuple") (by rfl) T.tuple bt_tuple rfl) pa_nil))) pa_nil))))), ?_⟩
    refine ⟨_, rfl, by show 2 ≤ sizeLine; decide, fun p1 n1 => ?_⟩
    generalize g1 : upd H p1 _ = H1
    have s1 : Same H H1 := g1 ▸ same_new n1
    have e1 := g1 ▸ upd_same (H := H) (a := p1)
    clear g1
    refine ⟨x, d, p1, rfl, e1, hd.mono s1, ?_⟩
    rw [isLT]
    exact k H1 s1
theorem cd_is_name (F : At K mg "is_name" s_is_name) (T : BI mg) : CdK P w K mg base 1 "is_name" "value" (spP K nameD) := by
  refine cd_mkK F sc_is_name (fun vs H Q E h => ?_) (fun _ _ _ _ _ _ us hl => match us, hl with | [_], _ => rfl) (fun _ _ _ _ _ _ _ => rfl) (fun f cdv A outer s H vs Q E hr hG h => ?_)
  · obtain ⟨x, d, rfl, _⟩ := h
    rfl
  · obtain ⟨x, d, rfl, hd, ok, k⟩ := h
    refine ⟨_, (pss_cons (ps_if (PW.pt (pw_or (pt_not (pt_val (pe_callB (call_isD (K := K) rfl) (by rfl) T.isinstance bt_isinstance (pa_cons (pv 0) (pa_cons (pe_bltn (v := .ty "str") (by rfl) T.str bt_str rfl) pa_nil))))) (pw_or1 (pt_not (pt_chain op_le op_le pe_int (pe_callB call_len_str (by rfl) T.len PySem.boot_len (pa_cons (pv 0) pa_nil)) pe_int))))) (pss_one (ps_ret pe_bl)) pss_nil)
  (pss_one (ps_ret (pe_and (pe_bm0 PySem.F.plainAttrs_str PySem.F.slot_str_isascii PySem.F.type_str_isascii mt_isascii (pv 0)) (pe_and (pe_bm0 PySem.F.plainAttrs_str PySem.F.slot_str_isalpha PySem.F.type_str_isalpha mt_isalpha (pv 0)) (pe_one (pe_bm0 PySem.F.plainAttrs_str PySem.F.slot_str_islower PySem.F.type_str_islower mt_islower (pv 0)))))))), ?_⟩
    have k' := k H (Same.refl H)
    refine ⟨_, rfl, x, d, _, rfl, hd, by decide, _, rfl, ?_⟩
    rw [isS]
    cases hd with
    | int i => exact iteT (iteT k')
    | non => exact iteT (iteT k')
    | bl _ => exact iteT (iteT k')
    | lst _ _ => exact iteT (iteT k')
    | tup _ _ => exact iteT (iteT k')
    | dK _ _ => exact iteT (iteT k')
    | dT _ _ => exact iteT (iteT k')
    | str z =>
      have hz : z.length ≤ sizeLine := Nat.le_trans (okStr ok) (by show 100 ≤ sizeLine; decide)
      refine iteF ⟨_, rfl, z, rfl, hz, _, _, rfl, rfl, _, rfl, ?_⟩
      have k2 : Q (.bl (nm z)) H := k'
      unfold nm at k2
      by_cases h1 : 1 ≤ z.length
      · rw [decide_eq_true h1, Bool.true_and] at k2
        rw [decide_eq_true (show (1 : Int) ≤ (z.length : Int) by omega)]
        refine iteT ⟨_, _, rfl, rfl, _, rfl, ?_⟩
        by_cases h2 : z.length ≤ 8
        · rw [decide_eq_true h2, Bool.true_and, ← name_eq h1] at k2
          rw [decide_eq_true (show (z.length : Int) ≤ (8 : Int) by omega)]
          refine iteF ⟨_, rfl, rfl, z, rfl, rfl, trivial, _, rfl, ?_⟩
          cases e1 : Txt.isascii z with
          | false =>
            rw [e1] at k2
            exact iteF k2
          | true =>
            rw [e1, Bool.true_and] at k2
            refine iteT ⟨_, rfl, rfl, z, rfl, rfl, trivial, _, rfl, ?_⟩
            cases e2 : Txt.isalpha z with
            | false =>
              rw [e2] at k2
              exact iteF k2
            | true =>
              rw [e2, Bool.true_and] at k2
              exact iteT ⟨_, rfl, rfl, z, rfl, rfl, trivial, k2⟩
        · rw [decide_eq_false h2, Bool.false_and] at k2
          rw [decide_eq_false (show ¬ (z.length : Int) ≤ (8 : Int) by omega)]
          exact iteT k2
      · rw [decide_eq_false h1, Bool.false_and] at k2
        rw [decide_eq_false (show ¬ (1 : Int) ≤ (z.length : Int) by omega)]
        exact iteF ⟨false, rfl, iteT k2⟩
theorem two_of {α : Type} : ∀ {xs : List α}, xs.length = 2 → ∃ a b, xs = [a, b]
  | [a, b], _ => ⟨a, b, rfl⟩
theorem pairL_len {ds : List PyData} (h : ds.length ≠ 2) : pairL ds = false := by
  match ds, h with
  | [], _ => rfl
  | [_], _ => rfl
  | [_, _], h => exact absurd rfl h
  | _ :: _ :: _ :: _, _ => rfl
theorem cd_is_sign (F : At K mg "is_sign" s_is_sign) (T : BI mg) (c_is_name : Cd P w K mg base 1 "is_name" ["value"] (spP K nameD)) : CdK P w K mg base 2 "is_sign" "value" (spP K pairD) := by
  refine cd_mkK F sc_is_sign (fun vs H Q E h => ?_) (fun _ _ _ _ _ _ us hl => match us, hl with | [_], _ => rfl) (fun _ _ _ _ _ _ _ => rfl) (fun f cdv A outer s H vs Q E hr hG h => ?_)
  · obtain ⟨x, d, rfl, _⟩ := h
    rfl
  · obtain ⟨x, d, rfl, hd, ok, k⟩ := h
    refine ⟨_, (pss_one (ps_ret (pe_and (pe_callB (call_isD (K := K) rfl) (by rfl) T.isinstance bt_isinstance (pa_cons (pv 0) (pa_cons (pe_bltn (v := .ty "tuple") (by rfl) T.tuple bt_tuple rfl) pa_nil))) (pe_and (pe_cmpR op_eq (pe_callB call_len_seq (by rfl) T.len PySem.boot_len (pa_cons (pv 0) pa_nil)) pe_int (nomark _)) (pe_and (pe_cd c_is_name (hr.mono (by decide)) hG (by rfl) (pa_cons (pe_ix ix_tup (pv 0) pe_int (fun _ _ => rfl)) pa_nil)) (pe_one (pe_cd c_is_name (hr.mono (by decide)) hG (by rfl) (pa_cons (pe_ix ix_tup (pv 0) pe_int (fun _ _ => rfl)) pa_nil)))))))), ?_⟩
    have k' := k H (Same.refl H)
    refine ⟨_, rfl, x, d, _, rfl, hd, by decide, _, rfl, ?_⟩
    rw [isTu]
    cases hd with
    | int i => exact iteF k'
    | non => exact iteF k'
    | bl _ => exact iteF k'
    | str _ => exact iteF k'
    | lst _ _ => exact iteF k'
    | dK _ _ => exact iteF k'
    | dT _ _ => exact iteF k'
    | @tup a xs ds hp r =>
      refine iteT ⟨_, rfl, a, xs, rfl, .inr hp, rfl, _, rfl, ?_⟩
      rw [dec_int]
      by_cases h2 : xs.length = 2
      · obtain ⟨x1, x2, rfl⟩ := two_of h2
        cases r with
        | cons r1 r =>
          cases r with
          | cons r2 r =>
            cases r
            rename_i d1 d2
            have ok1 : okD d1 = true := okAll_at (i := 0) (okTup ok).2 rfl
            have ok2 : okD d2 = true := okAll_at (i := 1) (okTup ok).2 rfl
            refine iteT ⟨_, rfl, ⟨a, _, 0, x1, rfl, rfl, hp, rfl, x1, d1, rfl, r1, ok1, fun H1 s1 => ⟨_, rfl, ?_⟩⟩⟩
            have k1 : ∀ H2, Same H1 H2 → Q (.bl (nameD d1 && nameD d2)) H2 := fun H2 s2 => k H2 (s1.trans s2)
            cases e : nameD d1 with
            | false =>
              refine iteF ?_
              rw [e] at k1
              exact k1 H1 (Same.refl _)
            | true =>
              rw [e, Bool.true_and] at k1
              exact iteT ⟨_, rfl, ⟨a, _, 1, x2, rfl, rfl, seqT s1 hp, rfl, x2, d2, rfl, r2.mono s1, ok2, k1⟩⟩
      · have e : pairL ds = false := pairL_len (by rw [← r.len]; exact h2)
        have k2 : Q (.bl (pairL ds)) H := k'
        rw [e] at k2
        rw [show ((xs.length : Int) == 2) = false by rw [beq_eq_false_iff_ne]; omega]
        exact iteF k2
theorem cd_is_row (F : At K mg "is_row" s_is_row) (T : BI mg) (c_is_list : Cd P w K mg base 1 "is_list" ["value"] (spP K seqD)) (c_is_sign : Cd P w K mg base 2 "is_sign" ["value"] (spP K pairD)) :
    CdK P w K mg base 3 "is_row" "value" (spP K rowD) := by
  refine cd_mkK F sc_is_row (fun vs H Q E h => ?_) (fun _ _ _ _ _ _ us hl => match us, hl with | [_], _ => rfl) (fun _ _ _ _ _ _ _ => rfl) (fun f cdv A outer s H vs Q E hr hG h => ?_)
  · obtain ⟨x, d, rfl, _⟩ := h
    rfl
  · obtain ⟨x, d, rfl, hd, ok, k⟩ := h
    cases hd with
    | int i => exact ⟨_, (pss_one (ps_ret (pe_and (pe_cd c_is_list (hr.mono (by decide)) hG (by rfl) (pa_cons (pv 0) pa_nil)) (pe_one (pe_callB (cr_all rfl) (by rfl) T.all bt_all (pa_cons (pe_lc (own := [("sign", 1)]) (g := gName 1) (tt := tYes) (by rfl) sc_is_row.nd (pi_list (pv 0)) (blkOk_by (own := [("sign", 1)]) (N := ["value", "sign"]) (sc := defScope s_is_row) (by decide +kernel)) (fun _ _ _ _ _ => pg_name (i := 1) sc_is_row.nd rfl (Or.inl rfl)) (fun _ _ _ _ _ => pts_nil) (fun _ _ _ _ _ => (pe_cd c_is_sign (hr.mono (by decide)) hG (by rfl) (pa_cons (pv 1) pa_nil)))) pa_nil)))))), ⟨_, rfl, _, _, rfl, .int i, ok, fun H1 s1 => ⟨_, rfl, iteF (k H1 s1)⟩⟩⟩
    | non => exact ⟨_, (pss_one (ps_ret (pe_and (pe_cd c_is_list (hr.mono (by decide)) hG (by rfl) (pa_cons (pv 0) pa_nil)) (pe_one (pe_callB (cr_all rfl) (by rfl) T.all bt_all (pa_cons (pe_lc (own := [("sign", 1)]) (g := gName 1) (tt := tYes) (by rfl) sc_is_row.nd (pi_list (pv 0)) (blkOk_by (own := [("sign", 1)]) (N := ["value", "sign"]) (sc := defScope s_is_row) (by decide +kernel)) (fun _ _ _ _ _ => pg_name (i := 1) sc_is_row.nd rfl (Or.inl rfl)) (fun _ _ _ _ _ => pts_nil) (fun _ _ _ _ _ => (pe_cd c_is_sign (hr.mono (by decide)) hG (by rfl) (pa_cons (pv 1) pa_nil)))) pa_nil)))))), ⟨_, rfl, _, _, rfl, .non, ok, fun H1 s1 => ⟨_, rfl, iteF (k H1 s1)⟩⟩⟩
    | bl b => exact ⟨_, (pss_one (ps_ret (pe_and (pe_cd c_is_list (hr.mono (by decide)) hG (by rfl) (pa_cons (pv 0) pa_nil)) (pe_one (pe_callB (cr_all rfl) (by rfl) T.all bt_all (pa_cons (pe_lc (own := [("sign", 1)]) (g := gName 1) (tt := tYes) (by rfl) sc_is_row.nd (pi_list (pv 0)) (blkOk_by (own := [("sign", 1)]) (N := ["value", "sign"]) (sc := defScope s_is_row) (by decide +kernel)) (fun _ _ _ _ _ => pg_name (i := 1) sc_is_row.nd rfl (Or.inl rfl)) (fun _ _ _ _ _ => pts_nil) (fun _ _ _ _ _ => (pe_cd c_is_sign (hr.mono (by decide)) hG (by rfl) (pa_cons (pv 1) pa_nil)))) pa_nil)))))), ⟨_, rfl, _, _, rfl, .bl b, ok, fun H1 s1 => ⟨_, rfl, iteF (k H1 s1)⟩⟩⟩
    | str z => exact ⟨_, (pss_one (ps_ret (pe_and (pe_cd c_is_list (hr.mono (by decide)) hG (by rfl) (pa_cons (pv 0) pa_nil)) (pe_one (pe_callB (cr_all rfl) (by rfl) T.all bt_all (pa_cons (pe_lc (own := [("sign", 1)]) (g := gName 1) (tt := tYes) (by rfl) sc_is_row.nd (pi_list (pv 0)) (blkOk_by (own := [("sign", 1)]) (N := ["value", "sign"]) (sc := defScope s_is_row) (by decide +kernel)) (fun _ _ _ _ _ => pg_name (i := 1) sc_is_row.nd rfl (Or.inl rfl)) (fun _ _ _ _ _ => pts_nil) (fun _ _ _ _ _ => (pe_cd c_is_sign (hr.mono (by decide)) hG (by rfl) (pa_cons (pv 1) pa_nil)))) pa_nil)))))), ⟨_, rfl, _, _, rfl, .str z, ok, fun H1 s1 => ⟨_, rfl, iteF (k H1 s1)⟩⟩⟩
    | dK e r => exact ⟨_, (pss_one (ps_ret (pe_and (pe_cd c_is_list (hr.mono (by decide)) hG (by rfl) (pa_cons (pv 0) pa_nil)) (pe_one (pe_callB (cr_all rfl) (by rfl) T.all bt_all (pa_cons (pe_lc (own := [("sign", 1)]) (g := gName 1) (tt := tYes) (by rfl) sc_is_row.nd (pi_list (pv 0)) (blkOk_by (own := [("sign", 1)]) (N := ["value", "sign"]) (sc := defScope s_is_row) (by decide +kernel)) (fun _ _ _ _ _ => pg_name (i := 1) sc_is_row.nd rfl (Or.inl rfl)) (fun _ _ _ _ _ => pts_nil) (fun _ _ _ _ _ => (pe_cd c_is_sign (hr.mono (by decide)) hG (by rfl) (pa_cons (pv 1) pa_nil)))) pa_nil)))))), ⟨_, rfl, _, _, rfl, .dK e r, ok, fun H1 s1 => ⟨_, rfl, iteF (k H1 s1)⟩⟩⟩
    | dT e r => exact ⟨_, (pss_one (ps_ret (pe_and (pe_cd c_is_list (hr.mono (by decide)) hG (by rfl) (pa_cons (pv 0) pa_nil)) (pe_one (pe_callB (cr_all rfl) (by rfl) T.all bt_all (pa_cons (pe_lc (own := [("sign", 1)]) (g := gName 1) (tt := tYes) (by rfl) sc_is_row.nd (pi_list (pv 0)) (blkOk_by (own := [("sign", 1)]) (N := ["value", "sign"]) (sc := defScope s_is_row) (by decide +kernel)) (fun _ _ _ _ _ => pg_name (i := 1) sc_is_row.nd rfl (Or.inl rfl)) (fun _ _ _ _ _ => pts_nil) (fun _ _ _ _ _ => (pe_cd c_is_sign (hr.mono (by decide)) hG (by rfl) (pa_cons (pv 1) pa_nil)))) pa_nil)))))), ⟨_, rfl, _, _, rfl, .dT e r, ok, fun H1 s1 => ⟨_, rfl, iteF (k H1 s1)⟩⟩⟩
    | @lst a xs ds hp r =>
      refine ⟨_, (pss_one (ps_ret (pe_and (pe_cd c_is_list (hr.mono (by decide)) hG (by rfl) (pa_cons (pv 0) pa_nil)) (pe_one (pe_callB (cr_all rfl) (by rfl) T.all bt_all (pa_cons (pe_lc (own := [("sign", 1)]) (g := gName 1) (tt := tYes) (by rfl) sc_is_row.nd (pi_list (pv 0)) (blkOk_by (own := [("sign", 1)]) (N := ["value", "sign"]) (sc := defScope s_is_row) (by decide +kernel)) (fun _ _ _ _ _ => pg_name (i := 1) sc_is_row.nd rfl (Or.inl rfl)) (fun _ _ _ _ _ => pts_nil) (fun _ _ _ _ _ => (pe_cd c_is_sign (hr.mono (by decide)) hG (by rfl) (pa_cons (pv 1) pa_nil)))) pa_nil)))))), ⟨_, rfl, _, _, rfl, .lst hp r, ok, fun H1 s1 => ⟨_, rfl, iteT ?_⟩⟩⟩
      refine in_cb (in_cons ?_)
      refine da_lcL (K := K) pairD (fun R q => ⟨_, rfl, q⟩) (s1.seq hp) (r.mono s1) (okLst ok).2 (okLst ok).1 (fun v d H2 R hv hd q => ⟨v, rfl, v, d, rfl, hv, hd, q⟩) (fun _ => by rfl) fun D H2 n2 s2 e2 => ?_
      refine ⟨D, _, rfl, SqL.of e2, ?_⟩
      rw [all_map]
      exact k H2 (s1.trans s2)
    | @tup a xs ds hp r =>
      refine ⟨_, (pss_one (ps_ret (pe_and (pe_cd c_is_list (hr.mono (by decide)) hG (by rfl) (pa_cons (pv 0) pa_nil)) (pe_one (pe_callB (cr_all rfl) (by rfl) T.all bt_all (pa_cons (pe_lc (own := [("sign", 1)]) (g := gName 1) (tt := tYes) (by rfl) sc_is_row.nd (pi_tup (pv 0)) (blkOk_by (own := [("sign", 1)]) (N := ["value", "sign"]) (sc := defScope s_is_row) (by decide +kernel)) (fun _ _ _ _ _ => pg_name (i := 1) sc_is_row.nd rfl (Or.inl rfl)) (fun _ _ _ _ _ => pts_nil) (fun _ _ _ _ _ => (pe_cd c_is_sign (hr.mono (by decide)) hG (by rfl) (pa_cons (pv 1) pa_nil)))) pa_nil)))))), ⟨_, rfl, _, _, rfl, .tup hp r, ok, fun H1 s1 => ⟨_, rfl, iteT ?_⟩⟩⟩
      refine in_cb (in_cons ?_)
      refine da_lcT (K := K) pairD (fun R q => ⟨_, rfl, q⟩) (seqT s1 hp) (r.mono s1) (okTup ok).2 (okTup ok).1 (fun v d H2 R hv hd q => ⟨v, rfl, v, d, rfl, hv, hd, q⟩) (fun _ => by rfl) fun D H2 n2 s2 e2 => ?_
      refine ⟨D, _, rfl, SqL.of e2, ?_⟩
      rw [all_map]
      exact k H2 (s1.trans s2)
end
end K10

/-! ## K10q -/
set_option Elab.async false
set_option linter.all false
set_option maxRecDepth 100000
set_option maxHeartbeats 4000000
namespace K10
open PySem PySem.Spec PyProof.Rows L2 He Vx

section
variable {P : Program} {w : World} {K : PySem.W.Frag} {mg : Str → Option Value} {base : Heap}
theorem cd_is_number (F : At K mg "_law_is_number" s_law_is_number) (T : BI mg) : Cd P w K mg base 1 "_law_is_number" ["_law_thing_here"] (spP K numD) := by
  refine cd_mk F sc_law_is_number (fun vs H Q E h => ?_) (fun _ _ _ _ _ _ us hl => match us, hl with | [_], _ => rfl) (fun f cdv A outer s H vs Q E hr hG h => ?_)
  · obtain ⟨x, d, rfl, _⟩ := h
    rfl
  · obtain ⟨x, d, rfl, hd, ok, k⟩ := h
    have k' := k H (Same.refl H)
    cases hd with
    | int i =>
      refine ⟨_, (pss_one (ps_ret (pe_and (pe_callB (call_isD (K := K) rfl) (by rfl) T.isinstance bt_isinstance (pa_cons (pv 0) (pa_cons (pe_bltn (v := .ty "int") (by rfl) T.int bt_int rfl) pa_nil))) (pe_and (pe_cmpR op_isnot_int (pv 0) pe_bl (nomark _)) (pe_one (pe_cmpR op_isnot_int (pv 0) pe_bl (nomark _))))))), ⟨_, rfl, _, _, _, rfl, .int i, by decide, _, rfl, ?_⟩⟩
      rw [isI]
      exact iteT ⟨_, rfl, i, true, rfl, rfl, _, rfl, iteT ⟨_, rfl, i, false, rfl, rfl, k'⟩⟩
    | bl b =>
      refine ⟨_, (pss_one (ps_ret (pe_and (pe_callB (call_isD (K := K) rfl) (by rfl) T.isinstance bt_isinstance (pa_cons (pv 0) (pa_cons (pe_bltn (v := .ty "int") (by rfl) T.int bt_int rfl) pa_nil))) (pe_and (pe_cmpR op_isnot_bl (pv 0) pe_bl (nomark _)) (pe_one (pe_cmpR op_isnot_bl (pv 0) pe_bl (nomark _))))))), ⟨_, rfl, _, _, _, rfl, .bl b, by decide, _, rfl, ?_⟩⟩
      rw [isI]
      refine iteT ⟨_, rfl, b, true, rfl, rfl, _, rfl, ?_⟩
      cases b with
      | true => exact iteF k'
      | false => exact iteT ⟨_, rfl, false, false, rfl, rfl, k'⟩
    | non => exact ⟨_, (pss_one (ps_ret (pe_and (pe_callB (call_isD (K := K) rfl) (by rfl) T.isinstance bt_isinstance (pa_cons (pv 0) (pa_cons (pe_bltn (v := .ty "int") (by rfl) T.int bt_int rfl) pa_nil))) (pe_and (pe_cmpR op_isnot_bl (pv 0) pe_bl (nomark _)) (pe_one (pe_cmpR op_isnot_bl (pv 0) pe_bl (nomark _))))))), ⟨_, rfl, _, _, _, rfl, .non, by decide, _, rfl, by rw [isI]; exact iteF k'⟩⟩
    | str z => exact ⟨_, (pss_one (ps_ret (pe_and (pe_callB (call_isD (K := K) rfl) (by rfl) T.isinstance bt_isinstance (pa_cons (pv 0) (pa_cons (pe_bltn (v := .ty "int") (by rfl) T.int bt_int rfl) pa_nil))) (pe_and (pe_cmpR op_isnot_bl (pv 0) pe_bl (nomark _)) (pe_one (pe_cmpR op_isnot_bl (pv 0) pe_bl (nomark _))))))), ⟨_, rfl, _, _, _, rfl, .str z, by decide, _, rfl, by rw [isI]; exact iteF k'⟩⟩
    | lst e r => exact ⟨_, (pss_one (ps_ret (pe_and (pe_callB (call_isD (K := K) rfl) (by rfl) T.isinstance bt_isinstance (pa_cons (pv 0) (pa_cons (pe_bltn (v := .ty "int") (by rfl) T.int bt_int rfl) pa_nil))) (pe_and (pe_cmpR op_isnot_bl (pv 0) pe_bl (nomark _)) (pe_one (pe_cmpR op_isnot_bl (pv 0) pe_bl (nomark _))))))), ⟨_, rfl, _, _, _, rfl, .lst e r, by decide, _, rfl, by rw [isI]; exact iteF k'⟩⟩
    | tup e r => exact ⟨_, (pss_one (ps_ret (pe_and (pe_callB (call_isD (K := K) rfl) (by rfl) T.isinstance bt_isinstance (pa_cons (pv 0) (pa_cons (pe_bltn (v := .ty "int") (by rfl) T.int bt_int rfl) pa_nil))) (pe_and (pe_cmpR op_isnot_bl (pv 0) pe_bl (nomark _)) (pe_one (pe_cmpR op_isnot_bl (pv 0) pe_bl (nomark _))))))), ⟨_, rfl, _, _, _, rfl, .tup e r, by decide, _, rfl, by rw [isI]; exact iteF k'⟩⟩
    | dK e r => exact ⟨_, (pss_one (ps_ret (pe_and (pe_callB (call_isD (K := K) rfl) (by rfl) T.isinstance bt_isinstance (pa_cons (pv 0) (pa_cons (pe_bltn (v := .ty "int") (by rfl) T.int bt_int rfl) pa_nil))) (pe_and (pe_cmpR op_isnot_bl (pv 0) pe_bl (nomark _)) (pe_one (pe_cmpR op_isnot_bl (pv 0) pe_bl (nomark _))))))), ⟨_, rfl, _, _, _, rfl, .dK e r, by decide, _, rfl, by rw [isI]; exact iteF k'⟩⟩
    | dT e r => exact ⟨_, (pss_one (ps_ret (pe_and (pe_callB (call_isD (K := K) rfl) (by rfl) T.isinstance bt_isinstance (pa_cons (pv 0) (pa_cons (pe_bltn (v := .ty "int") (by rfl) T.int bt_int rfl) pa_nil))) (pe_and (pe_cmpR op_isnot_bl (pv 0) pe_bl (nomark _)) (pe_one (pe_cmpR op_isnot_bl (pv 0) pe_bl (nomark _))))))), ⟨_, rfl, _, _, _, rfl, .dT e r, by decide, _, rfl, by rw [isI]; exact iteF k'⟩⟩
theorem cd_is_word (F : At K mg "_law_is_word" s_law_is_word) (T : BI mg) : Cd P w K mg base 1 "_law_is_word" ["_law_thing_here"] (spP K nameD) := by
  refine cd_mk F sc_law_is_word (fun vs H Q E h => ?_) (fun _ _ _ _ _ _ us hl => match us, hl with | [_], _ => rfl) (fun f cdv A outer s H vs Q E hr hG h => ?_)
  · obtain ⟨x, d, rfl, _⟩ := h
    rfl
  · obtain ⟨x, d, rfl, hd, ok, k⟩ := h
    refine ⟨_, (pss_cons (ps_set (i := 1) sc_law_is_word.nd rfl (Or.inr rfl) pe_str)
  (pss_one (ps_ret (pe_and (pe_callB (call_isD (K := K) rfl) (by rfl) T.isinstance bt_isinstance (pa_cons (pv 0) (pa_cons (pe_bltn (v := .ty "str") (by rfl) T.str bt_str rfl) pa_nil))) (pe_and (pe_chain op_le op_le pe_int (pe_callB call_len_str (by rfl) T.len PySem.boot_len (pa_cons (pv 0) pa_nil)) pe_int) (pe_one (pe_callB (cr_all rfl) (by rfl) T.all bt_all (pa_cons (pe_lc (own := [("_law_sign", 2)]) (g := gName 2) (tt := tYes) (by rfl) sc_law_is_word.nd (pi_str (pv 0)) (blkOk_by (own := [("_law_sign", 2)]) (N := ["_law_thing_here", "_law_small", "_law_sign"]) (sc := defScope s_law_is_word) (by decide +kernel)) (fun _ _ _ _ _ => pg_name (i := 2) sc_law_is_word.nd rfl (Or.inl rfl)) (fun _ _ _ _ _ => pts_nil) (fun _ _ _ _ _ => (pe_cmpR op_in_sign (pv 2) (pv 1) rfl))) pa_nil)))))))), ?_⟩
    have k' := k H (Same.refl H)
    refine ⟨_, rfl, x, d, _, rfl, hd, by decide, _, rfl, ?_⟩
    rw [isS]
    cases hd with
    | int i => exact iteF k'
    | non => exact iteF k'
    | bl _ => exact iteF k'
    | lst _ _ => exact iteF k'
    | tup _ _ => exact iteF k'
    | dK _ _ => exact iteF k'
    | dT _ _ => exact iteF k'
    | str z =>
      have hz : z.length ≤ sizeLine := Nat.le_trans (okStr ok) (by show 100 ≤ sizeLine; decide)
      refine iteT ⟨_, rfl, z, rfl, hz, _, _, rfl, rfl, _, rfl, ?_⟩
      have k2 : ∀ H', Same H H' → Q (.bl (nm z)) H' := k
      unfold nm at k2
      by_cases h1 : 1 ≤ z.length
      · rw [decide_eq_true h1, Bool.true_and] at k2
        rw [decide_eq_true (show (1 : Int) ≤ (z.length : Int) by omega)]
        refine iteT ⟨_, _, rfl, rfl, _, rfl, ?_⟩
        by_cases h2 : z.length ≤ 8
        · rw [decide_eq_true h2, Bool.true_and] at k2
          rw [decide_eq_true (show (z.length : Int) ≤ (8 : Int) by omega)]
          refine iteT (in_cb (in_cons ?_))
          refine str_lc (z := z) (fun c => V.bl (decide (c ∈ small))) (fun R q => ⟨_, rfl, q⟩) (Nat.le_trans (okStr ok) (by omega)) (fun c H1 R q => ⟨_, rfl, _, rfl, c, _, rfl, rfl, q⟩) (fun _ => by rfl) fun D H1 n1 s1 e1 => ?_
          refine ⟨D, z.cps.toList.map fun c => decide (c ∈ small), rfl, SqL.of (by rw [List.map_map]; exact e1), ?_⟩
          have q := k2 H1 s1
          rw [List.all_map]
          exact q
        · rw [decide_eq_false h2, Bool.false_and] at k2
          rw [decide_eq_false (show ¬ (z.length : Int) ≤ (8 : Int) by omega)]
          exact iteF (k2 H (Same.refl _))
      · rw [decide_eq_false h1, Bool.false_and] at k2
        rw [decide_eq_false (show ¬ (1 : Int) ≤ (z.length : Int) by omega)]
        exact iteF ⟨false, rfl, iteF (k2 H (Same.refl _))⟩
theorem cd_is_pair (F : At K mg "_law_is_pair" s_law_is_pair) (T : BI mg) (c__law_is_word : Cd P w K mg base 1 "_law_is_word" ["_law_thing_here"] (spP K nameD)) : Cd P w K mg base 2 "_law_is_pair" ["_law_thing_here"] (spP K pairD) := by
  refine cd_mk F sc_law_is_pair (fun vs H Q E h => ?_) (fun _ _ _ _ _ _ us hl => match us, hl with | [_], _ => rfl) (fun f cdv A outer s H vs Q E hr hG h => ?_)
  · obtain ⟨x, d, rfl, _⟩ := h
    rfl
  · obtain ⟨x, d, rfl, hd, ok, k⟩ := h
    refine ⟨_, (pss_one (ps_ret (pe_and (pe_callB (call_isD (K := K) rfl) (by rfl) T.isinstance bt_isinstance (pa_cons (pv 0) (pa_cons (pe_bltn (v := .ty "tuple") (by rfl) T.tuple bt_tuple rfl) pa_nil))) (pe_and (pe_cmpR op_eq (pe_callB call_len_seq (by rfl) T.len PySem.boot_len (pa_cons (pv 0) pa_nil)) pe_int (nomark _)) (pe_and (pe_cd c__law_is_word (hr.mono (by decide)) hG (by rfl) (pa_cons (pe_ix ix_tup (pv 0) pe_int (fun _ _ => rfl)) pa_nil)) (pe_one (pe_cd c__law_is_word (hr.mono (by decide)) hG (by rfl) (pa_cons (pe_ix ix_tup (pv 0) pe_int (fun _ _ => rfl)) pa_nil)))))))), ?_⟩
    have k' := k H (Same.refl H)
    refine ⟨_, rfl, x, d, _, rfl, hd, by decide, _, rfl, ?_⟩
    rw [isTu]
    cases hd with
    | int i => exact iteF k'
    | non => exact iteF k'
    | bl _ => exact iteF k'
    | str _ => exact iteF k'
    | lst _ _ => exact iteF k'
    | dK _ _ => exact iteF k'
    | dT _ _ => exact iteF k'
    | @tup a xs ds hp r =>
      refine iteT ⟨_, rfl, a, xs, rfl, .inr hp, rfl, _, rfl, ?_⟩
      rw [dec_int]
      by_cases h2 : xs.length = 2
      · obtain ⟨x1, x2, rfl⟩ := two_of h2
        cases r with
        | cons r1 r =>
          cases r with
          | cons r2 r =>
            cases r
            rename_i d1 d2
            have ok1 : okD d1 = true := okAll_at (i := 0) (okTup ok).2 rfl
            have ok2 : okD d2 = true := okAll_at (i := 1) (okTup ok).2 rfl
            refine iteT ⟨_, rfl, ⟨a, _, 0, x1, rfl, rfl, hp, rfl, x1, d1, rfl, r1, ok1, fun H1 s1 => ⟨_, rfl, ?_⟩⟩⟩
            have k1 : ∀ H2, Same H1 H2 → Q (.bl (nameD d1 && nameD d2)) H2 := fun H2 s2 => k H2 (s1.trans s2)
            cases e : nameD d1 with
            | false =>
              refine iteF ?_
              rw [e] at k1
              exact k1 H1 (Same.refl _)
            | true =>
              rw [e, Bool.true_and] at k1
              exact iteT ⟨_, rfl, ⟨a, _, 1, x2, rfl, rfl, seqT s1 hp, rfl, x2, d2, rfl, r2.mono s1, ok2, k1⟩⟩
      · have e : pairL ds = false := pairL_len (by rw [← r.len]; exact h2)
        have k2 : Q (.bl (pairL ds)) H := k'
        rw [e] at k2
        rw [show ((xs.length : Int) == 2) = false by rw [beq_eq_false_iff_ne]; omega]
        exact iteF k2
end
end K10

/-! ## K10w -/
set_option Elab.async false
set_option linter.all false
set_option maxRecDepth 100000
set_option maxHeartbeats 4000000
namespace K10
open PySem PySem.Spec PyProof.Rows L2 He Vx

section
variable {P : Program} {w : World} {K : PySem.W.Frag} {mg : Str → Option Value} {base : Heap}
theorem cd_pickS (F : At K mg "_law_pick" s_law_pick) (T : BI mg) (c__law_draw : Cd P w K mg base 1 "_law_draw" ["_law_pot_here", "_law_many"] spDraw) : Cd P w K mg base 2 "_law_pick" ["_law_pot_here", "_law_menu"] spPickS := by
  refine cd_mk F sc_law_pick (fun vs H Q E h => ?_) (fun _ _ _ _ _ _ us hl => match us, hl with | [_, _], _ => rfl) (fun f cdv A outer s H vs Q E hr hG h => ?_)
  · obtain ⟨p, z, rfl, _⟩ := h
    rfl
  · obtain ⟨p, z, rfl, hP, h1, h2, k⟩ := h
    refine ⟨_, (pss_one (ps_ret (pe_ix ix_str (pv 1) (pe_cd c__law_draw (hr.mono (by decide)) hG (by rfl) (pa_cons (pv 0) (pa_cons (pe_callB call_len_str (by rfl) T.len PySem.boot_len (pa_cons (pv 1) pa_nil)) pa_nil))) (fun _ _ => rfl)))), ?_⟩
    have hz : z.length ≤ sizeLine := Nat.le_of_lt (small1000 h2)
    refine ⟨_, rfl, _, rfl, _, rfl, z, rfl, hz, p, _, rfl, hP, by omega, by omega, fun d H' st d0 d1 => ?_⟩
    have hl : z.cps.toList.length = z.length := Array.length_toList
    obtain ⟨x, hx⟩ : ∃ x, z.cps.toList[d.toNat]? = some x := ⟨z.cps.toList[d.toNat]'(by omega), List.getElem?_eq_getElem _⟩
    refine ⟨z, d, x, rfl, rfl, hz, ?_, k x H' st (List.mem_of_getElem? hx)⟩
    have q := atI_nat hx
    rw [Int.toNat_of_nonneg d0] at q
    exact q
theorem asc_s1 : Asc (Str.ofString "abmz") := by decide +kernel
theorem asc_s2 : Asc (Str.ofString "cgxyz") := by decide +kernel
theorem asc_s3 : Asc (Str.ofString "A_. -0Z~") := by decide +kernel
theorem asc_em : Asc Str.empty := by decide +kernel
theorem len_s1 : (Str.ofString "abmz").length = 4 := by decide +kernel
theorem len_s2 : (Str.ofString "cgxyz").length = 5 := by decide +kernel
theorem len_s3 : (Str.ofString "A_. -0Z~").length = 8 := by decide +kernel
theorem len_em : Str.empty.length = 0 := by decide +kernel
theorem cd_word (F : At K mg "_law_word" s_law_word) (T : BI mg) (c__law_draw : Cd P w K mg base 1 "_law_draw" ["_law_pot_here", "_law_many"] spDraw) (c__law_pick : Cd P w K mg base 2 "_law_pick" ["_law_pot_here", "_law_menu"] spPickS) : Cd P w K mg base 3 "_law_word" ["_law_pot_here"] spWord := by
  refine cd_mk F sc_law_word (fun vs H Q E h => ?_) (fun _ _ _ _ _ _ us hl => match us, hl with | [_], _ => rfl) (fun f cdv A outer s H vs Q E hr hG h => ?_)
  · obtain ⟨p, rfl, _⟩ := h
    rfl
  · obtain ⟨p, rfl, hP, k⟩ := h
    refine ⟨_, (pss_cons (ps_set (i := 1) sc_law_word.nd rfl (Or.inr rfl) (pe_op op_add_str (pe_op op_add_str pe_str (pe_op op_mul01 pe_str (pe_cd c__law_draw (hr.mono (by decide)) hG (by rfl) (pa_cons (pv 0) (pa_cons pe_int pa_nil))))) (pe_op op_mul01 pe_str (pe_callTy call_int1 (by rfl) T.int bt_int (pa_cons (pe_cmpR op_eq (pe_cd c__law_draw (hr.mono (by decide)) hG (by rfl) (pa_cons (pv 0) (pa_cons pe_int pa_nil))) pe_int (nomark _)) pa_nil)))))
  (pss_one (ps_ret (pe_join pe_str (pe_lc (own := [("_law_turn", 2)]) (g := gName 2) (tt := tYes) (by rfl) sc_law_word.nd (pi_range1 (by rfl) T.range (pa_cons (pe_cd c__law_draw (hr.mono (by decide)) hG (by rfl) (pa_cons (pv 0) (pa_cons pe_int pa_nil))) pa_nil)) (blkOk_by (own := [("_law_turn", 2)]) (N := ["_law_pot_here", "_law_signs", "_law_turn"]) (sc := defScope s_law_word) (by decide +kernel)) (fun _ _ _ _ _ => pg_name (i := 2) sc_law_word.nd rfl (Or.inl rfl)) (fun _ _ _ _ _ => pts_nil) (fun _ _ _ _ _ => (pe_cd c__law_pick (hr.mono (by decide)) hG (by rfl) (pa_cons (pv 0) (pa_cons (pv 1) pa_nil))))))))), ?_⟩
    refine in_set (in_op (in_op ?_))
    refine ⟨_, rfl, p, _, rfl, hP, by decide, by decide, fun d H1 st1 d0 d1 => ?_⟩
    obtain ⟨z1, hz1, q1⟩ := mul01 (Str.ofString "cgxyz") (show d = 0 ∨ d = 1 by omega)
    refine q1 _ _ ?_
    have a1 : Asc z1 ∧ z1.length ≤ 5 := by
      rcases hz1 with rfl | rfl
      · exact ⟨asc_em, by rw [len_em]; omega⟩
      · exact ⟨asc_s2, by rw [len_s2]; omega⟩
    have l1 : (Str.ofString "abmz" ++ z1).length = 4 + z1.length := by rw [PySem.Str.length_append, len_s1]
    refine ⟨_, _, rfl, rfl, (by rw [len_s1]; exact Nat.le_of_lt (small1000 (by omega))), ?_⟩
    refine ⟨_, rfl, p, _, rfl, st1.pot, by decide, by decide, fun e H2 st2 e0 e1 => ⟨rfl, ?_⟩⟩
    refine .inr ⟨decide (V.int e = V.int 0), rfl, ?_⟩
    obtain ⟨z2, hz2, q2⟩ := mul01 (Str.ofString "A_. -0Z~") (show (if decide (V.int e = V.int 0) = true then (1 : Int) else 0) = 0 ∨ (if decide (V.int e = V.int 0) = true then (1 : Int) else 0) = 1 by split <;> omega)
    refine q2 _ _ ?_
    have a2 : Asc z2 ∧ z2.length ≤ 8 := by
      rcases hz2 with rfl | rfl
      · exact ⟨asc_em, by rw [len_em]; omega⟩
      · exact ⟨asc_s3, by rw [len_s3]; omega⟩
    have l2 : (Str.ofString "abmz" ++ z1 ++ z2).length = 4 + z1.length + z2.length := by rw [PySem.Str.length_append, l1]
    refine ⟨_, _, rfl, rfl, (by rw [l1]; exact Nat.le_of_lt (small1000 (by omega))), ?_⟩
    have asc := asc_app (asc_app asc_s1 a1.1) a2.1
    generalize Str.ofString "abmz" ++ z1 ++ z2 = sg at *
    have st := st1.trans st2
    -- the word
    refine in_ret ⟨⟨_, rfl⟩, ?_⟩
    refine ⟨_, rfl, p, _, rfl, st2.pot, by decide, by decide, fun n H3 st3 n0 n1 => ⟨n, rfl, by omega, by omega, fun D hD => lc_range (lo := 0) (n := n.toNat)
      (fun i H' => H3 D = none ∧ Stp p H3 H' ∧ ∃ cs : List Nat, cs.length = i ∧ (∀ c ∈ cs, c < 128) ∧ H' D = some (.lst (cs.map fun c => V.str ⟨#[c]⟩))) ⟨hD, stp_new st3.pot hD, [], rfl, (fun _ h => nomatch h), upd_same⟩
      (fun i H' hi z => ⟨by rfl, ?_⟩) fun H' z => ?_⟩⟩
    · obtain ⟨z1, z2, cs, z3, z4, z5⟩ := z
      refine ⟨_, rfl, _, rfl, p, sg, rfl, z2.pot, by omega, by omega, fun c H4 st4 hc => ?_⟩
      have nDp : D ≠ p := st3.pot.new z1
      have e4 : H4 D = some (.lst (cs.map fun c => V.str ⟨#[c]⟩)) := by
        have q := st4.k D _ ((off_ne nDp).trans z5)
        rw [off_ne nDp] at q
        exact q
      refine ⟨_, e4, by rw [List.length_map, z3]; exact small1000 (by omega), z1, ?_, cs ++ [c], by rw [List.length_append, z3]; rfl, fun x hx => ?_, by rw [upd_same, List.map_append]; rfl⟩
      · exact (z2.trans st4).putD z1 nDp
      · rcases List.mem_append.mp hx with h | h
        · exact z4 x h
        · rw [List.mem_singleton.mp h]
          exact asc c hc
    · obtain ⟨z1, z2, cs, z3, z4, z5⟩ := z
      obtain ⟨ja, jl⟩ := asc_join z4
      refine ⟨_, D, cs.map fun c => (⟨#[c]⟩ : Str), rfl, rfl, .inl (SqL.of (by rw [List.map_map]; exact z5)), ?_, k _ _ ((st.trans st3).trans z2) ?_ ja⟩
      · rw [ones_sum, List.length_map, z3]
        show n.toNat + n.toNat * 0 ≤ 16777216
        omega
      · rw [jl]
        omega
end
end K10

/-! ## K10x -/
set_option Elab.async false
set_option linter.all false
set_option maxRecDepth 100000
set_option maxHeartbeats 4000000
namespace K10
open PySem PySem.Spec PyProof.Rows L2 He Vx

section
variable {P : Program} {w : World} {K : PySem.W.Frag} {mg : Str → Option Value} {base : Heap}
theorem cd_things (F : At K mg "_law_things" s_law_things) (T : BI mg) (c__law_draw : Cd P w K mg base 1 "_law_draw" ["_law_pot_here", "_law_many"] spDraw) (c__law_word : Cd P w K mg base 3 "_law_word" ["_law_pot_here"] spWord) : Cd P w K mg base 4 "_law_things" ["_law_pot_here"] (spMenu K) := by
  refine cd_mk F sc_law_things (fun vs H Q E h => ?_) (fun _ _ _ _ _ _ us hl => match us, hl with | [_], _ => rfl) (fun f cdv A outer s H vs Q E hr hG h => ?_)
  · obtain ⟨p, rfl, _⟩ := h
    rfl
  · obtain ⟨p, rfl, hP, k⟩ := h
    refine ⟨_, (pss_cons (ps_par (i := 1) (j := 2) (by rfl) sc_law_things.nd rfl rfl (by decide) rfl rfl (pa_cons (pe_cd c__law_word (hr.mono (by decide)) hG (by rfl) (pa_cons (pv 0) pa_nil)) (pa_cons (pe_cd c__law_word (hr.mono (by decide)) hG (by rfl) (pa_cons (pv 0) pa_nil)) pa_nil)) (by rfl))
  (pss_cons (ps_set (i := 3) sc_law_things.nd rfl (Or.inl rfl) (pe_cd c__law_draw (hr.mono (by decide)) hG (by rfl) (pa_cons (pv 0) (pa_cons (pe_op op_pow pe_int pe_int) pa_nil))))
  (pss_cons (ps_set (i := 4) sc_law_things.nd rfl (Or.inl rfl) (pe_tup (pa_cons (pv 1) (pa_cons (pv 2) pa_nil))))
  (pss_cons (ps_set (i := 5) sc_law_things.nd rfl (Or.inl rfl) (pe_lst (pa_cons (pv 3) (pa_cons (pe_op op_sub pe_int (pv 3)) (pa_cons pe_int (pa_cons pe_int (pa_cons (pe_un un_neg pe_int) (pa_cons pe_bl (pa_cons pe_bl (pa_cons pe_non (pa_cons pe_str (pa_cons pe_str (pa_cons pe_str (pa_cons pe_str (pa_cons pe_str (pa_cons pe_str (pa_cons pe_str (pa_cons pe_str pa_nil))))))))))))))))))
  (pss_cons (ps_set (i := 5) sc_law_things.nd rfl (Or.inl rfl) (pe_op op_cat (pv 5) (pe_lst (pa_cons (pv 1) (pa_cons (pv 4) (pa_cons (pe_lst (pa_cons (pv 1) (pa_cons (pv 2) pa_nil))) (pa_cons (pe_tup (pa_cons (pv 1) pa_nil)) (pa_cons (pe_tup (pa_cons (pv 1) (pa_cons (pv 2) (pa_cons pe_str pa_nil)))) (pa_cons (pe_tup (pa_cons pe_str (pa_cons pe_str pa_nil))) (pa_cons (pe_tup (pa_cons pe_str (pa_cons pe_non pa_nil))) (pa_cons (pe_tup (pa_cons pe_str (pa_cons pe_str pa_nil))) pa_nil)))))))))))
  (pss_cons (ps_set (i := 5) sc_law_things.nd rfl (Or.inl rfl) (pe_op op_cat (pv 5) (pe_lst (pa_cons (pe_tup (pa_cons pe_str (pa_cons (pe_lst (pa_cons pe_str pa_nil)) pa_nil))) (pa_cons (pe_tup (pa_cons pe_bl (pa_cons pe_str pa_nil))) (pa_cons (pe_lst (pa_cons (pv 4) pa_nil)) (pa_cons (pe_tup (pa_cons (pv 4) (pa_cons (pe_tup (pa_cons pe_str (pa_cons pe_str pa_nil))) pa_nil))) (pa_cons (pe_lst (pa_cons (pe_tup (pa_cons pe_str (pa_cons pe_str pa_nil))) (pa_cons (pv 4) pa_nil))) (pa_cons (pe_lst pa_nil) (pa_cons (pe_tup pa_nil) (pa_cons pe_dnewK (pa_cons (pe_lst (pa_cons (pe_lst pa_nil) pa_nil)) pa_nil))))))))))))
  (pss_cons (ps_set (i := 5) sc_law_things.nd rfl (Or.inl rfl) (pe_op op_cat (pv 5) (pe_lst (pa_cons (pe_dispT hr.units (pv 4) (pv 4)) (pa_cons (pe_lst (pa_cons (pe_tup (pa_cons pe_str (pa_cons pe_str pa_nil))) (pa_cons (pe_lst (pa_cons pe_str (pa_cons pe_str pa_nil))) pa_nil))) (pa_cons (pe_lst (pa_cons (pe_tup (pa_cons pe_str (pa_cons pe_str pa_nil))) (pa_cons pe_non pa_nil))) (pa_cons (pe_tup (pa_cons (pe_tup (pa_cons pe_str (pa_cons pe_str pa_nil))) pa_nil)) (pa_cons pe_str (pa_cons (pe_lst (pa_cons pe_non pa_nil)) pa_nil)))))))))
  (pss_one (ps_ret (pe_op op_cat (pv 5) (pe_lst (pa_cons (pe_tup (pa_cons pe_str (pa_cons pe_str pa_nil))) (pa_cons (pe_op op_rep (pe_lst (pa_cons (pe_tup (pa_cons pe_str (pa_cons pe_str pa_nil))) pa_nil)) pe_int) (pa_cons (pe_tup (pa_cons (pe_tup (pa_cons pe_str (pa_cons pe_str pa_nil))) (pa_cons (pe_tup (pa_cons pe_str pa_nil)) pa_nil))) (pa_cons (pe_lst (pa_cons pe_str (pa_cons pe_str pa_nil))) (pa_cons (pe_op op_pow pe_int pe_int) pa_nil)))))))))))))))), ?_⟩
    refine ⟨_, rfl, p, rfl, hP, fun z H1 st1 lz az => ⟨_, rfl, p, rfl, st1.pot, fun y H2 st2 ly ay => ⟨_, _, rfl, ?_⟩⟩⟩
    refine ⟨_, rfl, _, _, rfl, rfl, ⟨by decide, by decide, by decide⟩, p, _, rfl, st2.pot, by decide, by decide, fun g H3 st3 g0 g1 => ?_⟩
    have g1' : g < 10 ^ 30 := g1
    have eg : El K (off p H3) 0 (.int g) := El.int (by omega)
    have hgn : (0 - g).natAbs < 10 ^ 31 := by omega
    have ez : El K (off p H3) 0 (.str z) := El.str az (by omega)
    have ey : El K (off p H3) 0 (.str y) := El.str ay (by omega)
    refine ⟨_, rfl, _, rfl, by show 2 ≤ sizeLine; decide, fun a4 n4 => ?_⟩
    generalize g4 : upd H3 a4 _ = H4
    have s4 : Same H3 H4 := g4 ▸ same_new n4
    have e4 := g4 ▸ upd_same (H := H3) (a := a4)
    clear g4
    have P4 := st3.pot.keep s4
    have ep : El K (off p H4) 1 (.ref a4) := El.tup ((off_ne (st3.pot.new n4)).trans e4) (List.forall_mem_cons.2 ⟨ez.mono (same_off s4), List.forall_mem_cons.2 ⟨ey.mono (same_off s4), fun _ h => nomatch h⟩⟩) (by show 2 ≤ 3; decide)
    have eg := eg.mono (same_off s4)
    have ez := ez.mono (same_off s4)
    have ey := ey.mono (same_off s4)
    try dsimp only
    refine in_set ?_
    refine lst_mk (K := K) P4 (n := 16) ?_ (by decide) fun a5 x5 H5 s5 e5 n5 es5 l5 => ?_
    · repeat' first | exact mkl_nil | refine mkl_cons ?_ ?_ | refine mk_c fun _ => ?_ | exact El.non | exact El.bl _ | exact El.int (by decide) | exact El.str (by decide +kernel) (by decide +kernel) | exact mk_var (by rfl) (by assumption) | exact mk_dnew | exact mk_neg (by decide) | exact mk_sub0 (by rfl) (by assumption) | exact mk_pow ⟨by decide, by decide, by decide⟩ (by decide) | exact mk_dispT (by rfl) (by assumption) (by assumption) (by assumption) (by omega) (by omega) (by assumption) | refine mk_rep3 ?_ | exact mk_lst0 | refine mk_lst1 ?_ | refine mk_lst2 ?_ ?_ | refine mk_lst3 ?_ ?_ ?_ | exact mk_tup0 | refine mk_tup1 ?_ | refine mk_tup2 ?_ ?_ | refine mk_tup3 ?_ ?_ ?_ | refine Mk.up ?_ | refine El.up ?_
    have P5 := P4.keep s5
    have eg := eg.mono (same_off s5)
    have ez := ez.mono (same_off s5)
    have ey := ey.mono (same_off s5)
    have ep := ep.mono (same_off s5)
    have e4 := s5 _ _ e4
    try dsimp only
    refine in_set ?_
    refine cat_mk (K := K) (i := 5) (by rfl) e5 P5 es5 (n := 8) ?_ (by rw [l5]; decide) fun a6 x6 H6 s6 e6 n6 es6 l6 => ?_
    · repeat' first | exact mkl_nil | refine mkl_cons ?_ ?_ | refine mk_c fun _ => ?_ | exact El.non | exact El.bl _ | exact El.int (by decide) | exact El.str (by decide +kernel) (by decide +kernel) | exact mk_var (by rfl) (by assumption) | exact mk_dnew | exact mk_neg (by decide) | exact mk_sub0 (by rfl) (by assumption) | exact mk_pow ⟨by decide, by decide, by decide⟩ (by decide) | exact mk_dispT (by rfl) (by assumption) (by assumption) (by assumption) (by omega) (by omega) (by assumption) | refine mk_rep3 ?_ | exact mk_lst0 | refine mk_lst1 ?_ | refine mk_lst2 ?_ ?_ | refine mk_lst3 ?_ ?_ ?_ | exact mk_tup0 | refine mk_tup1 ?_ | refine mk_tup2 ?_ ?_ | refine mk_tup3 ?_ ?_ ?_ | refine Mk.up ?_ | refine El.up ?_
    have P6 := P5.keep s6
    have eg := eg.mono (same_off s6)
    have ez := ez.mono (same_off s6)
    have ey := ey.mono (same_off s6)
    have ep := ep.mono (same_off s6)
    have e4 := s6 _ _ e4
    rw [l5] at l6
    try dsimp only
    refine in_set ?_
    refine cat_mk (K := K) (i := 5) (by rfl) e6 P6 es6 (n := 9) ?_ (by rw [l6]; decide) fun a7 x7 H7 s7 e7 n7 es7 l7 => ?_
    · repeat' first | exact mkl_nil | refine mkl_cons ?_ ?_ | refine mk_c fun _ => ?_ | exact El.non | exact El.bl _ | exact El.int (by decide) | exact El.str (by decide +kernel) (by decide +kernel) | exact mk_var (by rfl) (by assumption) | exact mk_dnew | exact mk_neg (by decide) | exact mk_sub0 (by rfl) (by assumption) | exact mk_pow ⟨by decide, by decide, by decide⟩ (by decide) | exact mk_dispT (by rfl) (by assumption) (by assumption) (by assumption) (by omega) (by omega) (by assumption) | refine mk_rep3 ?_ | exact mk_lst0 | refine mk_lst1 ?_ | refine mk_lst2 ?_ ?_ | refine mk_lst3 ?_ ?_ ?_ | exact mk_tup0 | refine mk_tup1 ?_ | refine mk_tup2 ?_ ?_ | refine mk_tup3 ?_ ?_ ?_ | refine Mk.up ?_ | refine El.up ?_
    have P7 := P6.keep s7
    have eg := eg.mono (same_off s7)
    have ez := ez.mono (same_off s7)
    have ey := ey.mono (same_off s7)
    have ep := ep.mono (same_off s7)
    have e4 := s7 _ _ e4
    rw [l6] at l7
    try dsimp only
    refine in_set ?_
    refine cat_mk (K := K) (i := 5) (by rfl) e7 P7 es7 (n := 6) ?_ (by rw [l7]; decide) fun a8 x8 H8 s8 e8 n8 es8 l8 => ?_
    · repeat' first | exact mkl_nil | refine mkl_cons ?_ ?_ | refine mk_c fun _ => ?_ | exact El.non | exact El.bl _ | exact El.int (by decide) | exact El.str (by decide +kernel) (by decide +kernel) | exact mk_var (by rfl) (by assumption) | exact mk_dnew | exact mk_neg (by decide) | exact mk_sub0 (by rfl) (by assumption) | exact mk_pow ⟨by decide, by decide, by decide⟩ (by decide) | exact mk_dispT (by rfl) (by assumption) (by assumption) (by assumption) (by omega) (by omega) (by assumption) | refine mk_rep3 ?_ | exact mk_lst0 | refine mk_lst1 ?_ | refine mk_lst2 ?_ ?_ | refine mk_lst3 ?_ ?_ ?_ | exact mk_tup0 | refine mk_tup1 ?_ | refine mk_tup2 ?_ ?_ | refine mk_tup3 ?_ ?_ ?_ | refine Mk.up ?_ | refine El.up ?_
    have P8 := P7.keep s8
    have eg := eg.mono (same_off s8)
    have ez := ez.mono (same_off s8)
    have ey := ey.mono (same_off s8)
    have ep := ep.mono (same_off s8)
    have e4 := s8 _ _ e4
    rw [l7] at l8
    try dsimp only
    refine in_ret ?_
    refine cat_mk (K := K) (i := 5) (by rfl) e8 P8 es8 (n := 5) ?_ (by rw [l8]; decide) fun a9 x9 H9 s9 e9 n9 es9 l9 => ?_
    · repeat' first | exact mkl_nil | refine mkl_cons ?_ ?_ | refine mk_c fun _ => ?_ | exact El.non | exact El.bl _ | exact El.int (by decide) | exact El.str (by decide +kernel) (by decide +kernel) | exact mk_var (by rfl) (by assumption) | exact mk_dnew | exact mk_neg (by decide) | exact mk_sub0 (by rfl) (by assumption) | exact mk_pow ⟨by decide, by decide, by decide⟩ (by decide) | exact mk_dispT (by rfl) (by assumption) (by assumption) (by assumption) (by omega) (by omega) (by assumption) | refine mk_rep3 ?_ | exact mk_lst0 | refine mk_lst1 ?_ | refine mk_lst2 ?_ ?_ | refine mk_lst3 ?_ ?_ ?_ | exact mk_tup0 | refine mk_tup1 ?_ | refine mk_tup2 ?_ ?_ | refine mk_tup3 ?_ ?_ ?_ | refine Mk.up ?_ | refine El.up ?_
    rw [l8] at l9
    exact k a9 x9 H9 ((((st1.trans st2).trans st3).same (s4.trans (s5.trans (s6.trans (s7.trans s8))))).same s9) ((off_ne (P8.new n9)).trans e9) es9 (by rw [l9]; decide)
end
end K10

/-! ## K10y -/
set_option Elab.async false
set_option linter.all false
set_option maxRecDepth 100000
set_option maxHeartbeats 4000000
namespace K10
open PySem PySem.Spec PyProof.Rows L2 He Vx

section
variable {P : Program} {w : World} {K : PySem.W.Frag} {mg : Str → Option Value} {base : Heap}
theorem cd_basics_right (F : At K mg "_law_basics_right" s_law_basics_right) (T : BI mg) (c__law_things : Cd P w K mg base 4 "_law_things" ["_law_pot_here"] (spMenu K))
    (c__law_is_number : Cd P w K mg base 1 "_law_is_number" ["_law_thing_here"] (spP K numD)) (c__law_is_word : Cd P w K mg base 1 "_law_is_word" ["_law_thing_here"] (spP K nameD)) (c__law_is_pair : Cd P w K mg base 2 "_law_is_pair" ["_law_thing_here"] (spP K pairD))
    (k_is_integer : CdK P w K mg base 1 "is_integer" "value" (spP K numD)) (k_is_count : CdK P w K mg base 2 "is_count" "value" (spP K cntD)) (k_is_name : CdK P w K mg base 1 "is_name" "value" (spP K nameD))
    (k_is_sign : CdK P w K mg base 2 "is_sign" "value" (spP K pairD)) (k_is_row : CdK P w K mg base 3 "is_row" "value" (spP K rowD)) : Cd P w K mg base 5 "_law_basics_right" ["_law_pot_here"] spTrue := by
  refine cd_mk F sc_law_basics_right (fun vs H Q E h => ?_) (fun _ _ _ _ _ _ us hl => match us, hl with | [_], _ => rfl) (fun f cdv A outer s H vs Q E hr hG h => ?_)
  · obtain ⟨p, rfl, _⟩ := h
    rfl
  · obtain ⟨p, rfl, hP, k⟩ := h
    have c_is_integer := k_is_integer.cd
    have c_is_count := k_is_count.cd
    have c_is_name := k_is_name.cd
    have c_is_sign := k_is_sign.cd
    have c_is_row := k_is_row.cd
    refine ⟨_, (pss_cons (ps_set (i := 1) sc_law_basics_right.nd rfl (Or.inl rfl) (pe_cd c__law_things (hr.mono (by decide)) hG (by rfl) (pa_cons (pv 0) pa_nil)))
  (pss_cons (ps_set (i := 2) sc_law_basics_right.nd rfl (Or.inl rfl) (pe_callB (call_reprD hG hr.units) (by rfl) T.repr bt_repr (pa_cons (pv 1) pa_nil)))
  (pss_cons (ps_for PassesOwn.never rfl (pi_list (pv 1)) (pg_name (i := 3) sc_law_basics_right.nd rfl (Or.inl rfl)) (pss_cons (ps_set (i := 4) sc_law_basics_right.nd rfl (Or.inl rfl) (pe_and (pe_callB (call_isDT (K := K) rfl) (by rfl) T.isinstance bt_isinstance (pa_cons (pv 3) (pa_cons (pe_tup (pa_cons (pe_bltn (v := .ty "list") (by rfl) T.list bt_list rfl) (pa_cons (pe_bltn (v := .ty "tuple") (by rfl) T.tuple bt_tuple rfl) pa_nil))) pa_nil))) (pe_one (pe_callB (cr_all rfl) (by rfl) T.all bt_all (pa_cons (pe_lc (own := [("_law_part", 8)]) (g := gName 8) (tt := tYes) (by rfl) sc_law_basics_right.nd (pi_seqK (K := K) rfl (pv 3)) (blkOk_by (own := [("_law_part", 8)]) (N := ["_law_pot_here", "_law_menu", "_law_shown", "_law_thing_here", "_law_is_all", "_law_due", "_law_told", "_law_again", "_law_part"]) (sc := defScope s_law_basics_right) (by decide +kernel)) (fun _ _ _ _ _ => pg_name (i := 8) sc_law_basics_right.nd rfl (Or.inl rfl)) (fun _ _ _ _ _ => pts_nil) (fun _ _ _ _ _ => (pe_cd c__law_is_pair (hr.mono (by decide)) hG (by rfl) (pa_cons (pv 8) pa_nil)))) pa_nil)))))
  (pss_cons (ps_set (i := 5) sc_law_basics_right.nd rfl (Or.inl rfl) (pe_lst (pa_cons (pe_cd c__law_is_number (hr.mono (by decide)) hG (by rfl) (pa_cons (pv 3) pa_nil)) (pa_cons (pe_and (pe_cd c__law_is_number (hr.mono (by decide)) hG (by rfl) (pa_cons (pv 3) pa_nil)) (pe_one (pe_cmpR op_ge (pv 3) pe_int (nomark _)))) (pa_cons (pe_cd c__law_is_word (hr.mono (by decide)) hG (by rfl) (pa_cons (pv 3) pa_nil)) (pa_cons (pe_cd c__law_is_pair (hr.mono (by decide)) hG (by rfl) (pa_cons (pv 3) pa_nil)) pa_nil))))))
  (pss_cons (ps_expr (pe_bm PySem.F.plainAttrs_list PySem.F.slot_list_append PySem.F.type_list_append mt_append (pv 5) (pa_cons (pv 4) pa_nil)))
  (pss_cons (ps_set (i := 6) sc_law_basics_right.nd rfl (Or.inl rfl) (pe_lst (pa_cons (pe_cd c_is_integer (hr.mono (by decide)) hG (by rfl) (pa_cons (pv 3) pa_nil)) (pa_cons (pe_cd c_is_count (hr.mono (by decide)) hG (by rfl) (pa_cons (pv 3) pa_nil)) (pa_cons (pe_cd c_is_name (hr.mono (by decide)) hG (by rfl) (pa_cons (pv 3) pa_nil)) (pa_cons (pe_cd c_is_sign (hr.mono (by decide)) hG (by rfl) (pa_cons (pv 3) pa_nil)) (pa_cons (pe_cd c_is_row (hr.mono (by decide)) hG (by rfl) (pa_cons (pv 3) pa_nil)) pa_nil)))))))
  (pss_cons (ps_set (i := 7) sc_law_basics_right.nd rfl (Or.inl rfl) (pe_lst (pa_cons (pe_cdK k_is_integer (hr.mono (by decide)) hG (by rfl) (pv 3)) (pa_cons (pe_cdK k_is_count (hr.mono (by decide)) hG (by rfl) (pv 3)) (pa_cons (pe_cdK k_is_name (hr.mono (by decide)) hG (by rfl) (pv 3)) (pa_cons (pe_cdK k_is_sign (hr.mono (by decide)) hG (by rfl) (pv 3)) pa_nil))))))
  (pss_one (ps_if (PW.pt (pw_or (pt_cmpR op_ne (pe_callB (call_reprD hG hr.units) (by rfl) T.repr bt_repr (pa_cons (pv 6) pa_nil)) (pe_callB (call_reprD hG hr.units) (by rfl) T.repr bt_repr (pa_cons (pv 5) pa_nil)) (nomark _)) (pw_or1 (pt_cmpR op_ne (pe_callB (call_reprD hG hr.units) (by rfl) T.repr bt_repr (pa_cons (pe_op op_cat (pv 7) (pe_lst (pa_cons (pe_cdK k_is_row (hr.mono (by decide)) hG (by rfl) (pv 3)) pa_nil))) pa_nil)) (pe_callB (call_reprD hG hr.units) (by rfl) T.repr bt_repr (pa_cons (pv 5) pa_nil)) (nomark _))))) (pss_one (ps_ret pe_bl)) pss_nil))))))))
  (pss_one (ps_ret (pe_cmpR op_eq (pe_callB (call_reprD hG hr.units) (by rfl) T.repr bt_repr (pa_cons (pv 1) pa_nil)) (pv 2) (nomark _))))))), ?_⟩
    refine in_set ?_
    refine ⟨_, rfl, p, rfl, hP, fun m xs H1 st1 em els lx => ?_⟩
    dsimp only
    obtain ⟨ds, D1, gs, ld⟩ := els_das els
    have M1 : Show (.list ds) := G_menu gs (by omega)
    have Dm : Da K H1 (.ref m) (.list ds) := (Da.lst (SqL.of em) D1).mono off_same
    refine in_set ?_
    refine ⟨_, rfl, _, _, rfl, Dm, M1.1, M1.2.1, M1.2.2, ?_⟩
    dsimp only
    have hm : SqL K H1 m xs := off_same.seq (SqL.of em)
    have D1' := D1.mono off_same
    refine ⟨_, rfl, m, rfl, ⟨_, hm⟩, for_list (K := K) (a := m) (xs := xs) (fun i σ H' => ∃ a3 a4 a5 a6 a7 a8 : Option V, σ = [some (.ref p), some (.ref m), some (.str (PyData.list ds).shown), a3, a4, a5, a6, a7, a8] ∧ Same H1 H') ⟨_, _, _, _, _, _, rfl, Same.refl _⟩
      (fun i σ H' _ z => ?_) (fun i x σ H2 hx z => ?_) (fun σ H' z => ?_)⟩
    · obtain ⟨_, _, _, _, _, _, _, S⟩ := z
      exact S.seq hm
    · obtain ⟨a3, a4, a5, a6, a7, a8, rfl, S2⟩ := z
      obtain ⟨d, hdd, da⟩ := Das.get D1' hx
      have ok : okD d = true := (gs d (List.mem_of_getElem? hdd)).1
      have d2 := da.mono S2
      refine in_set ?_
      refine all_pair (K := K) (x := x) (d := d) (fun H R q => ⟨_, rfl, q⟩) d2 ok (fun v d H1 R hv hd q => ⟨v, rfl, v, d, rfl, hv, hd, q⟩) (fun _ => by rfl) fun H3 s3 => ?_
      dsimp only
      have d3 := d2.mono s3
      refine in_set ?_
      refine ⟨_, rfl, x, d, rfl, d3, ok, fun H4 s4 => ?_⟩
      refine cnt_ev (K := K) (x := x) (d := d) (fun H R q => ⟨_, rfl, q⟩) (d3.mono s4) ok fun H5 s5 => ?_
      have d5 := (d3.mono s4).mono s5
      refine ⟨_, rfl, x, d, rfl, d5, ok, fun H6 s6 => ⟨_, rfl, x, d, rfl, d5.mono s6, ok, fun H7 s7 => ⟨by show 4 ≤ sizeLine; decide, fun a8 n8 => ?_⟩⟩⟩
      generalize g8 : upd H7 a8 _ = H8
      have s8 : Same H7 H8 := g8 ▸ same_new n8
      have e8 := g8 ▸ upd_same (H := H7) (a := a8)
      clear g8
      have s38 := s4.trans (s5.trans (s6.trans (s7.trans s8)))
      have n3 : H3 a8 = none := s4.free (s5.free (s6.free (s7.free n8)))
      refine ⟨_, rfl, .inl ⟨rfl, _, SqL.of e8⟩, ⟨_, rfl, a8, _, _, rfl, rfl, e8, by show 4 < sizeLine; decide, ?_⟩⟩
      generalize g9 : upd H8 a8 _ = H9
      have e9 : H9 a8 = some (.lst (([numD d, cntD d, nameD d, pairD d, rowD d] : List Bool).map V.bl)) := by
        rw [← g9, upd_same]
        rfl
      have s9 : Same H3 H9 := fun b o eb => by
        rw [← g9, upd_ne (ne_of_none eb n3)]
        exact s38 b o eb
      clear g9
      dsimp only
      have d9 := d3.mono s9
      refine in_set ?_
      refine ⟨_, rfl, x, d, rfl, d9, ok, fun H10 s10 => ⟨_, rfl, x, d, rfl, d9.mono s10, ok, fun H11 s11 => ⟨_, rfl, x, d, rfl, (d9.mono s10).mono s11, ok, fun H12 s12 => ⟨_, rfl, x, d, rfl, ((d9.mono s10).mono s11).mono s12, ok, fun H13 s13 =>
        ⟨_, rfl, x, d, rfl, (((d9.mono s10).mono s11).mono s12).mono s13, ok, fun H14 s14 => ⟨by show 5 ≤ sizeLine; decide, fun a15 n15 => ?_⟩⟩⟩⟩⟩⟩
      generalize g15 : upd H14 a15 _ = H15
      have s15 : Same H14 H15 := g15 ▸ same_new n15
      have e15 := g15 ▸ upd_same (H := H14) (a := a15)
      clear g15
      have t15 := s10.trans (s11.trans (s12.trans (s13.trans (s14.trans s15))))
      have d15 := d9.mono t15
      refine in_set ?_
      refine ⟨_, rfl, x, d, rfl, d15, ok, fun H16 s16 => ⟨_, rfl, x, d, rfl, d15.mono s16, ok, fun H17 s17 => ⟨_, rfl, x, d, rfl, (d15.mono s16).mono s17, ok, fun H18 s18 => ⟨_, rfl, x, d, rfl, ((d15.mono s16).mono s17).mono s18, ok, fun H19 s19 =>
        ⟨by show 4 ≤ sizeLine; decide, fun a20 n20 => ?_⟩⟩⟩⟩⟩
      generalize g20 : upd H19 a20 _ = H20
      have s20 : Same H19 H20 := g20 ▸ same_new n20
      have e20 := g20 ▸ upd_same (H := H19) (a := a20)
      clear g20
      have t20 := s16.trans (s17.trans (s18.trans (s19.trans s20)))
      have bs5 := show_bools [numD d, cntD d, nameD d, pairD d, rowD d] (by show 5 ≤ 60; decide)
      have e9' := t20 _ _ (t15 _ _ e9)
      have e15' := t20 _ _ e15
      have f9 : ∀ H', Same H20 H' → Da K H' (.ref a8) (.list (([numD d, cntD d, nameD d, pairD d, rowD d] : List Bool).map PyData.bool)) := fun H' s => (Da.lst (SqL.of e9') (das_bools [numD d, cntD d, nameD d, pairD d, rowD d])).mono s
      have f15 : Da K H20 (.ref a15) (.list (([numD d, cntD d, nameD d, pairD d, rowD d] : List Bool).map PyData.bool)) := Da.lst (SqL.of e15') (das_bools [numD d, cntD d, nameD d, pairD d, rowD d])
      refine in_or (in_op ?_)
      refine ⟨_, rfl, _, _, rfl, f15, bs5.1, bs5.2.1, bs5.2.2, _, rfl, _, _, rfl, f9 H20 (Same.refl _), bs5.1, bs5.2.1, bs5.2.2, rfl, _, rfl, iteNS rfl ?_⟩
      refine in_test (in_op (in_cb (in_cons ?_)))
      refine ⟨_, rfl, _, rfl, x, d, rfl, d15.mono t20, ok, fun H21 s21 => ⟨by show 1 ≤ sizeLine; decide, fun a22 n22 => ?_⟩⟩
      generalize g22 : upd H21 a22 _ = H22
      have s22 : Same H21 H22 := g22 ▸ same_new n22
      have e22 := g22 ▸ upd_same (H := H21) (a := a22)
      clear g22
      refine ⟨a20, a22, _, _, rfl, rfl, s22 _ _ (s21 _ _ e20), e22, (by show 4 + 1 ≤ sizeLine; decide), fun a23 n23 => ?_⟩
      generalize g23 : upd H22 a23 _ = H23
      have s23 : Same H22 H23 := g23 ▸ same_new n23
      have e23 := g23 ▸ upd_same (H := H22) (a := a23)
      clear g23
      have f23 : Da K H23 (.ref a23) (.list (([numD d, cntD d, nameD d, pairD d, rowD d] : List Bool).map PyData.bool)) := Da.lst (SqL.of e23) (das_bools [numD d, cntD d, nameD d, pairD d, rowD d])
      refine ⟨_, _, rfl, f23, bs5.1, bs5.2.1, bs5.2.2, _, rfl, _, _, rfl, f9 H23 (s21.trans (s22.trans s23)), bs5.1, bs5.2.1, bs5.2.2, rfl, _, rfl, ?_⟩
      rw [not_dec rfl]
      refine iteF ?_
      exact ⟨_, _, _, _, _, _, rfl, S2.trans (s3.trans (s9.trans (t15.trans (t20.trans (s21.trans (s22.trans s23))))))⟩
    · obtain ⟨_, _, _, _, _, _, rfl, S⟩ := z
      refine ⟨_, rfl, _, _, rfl, Dm.mono S, M1.1, M1.2.1, M1.2.2, _, rfl, rfl, ?_⟩
      rw [decide_eq_true rfl]
      exact k H' (st1.same S)
end
end K10

/-! ## K10z -/
set_option Elab.async false
set_option linter.all false
set_option maxRecDepth 100000
set_option maxHeartbeats 4000000
namespace K10
open PySem PySem.Spec PyProof.Rows L2 He Vx

section
variable {P : Program} {w : World} {K : PySem.W.Frag} {mg : Str → Option Value} {base : Heap}
theorem cd_right (F : At K mg "_law_right" s_law_right) (T : BI mg) (c__law_kept_right : Cd P w K mg base 5 "_law_kept_right" ["_law_pot_here"] spTrue) (c__law_kinds_right : Cd P w K mg base 5 "_law_kinds_right" ["_law_pot_here"] spTrue)
    (c__law_basics_right : Cd P w K mg base 5 "_law_basics_right" ["_law_pot_here"] spTrue) : Cd P w K mg base 6 "_law_right" ["_law_pot_here"] spTrue := by
  refine cd_mk F sc_law_right (fun vs H Q E h => ?_) (fun _ _ _ _ _ _ us hl => match us, hl with | [_], _ => rfl) (fun f cdv A outer s H vs Q E hr hG h => ?_)
  · obtain ⟨p, rfl, _⟩ := h
    rfl
  · obtain ⟨p, rfl, hP, k⟩ := h
    refine ⟨_, (pss_one (ps_ret (pe_and (pe_cd c__law_kept_right (hr.mono (by decide)) hG (by rfl) (pa_cons (pv 0) pa_nil)) (pe_and (pe_cd c__law_kinds_right (hr.mono (by decide)) hG (by rfl) (pa_cons (pv 0) pa_nil)) (pe_one (pe_callB (cr_all rfl) (by rfl) T.all bt_all (pa_cons (pe_lc (own := [("_law_turn", 1)]) (g := gName 1) (tt := tYes) (by rfl) sc_law_right.nd (pi_range1 (by rfl) T.range (pa_cons pe_int pa_nil)) (blkOk_by (own := [("_law_turn", 1)]) (N := ["_law_pot_here", "_law_turn"]) (sc := defScope s_law_right) (by decide +kernel)) (fun _ _ _ _ _ => pg_name (i := 1) sc_law_right.nd rfl (Or.inl rfl)) (fun _ _ _ _ _ => pts_nil) (fun _ _ _ _ _ => (pe_cd c__law_basics_right (hr.mono (by decide)) hG (by rfl) (pa_cons (pv 0) pa_nil)))) pa_nil))))))), ?_⟩
    refine ⟨_, rfl, p, rfl, hP, fun H1 st1 => ⟨_, rfl, iteT ?_⟩⟩
    refine ⟨_, rfl, p, rfl, st1.pot, fun H2 st2 => ⟨_, rfl, iteT ?_⟩⟩
    refine in_cb (in_cons ?_)
    refine ⟨_, rfl, by decide, by decide, fun D hD => lc_range (lo := 0) (n := 3)
      (fun i H' => H2 D = none ∧ Stp p H2 H' ∧ H' D = some (.lst ((List.replicate i true).map V.bl))) ⟨hD, stp_new st2.pot hD, upd_same⟩
      (fun i H' hi z => ⟨by rfl, ?_⟩) fun H' z => ?_⟩
    · obtain ⟨z1, z2, z3⟩ := z
      refine ⟨_, rfl, p, rfl, z2.pot, fun H4 st4 => ?_⟩
      have nDp : D ≠ p := st2.pot.new z1
      have e4 : H4 D = some (.lst ((List.replicate i true).map V.bl)) := by
        have q := st4.k D _ ((off_ne nDp).trans z3)
        rw [off_ne nDp] at q
        exact q
      refine ⟨_, e4, by rw [List.length_map, List.length_replicate]; exact small1000 (by omega), z1, (z2.trans st4).putD z1 nDp, ?_⟩
      rw [upd_same, List.replicate_succ', List.map_append]
      rfl
    · obtain ⟨z1, z2, z3⟩ := z
      refine ⟨D, [true, true, true], rfl, SqL.of z3, ?_⟩
      exact k H' ((st1.trans st2).trans z2)
theorem same_pot {p : Addr} {H1 H2 H4 : Hp} (n : H1 p = none) (s : Same H1 H2) (st : Stp p H2 H4) : Same H1 H4 := fun x o e => by
  have nx := ne_of_none e n
  have q := st.k x o ((off_ne nx).trans (s x o e))
  rw [off_ne nx] at q
  exact q
theorem fn_mk {k : Nat} {x : Str} {ps N : List Str} {sp : Sp} {st : Stmt} {f : Addr} {fd : FuncData} (F : Fun K x x st f fd) (S : FnScope N ps (defScope st)) (len : ∀ vs H Q E, sp vs H Q E → vs.length = ps.length)
    (body : ∀ (f : Addr) (cdv : Value) (A : Around) (outer : List Env) (s : Shared) (H : Hp) (vs : List V) (Q : VK) (E : XK),
      Room k (A.deeper (envOfC x (defScope st) s.heap.objs.size f cdv)) → Gd (A.deeper (envOfC x (defScope st) s.heap.objs.size f cdv)) → sp vs H Q E →
      ∃ t, PSs (cxOf CX0 P w K mg base N x (defScope st) f cdv A outer s H E).nox (defBody st) t ∧ t { nx := fun _ H' => Q .non H', rt := Q } (start N vs) H) : FnG P w K mg base CX0 (k + 1) f fd ps sp :=
  okG F S len fun cdv A outer s H vs Q E hr hG h => by
    obtain ⟨t, h1, h2⟩ := body f cdv A outer s H vs Q E hr hG h
    exact ⟨t, h1.nox, h2⟩
/-- the law: whatever the script, True -/
def spLaw (K : PySem.W.Frag) : Sp := fun vs H Q _ => ∃ (a : Addr) (ns : List Int), vs = [.ref a] ∧ SqL K H a (ns.map V.int) ∧ ns.length ≤ 1000 ∧ ∀ H', Q (.bl true) H'
theorem fn_law {fa : Addr} {fd : FuncData} (F : Fun K "law" "law" s_law fa fd) (T : BI mg) (c__law_right : Cd P w K mg base 6 "_law_right" ["_law_pot_here"] spTrue) (c__law_pot : Cd P w K mg base 1 "_law_pot" ["_law_script", "_law_k"] (spPot K)) : FnG P w K mg base CX0 7 fa fd ["_law_script"] (spLaw K) := by
  refine fn_mk F sc_law (fun vs H Q E h => ?_) (fun f cdv A outer s H vs Q E hr hG h => ?_)
  · obtain ⟨a, ns, rfl, _⟩ := h
    rfl
  · obtain ⟨a, ns, rfl, hS, hl, k⟩ := h
    refine ⟨_, (pss_one (ps_ret (pe_callB (cr_all rfl) (by rfl) T.all bt_all (pa_cons (pe_lc (own := [("_law_k", 1)]) (g := gName 1) (tt := tYes) (by rfl) sc_law.nd (pi_range1 (by rfl) T.range (pa_cons (pe_callB (call_max2 rfl) (by rfl) T.max bt_max (pa_cons pe_int (pa_cons (pe_callB (call_min2 rfl) (by rfl) T.min bt_min (pa_cons (pe_callB call_len_seq (by rfl) T.len PySem.boot_len (pa_cons (pv 0) pa_nil)) (pa_cons pe_int pa_nil))) pa_nil))) pa_nil)) (blkOk_by (own := [("_law_k", 1)]) (N := ["_law_script", "_law_k"]) (sc := defScope s_law) (by decide +kernel)) (fun _ _ _ _ _ => pg_name (i := 1) sc_law.nd rfl (Or.inl rfl)) (fun _ _ _ _ _ => pts_nil) (fun _ _ _ _ _ => (pe_cd c__law_right (hr.mono (by decide)) hG (by rfl) (pa_cons (pe_cd c__law_pot (hr.mono (by decide)) hG (by rfl) (pa_cons (pv 0) (pa_cons (pv 1) pa_nil))) pa_nil)))) pa_nil)))), ?_⟩
    refine in_ret (in_cb (in_cons ?_))
    -- range(max(1, min(len(script), 4)))
    have h4 : ∀ n : Int, 0 ≤ n → ∃ m : Nat, 1 ≤ m ∧ m ≤ 4 ∧ (if (if 4 < n then (4 : Int) else n) > 1 then (if 4 < n then (4 : Int) else n) else 1) = (m : Int) := fun n hn => by
      refine ⟨(if (if 4 < n then (4 : Int) else n) > 1 then (if 4 < n then (4 : Int) else n) else 1).toNat, ?_, ?_, ?_⟩ <;> (split <;> split <;> omega)
    obtain ⟨m, m1, m4, em⟩ := h4 ((ns.map V.int).length : Nat) (by omega)
    refine ⟨_, rfl, a, _, rfl, .inl hS, _, _, rfl, _, _, rfl, _, rfl, ?_, ?_, fun D hD => ?_⟩
    · rw [em]
      omega
    · rw [em]
      omega
    · rw [em]
      refine lc_range (lo := 0) (n := m) (fun i H' => H D = none ∧ Same H H' ∧ H' D = some (.lst ((List.replicate i true).map V.bl))) ⟨hD, same_new hD, upd_same⟩
        (fun i H' hi z => ⟨by rfl, ?_⟩) fun H' z => ?_
      · obtain ⟨z1, z2, z3⟩ := z
        refine ⟨_, rfl, _, rfl, a, _, ns, rfl, z2.seq hS, by omega, by omega, hl, fun p H2 hp s2 P2 => ?_⟩
        refine ⟨p, rfl, P2, fun H4 st4 => ?_⟩
        have s4 : Same H' H4 := same_pot hp s2 st4
        refine ⟨_, s4 _ _ z3, by rw [List.length_map, List.length_replicate]; exact small1000 (by omega), z1, fun c o ec => ?_, ?_⟩
        · rw [upd_ne (ne_of_none ec z1)]
          exact s4 _ _ (z2 c o ec)
        · rw [upd_same, List.replicate_succ', List.map_append]
          rfl
      · obtain ⟨z1, z2, z3⟩ := z
        refine ⟨D, _, rfl, SqL.of z3, ?_⟩
        have e : (List.replicate m true).all id = true := by
          rw [List.all_eq_true]
          intro b hb
          rw [List.eq_of_mem_replicate hb]
          rfl
        rw [e]
        exact k H'
end
end K10

/-! ## HF10 -/
set_option Elab.async false
set_option linter.all false
set_option maxRecDepth 100000
set_option maxHeartbeats 4000000
namespace K10
open PySem PySem.Spec PyProof.Rows L2 He Vx
section
variable {P : Program} {w : World} {K : PySem.W.Frag} {mg : Str → Option Value} {base h : Heap}
structure XF (K : PySem.W.Frag) : Prop where
  xg : xgB K = true
  ec : ∀ c ∈ ecs, c.ok K = true
  e0 : ∀ c ∈ ec0, c.ok0 K = true
  ia : isAll K kNames 0 kNames = true
  fa : famAll K 0 kNames = true
theorem xf_of (o : xbK K = true) : XF K := by
  obtain ⟨h1, o⟩ := ba o
  obtain ⟨h2, o⟩ := ba o
  obtain ⟨h3, o⟩ := ba o
  obtain ⟨h4, h5⟩ := ba o
  exact ⟨h1, List.all_eq_true.mp h2, List.all_eq_true.mp h3, h4, h5⟩
theorem e_BoxError (X : K.In h) (G : h.Ns mainGlobals mg) (x : XF K) : Err0 K mg xVal "BoxError" (ga K "BoxError") := err0_of X G (c := ⟨"BoxError", xVal, "", ""⟩) (x.e0 _ (List.mem_of_getElem? (i := 0) rfl))
theorem e_InvalidStates (X : K.In h) (G : h.Ns mainGlobals mg) (x : XF K) (c : SaysD faK fnK K) : ErrC P w K mg base xVal "InvalidStates" "value" (ga K "InvalidStates") := by
  obtain ⟨fd, F⟩ := c.def_ 29 (d := dM "InvalidStates" "InvalidStates.__init__" (met 9)) rfl
  exact errC_of X G (c := ⟨"InvalidStates", xVal, "value", ""⟩) (x.ec _ (List.mem_of_getElem? (i := 0) rfl)) F ⟨_, _, _, _, rfl⟩ ⟨rfl, rfl, rfl, by decide +kernel, rfl, by decide +kernel, by decide +kernel⟩ rfl rfl rfl rfl (fun _ _ _ _ _ _ _ _ => rfl) (fun _ _ _ _ _ _ _ _ => rfl)
theorem e_InvalidStarts (X : K.In h) (G : h.Ns mainGlobals mg) (x : XF K) (c : SaysD faK fnK K) : ErrC P w K mg base xVal "InvalidStarts" "position" (ga K "InvalidStarts") := by
  obtain ⟨fd, F⟩ := c.def_ 30 (d := dM "InvalidStarts" "InvalidStarts.__init__" (met 10)) rfl
  exact errC_of X G (c := ⟨"InvalidStarts", xVal, "position", ""⟩) (x.ec _ (List.mem_of_getElem? (i := 1) rfl)) F ⟨_, _, _, _, rfl⟩ ⟨rfl, rfl, rfl, by decide +kernel, rfl, by decide +kernel, by decide +kernel⟩ rfl rfl rfl rfl (fun _ _ _ _ _ _ _ _ => rfl) (fun _ _ _ _ _ _ _ _ => rfl)
theorem e_InvalidSteps (X : K.In h) (G : h.Ns mainGlobals mg) (x : XF K) (c : SaysD faK fnK K) : ErrC P w K mg base xVal "InvalidSteps" "position" (ga K "InvalidSteps") := by
  obtain ⟨fd, F⟩ := c.def_ 31 (d := dM "InvalidSteps" "InvalidSteps.__init__" (met 11)) rfl
  exact errC_of X G (c := ⟨"InvalidSteps", xVal, "position", ""⟩) (x.ec _ (List.mem_of_getElem? (i := 2) rfl)) F ⟨_, _, _, _, rfl⟩ ⟨rfl, rfl, rfl, by decide +kernel, rfl, by decide +kernel, by decide +kernel⟩ rfl rfl rfl rfl (fun _ _ _ _ _ _ _ _ => rfl) (fun _ _ _ _ _ _ _ _ => rfl)
theorem e_InvalidStep (X : K.In h) (G : h.Ns mainGlobals mg) (x : XF K) (c : SaysD faK fnK K) : ErrC P w K mg base xVal "InvalidStep" "value" (ga K "InvalidStep") := by
  obtain ⟨fd, F⟩ := c.def_ 32 (d := dM "InvalidStep" "InvalidStep.__init__" (met 12)) rfl
  exact errC_of X G (c := ⟨"InvalidStep", xVal, "value", ""⟩) (x.ec _ (List.mem_of_getElem? (i := 3) rfl)) F ⟨_, _, _, _, rfl⟩ ⟨rfl, rfl, rfl, by decide +kernel, rfl, by decide +kernel, by decide +kernel⟩ rfl rfl rfl rfl (fun _ _ _ _ _ _ _ _ => rfl) (fun _ _ _ _ _ _ _ _ => rfl)
theorem e_InvalidState (X : K.In h) (G : h.Ns mainGlobals mg) (x : XF K) (c : SaysD faK fnK K) : ErrC P w K mg base xVal "InvalidState" "value" (ga K "InvalidState") := by
  obtain ⟨fd, F⟩ := c.def_ 33 (d := dM "InvalidState" "InvalidState.__init__" (met 13)) rfl
  exact errC_of X G (c := ⟨"InvalidState", xVal, "value", ""⟩) (x.ec _ (List.mem_of_getElem? (i := 4) rfl)) F ⟨_, _, _, _, rfl⟩ ⟨rfl, rfl, rfl, by decide +kernel, rfl, by decide +kernel, by decide +kernel⟩ rfl rfl rfl rfl (fun _ _ _ _ _ _ _ _ => rfl) (fun _ _ _ _ _ _ _ _ => rfl)
theorem e_InvalidOrder (X : K.In h) (G : h.Ns mainGlobals mg) (x : XF K) (c : SaysD faK fnK K) : ErrC P w K mg base xVal "InvalidOrder" "value" (ga K "InvalidOrder") := by
  obtain ⟨fd, F⟩ := c.def_ 34 (d := dM "InvalidOrder" "InvalidOrder.__init__" (met 14)) rfl
  exact errC_of X G (c := ⟨"InvalidOrder", xVal, "value", ""⟩) (x.ec _ (List.mem_of_getElem? (i := 5) rfl)) F ⟨_, _, _, _, rfl⟩ ⟨rfl, rfl, rfl, by decide +kernel, rfl, by decide +kernel, by decide +kernel⟩ rfl rfl rfl rfl (fun _ _ _ _ _ _ _ _ => rfl) (fun _ _ _ _ _ _ _ _ => rfl)
theorem e_InvalidSet (X : K.In h) (G : h.Ns mainGlobals mg) (x : XF K) (c : SaysD faK fnK K) : ErrC P w K mg base xVal "InvalidSet" "value" (ga K "InvalidSet") := by
  obtain ⟨fd, F⟩ := c.def_ 35 (d := dM "InvalidSet" "InvalidSet.__init__" (met 15)) rfl
  exact errC_of X G (c := ⟨"InvalidSet", xVal, "value", ""⟩) (x.ec _ (List.mem_of_getElem? (i := 6) rfl)) F ⟨_, _, _, _, rfl⟩ ⟨rfl, rfl, rfl, by decide +kernel, rfl, by decide +kernel, by decide +kernel⟩ rfl rfl rfl rfl (fun _ _ _ _ _ _ _ _ => rfl) (fun _ _ _ _ _ _ _ _ => rfl)
theorem e_InvalidRow (X : K.In h) (G : h.Ns mainGlobals mg) (x : XF K) (c : SaysD faK fnK K) : ErrC P w K mg base xVal "InvalidRow" "position" (ga K "InvalidRow") := by
  obtain ⟨fd, F⟩ := c.def_ 36 (d := dM "InvalidRow" "InvalidRow.__init__" (met 16)) rfl
  exact errC_of X G (c := ⟨"InvalidRow", xVal, "position", ""⟩) (x.ec _ (List.mem_of_getElem? (i := 7) rfl)) F ⟨_, _, _, _, rfl⟩ ⟨rfl, rfl, rfl, by decide +kernel, rfl, by decide +kernel, by decide +kernel⟩ rfl rfl rfl rfl (fun _ _ _ _ _ _ _ _ => rfl) (fun _ _ _ _ _ _ _ _ => rfl)
theorem e_InvalidSign (X : K.In h) (G : h.Ns mainGlobals mg) (x : XF K) (c : SaysD faK fnK K) : ErrC P w K mg base xVal "InvalidSign" "value" (ga K "InvalidSign") := by
  obtain ⟨fd, F⟩ := c.def_ 37 (d := dM "InvalidSign" "InvalidSign.__init__" (met 17)) rfl
  exact errC_of X G (c := ⟨"InvalidSign", xVal, "value", ""⟩) (x.ec _ (List.mem_of_getElem? (i := 8) rfl)) F ⟨_, _, _, _, rfl⟩ ⟨rfl, rfl, rfl, by decide +kernel, rfl, by decide +kernel, by decide +kernel⟩ rfl rfl rfl rfl (fun _ _ _ _ _ _ _ _ => rfl) (fun _ _ _ _ _ _ _ _ => rfl)
theorem e_InvalidSigns (X : K.In h) (G : h.Ns mainGlobals mg) (x : XF K) (c : SaysD faK fnK K) : ErrC P w K mg base xVal "InvalidSigns" "position" (ga K "InvalidSigns") := by
  obtain ⟨fd, F⟩ := c.def_ 38 (d := dM "InvalidSigns" "InvalidSigns.__init__" (met 18)) rfl
  exact errC_of X G (c := ⟨"InvalidSigns", xVal, "position", ""⟩) (x.ec _ (List.mem_of_getElem? (i := 9) rfl)) F ⟨_, _, _, _, rfl⟩ ⟨rfl, rfl, rfl, by decide +kernel, rfl, by decide +kernel, by decide +kernel⟩ rfl rfl rfl rfl (fun _ _ _ _ _ _ _ _ => rfl) (fun _ _ _ _ _ _ _ _ => rfl)
theorem e_InvalidCall (X : K.In h) (G : h.Ns mainGlobals mg) (x : XF K) (c : SaysD faK fnK K) : ErrC P w K mg base xVal "InvalidCall" "value" (ga K "InvalidCall") := by
  obtain ⟨fd, F⟩ := c.def_ 39 (d := dM "InvalidCall" "InvalidCall.__init__" (met 19)) rfl
  exact errC_of X G (c := ⟨"InvalidCall", xVal, "value", ""⟩) (x.ec _ (List.mem_of_getElem? (i := 10) rfl)) F ⟨_, _, _, _, rfl⟩ ⟨rfl, rfl, rfl, by decide +kernel, rfl, by decide +kernel, by decide +kernel⟩ rfl rfl rfl rfl (fun _ _ _ _ _ _ _ _ => rfl) (fun _ _ _ _ _ _ _ _ => rfl)
theorem e_InvalidCalls (X : K.In h) (G : h.Ns mainGlobals mg) (x : XF K) (c : SaysD faK fnK K) : ErrC P w K mg base xVal "InvalidCalls" "position" (ga K "InvalidCalls") := by
  obtain ⟨fd, F⟩ := c.def_ 40 (d := dM "InvalidCalls" "InvalidCalls.__init__" (met 20)) rfl
  exact errC_of X G (c := ⟨"InvalidCalls", xVal, "position", ""⟩) (x.ec _ (List.mem_of_getElem? (i := 11) rfl)) F ⟨_, _, _, _, rfl⟩ ⟨rfl, rfl, rfl, by decide +kernel, rfl, by decide +kernel, by decide +kernel⟩ rfl rfl rfl rfl (fun _ _ _ _ _ _ _ _ => rfl) (fun _ _ _ _ _ _ _ _ => rfl)
theorem e_InvalidNames (X : K.In h) (G : h.Ns mainGlobals mg) (x : XF K) (c : SaysD faK fnK K) : ErrC P w K mg base xVal "InvalidNames" "value" (ga K "InvalidNames") := by
  obtain ⟨fd, F⟩ := c.def_ 41 (d := dM "InvalidNames" "InvalidNames.__init__" (met 21)) rfl
  exact errC_of X G (c := ⟨"InvalidNames", xVal, "value", ""⟩) (x.ec _ (List.mem_of_getElem? (i := 12) rfl)) F ⟨_, _, _, _, rfl⟩ ⟨rfl, rfl, rfl, by decide +kernel, rfl, by decide +kernel, by decide +kernel⟩ rfl rfl rfl rfl (fun _ _ _ _ _ _ _ _ => rfl) (fun _ _ _ _ _ _ _ _ => rfl)
theorem e_InvalidName (X : K.In h) (G : h.Ns mainGlobals mg) (x : XF K) (c : SaysD faK fnK K) : ErrC P w K mg base xVal "InvalidName" "value" (ga K "InvalidName") := by
  obtain ⟨fd, F⟩ := c.def_ 42 (d := dM "InvalidName" "InvalidName.__init__" (met 22)) rfl
  exact errC_of X G (c := ⟨"InvalidName", xVal, "value", ""⟩) (x.ec _ (List.mem_of_getElem? (i := 13) rfl)) F ⟨_, _, _, _, rfl⟩ ⟨rfl, rfl, rfl, by decide +kernel, rfl, by decide +kernel, by decide +kernel⟩ rfl rfl rfl rfl (fun _ _ _ _ _ _ _ _ => rfl) (fun _ _ _ _ _ _ _ _ => rfl)
theorem e_InvalidNumber (X : K.In h) (G : h.Ns mainGlobals mg) (x : XF K) (c : SaysD faK fnK K) : ErrC P w K mg base xVal "InvalidNumber" "value" (ga K "InvalidNumber") := by
  obtain ⟨fd, F⟩ := c.def_ 43 (d := dM "InvalidNumber" "InvalidNumber.__init__" (met 23)) rfl
  exact errC_of X G (c := ⟨"InvalidNumber", xVal, "value", ""⟩) (x.ec _ (List.mem_of_getElem? (i := 14) rfl)) F ⟨_, _, _, _, rfl⟩ ⟨rfl, rfl, rfl, by decide +kernel, rfl, by decide +kernel, by decide +kernel⟩ rfl rfl rfl rfl (fun _ _ _ _ _ _ _ _ => rfl) (fun _ _ _ _ _ _ _ _ => rfl)
theorem e_InvalidKind (X : K.In h) (G : h.Ns mainGlobals mg) (x : XF K) (c : SaysD faK fnK K) : ErrC P w K mg base xVal "InvalidKind" "value" (ga K "InvalidKind") := by
  obtain ⟨fd, F⟩ := c.def_ 44 (d := dM "InvalidKind" "InvalidKind.__init__" (met 24)) rfl
  exact errC_of X G (c := ⟨"InvalidKind", xVal, "value", ""⟩) (x.ec _ (List.mem_of_getElem? (i := 15) rfl)) F ⟨_, _, _, _, rfl⟩ ⟨rfl, rfl, rfl, by decide +kernel, rfl, by decide +kernel, by decide +kernel⟩ rfl rfl rfl rfl (fun _ _ _ _ _ _ _ _ => rfl) (fun _ _ _ _ _ _ _ _ => rfl)
theorem e_InvalidReading (X : K.In h) (G : h.Ns mainGlobals mg) (x : XF K) (c : SaysD faK fnK K) : ErrC P w K mg base xVal "InvalidReading" "value" (ga K "InvalidReading") := by
  obtain ⟨fd, F⟩ := c.def_ 45 (d := dM "InvalidReading" "InvalidReading.__init__" (met 25)) rfl
  exact errC_of X G (c := ⟨"InvalidReading", xVal, "value", ""⟩) (x.ec _ (List.mem_of_getElem? (i := 16) rfl)) F ⟨_, _, _, _, rfl⟩ ⟨rfl, rfl, rfl, by decide +kernel, rfl, by decide +kernel, by decide +kernel⟩ rfl rfl rfl rfl (fun _ _ _ _ _ _ _ _ => rfl) (fun _ _ _ _ _ _ _ _ => rfl)
theorem e_InvalidHidden (X : K.In h) (G : h.Ns mainGlobals mg) (x : XF K) (c : SaysD faK fnK K) : ErrC P w K mg base xVal "InvalidHidden" "position" (ga K "InvalidHidden") := by
  obtain ⟨fd, F⟩ := c.def_ 46 (d := dM "InvalidHidden" "InvalidHidden.__init__" (met 26)) rfl
  exact errC_of X G (c := ⟨"InvalidHidden", xVal, "position", ""⟩) (x.ec _ (List.mem_of_getElem? (i := 17) rfl)) F ⟨_, _, _, _, rfl⟩ ⟨rfl, rfl, rfl, by decide +kernel, rfl, by decide +kernel, by decide +kernel⟩ rfl rfl rfl rfl (fun _ _ _ _ _ _ _ _ => rfl) (fun _ _ _ _ _ _ _ _ => rfl)
theorem e_InvalidPairs (X : K.In h) (G : h.Ns mainGlobals mg) (x : XF K) (c : SaysD faK fnK K) : ErrC P w K mg base xVal "InvalidPairs" "position" (ga K "InvalidPairs") := by
  obtain ⟨fd, F⟩ := c.def_ 47 (d := dM "InvalidPairs" "InvalidPairs.__init__" (met 27)) rfl
  exact errC_of X G (c := ⟨"InvalidPairs", xVal, "position", ""⟩) (x.ec _ (List.mem_of_getElem? (i := 18) rfl)) F ⟨_, _, _, _, rfl⟩ ⟨rfl, rfl, rfl, by decide +kernel, rfl, by decide +kernel, by decide +kernel⟩ rfl rfl rfl rfl (fun _ _ _ _ _ _ _ _ => rfl) (fun _ _ _ _ _ _ _ _ => rfl)
theorem e_InvalidMatching (X : K.In h) (G : h.Ns mainGlobals mg) (x : XF K) (c : SaysD faK fnK K) : ErrC P w K mg base xVal "InvalidMatching" "value" (ga K "InvalidMatching") := by
  obtain ⟨fd, F⟩ := c.def_ 48 (d := dM "InvalidMatching" "InvalidMatching.__init__" (met 28)) rfl
  exact errC_of X G (c := ⟨"InvalidMatching", xVal, "value", ""⟩) (x.ec _ (List.mem_of_getElem? (i := 19) rfl)) F ⟨_, _, _, _, rfl⟩ ⟨rfl, rfl, rfl, by decide +kernel, rfl, by decide +kernel, by decide +kernel⟩ rfl rfl rfl rfl (fun _ _ _ _ _ _ _ _ => rfl) (fun _ _ _ _ _ _ _ _ => rfl)
theorem e_InvalidFan (X : K.In h) (G : h.Ns mainGlobals mg) (x : XF K) (c : SaysD faK fnK K) : ErrC P w K mg base xVal "InvalidFan" "value" (ga K "InvalidFan") := by
  obtain ⟨fd, F⟩ := c.def_ 49 (d := dM "InvalidFan" "InvalidFan.__init__" (met 29)) rfl
  exact errC_of X G (c := ⟨"InvalidFan", xVal, "value", ""⟩) (x.ec _ (List.mem_of_getElem? (i := 20) rfl)) F ⟨_, _, _, _, rfl⟩ ⟨rfl, rfl, rfl, by decide +kernel, rfl, by decide +kernel, by decide +kernel⟩ rfl rfl rfl rfl (fun _ _ _ _ _ _ _ _ => rfl) (fun _ _ _ _ _ _ _ _ => rfl)
theorem e_InvalidMiddle (X : K.In h) (G : h.Ns mainGlobals mg) (x : XF K) (c : SaysD faK fnK K) : ErrC P w K mg base xVal "InvalidMiddle" "value" (ga K "InvalidMiddle") := by
  obtain ⟨fd, F⟩ := c.def_ 50 (d := dM "InvalidMiddle" "InvalidMiddle.__init__" (met 30)) rfl
  exact errC_of X G (c := ⟨"InvalidMiddle", xVal, "value", ""⟩) (x.ec _ (List.mem_of_getElem? (i := 21) rfl)) F ⟨_, _, _, _, rfl⟩ ⟨rfl, rfl, rfl, by decide +kernel, rfl, by decide +kernel, by decide +kernel⟩ rfl rfl rfl rfl (fun _ _ _ _ _ _ _ _ => rfl) (fun _ _ _ _ _ _ _ _ => rfl)
theorem e_InvalidFamily (X : K.In h) (G : h.Ns mainGlobals mg) (x : XF K) (c : SaysD faK fnK K) : ErrC P w K mg base xVal "InvalidFamily" "value" (ga K "InvalidFamily") := by
  obtain ⟨fd, F⟩ := c.def_ 51 (d := dM "InvalidFamily" "InvalidFamily.__init__" (met 31)) rfl
  exact errC_of X G (c := ⟨"InvalidFamily", xVal, "value", ""⟩) (x.ec _ (List.mem_of_getElem? (i := 22) rfl)) F ⟨_, _, _, _, rfl⟩ ⟨rfl, rfl, rfl, by decide +kernel, rfl, by decide +kernel, by decide +kernel⟩ rfl rfl rfl rfl (fun _ _ _ _ _ _ _ _ => rfl) (fun _ _ _ _ _ _ _ _ => rfl)
theorem e_InvalidBox (X : K.In h) (G : h.Ns mainGlobals mg) (x : XF K) (c : SaysD faK fnK K) : ErrC P w K mg base xVal "InvalidBox" "value" (ga K "InvalidBox") := by
  obtain ⟨fd, F⟩ := c.def_ 52 (d := dM "InvalidBox" "InvalidBox.__init__" (met 32)) rfl
  exact errC_of X G (c := ⟨"InvalidBox", xVal, "value", ""⟩) (x.ec _ (List.mem_of_getElem? (i := 23) rfl)) F ⟨_, _, _, _, rfl⟩ ⟨rfl, rfl, rfl, by decide +kernel, rfl, by decide +kernel, by decide +kernel⟩ rfl rfl rfl rfl (fun _ _ _ _ _ _ _ _ => rfl) (fun _ _ _ _ _ _ _ _ => rfl)
theorem e_InvalidText (X : K.In h) (G : h.Ns mainGlobals mg) (x : XF K) (c : SaysD faK fnK K) : ErrC P w K mg base xVal "InvalidText" "line" (ga K "InvalidText") := by
  obtain ⟨fd, F⟩ := c.def_ 53 (d := dM "InvalidText" "InvalidText.__init__" (met 33)) rfl
  exact errC_of X G (c := ⟨"InvalidText", xVal, "line", ""⟩) (x.ec _ (List.mem_of_getElem? (i := 24) rfl)) F ⟨_, _, _, _, rfl⟩ ⟨rfl, rfl, rfl, by decide +kernel, rfl, by decide +kernel, by decide +kernel⟩ rfl rfl rfl rfl (fun _ _ _ _ _ _ _ _ => rfl) (fun _ _ _ _ _ _ _ _ => rfl)
theorem e_InvalidClaim (X : K.In h) (G : h.Ns mainGlobals mg) (x : XF K) (c : SaysD faK fnK K) : ErrC P w K mg base xVal "InvalidClaim" "value" (ga K "InvalidClaim") := by
  obtain ⟨fd, F⟩ := c.def_ 54 (d := dM "InvalidClaim" "InvalidClaim.__init__" (met 34)) rfl
  exact errC_of X G (c := ⟨"InvalidClaim", xVal, "value", ""⟩) (x.ec _ (List.mem_of_getElem? (i := 25) rfl)) F ⟨_, _, _, _, rfl⟩ ⟨rfl, rfl, rfl, by decide +kernel, rfl, by decide +kernel, by decide +kernel⟩ rfl rfl rfl rfl (fun _ _ _ _ _ _ _ _ => rfl) (fun _ _ _ _ _ _ _ _ => rfl)
theorem e_InvalidCommand (X : K.In h) (G : h.Ns mainGlobals mg) (x : XF K) (c : SaysD faK fnK K) : ErrC P w K mg base xVal "InvalidCommand" "value" (ga K "InvalidCommand") := by
  obtain ⟨fd, F⟩ := c.def_ 55 (d := dM "InvalidCommand" "InvalidCommand.__init__" (met 35)) rfl
  exact errC_of X G (c := ⟨"InvalidCommand", xVal, "value", ""⟩) (x.ec _ (List.mem_of_getElem? (i := 26) rfl)) F ⟨_, _, _, _, rfl⟩ ⟨rfl, rfl, rfl, by decide +kernel, rfl, by decide +kernel, by decide +kernel⟩ rfl rfl rfl rfl (fun _ _ _ _ _ _ _ _ => rfl) (fun _ _ _ _ _ _ _ _ => rfl)
theorem e_MissingError (X : K.In h) (G : h.Ns mainGlobals mg) (x : XF K) : Err0 K mg xLook "MissingError" (ga K "MissingError") := err0_of X G (c := ⟨"MissingError", xLook, "", ""⟩) (x.e0 _ (List.mem_of_getElem? (i := 1) rfl))
theorem e_UnknownStep (X : K.In h) (G : h.Ns mainGlobals mg) (x : XF K) (c : SaysD faK fnK K) : ErrC P w K mg base xLook "UnknownStep" "value" (ga K "UnknownStep") := by
  obtain ⟨fd, F⟩ := c.def_ 56 (d := dM "UnknownStep" "UnknownStep.__init__" (met 37)) rfl
  exact errC_of X G (c := ⟨"UnknownStep", xLook, "value", ""⟩) (x.ec _ (List.mem_of_getElem? (i := 27) rfl)) F ⟨_, _, _, _, rfl⟩ ⟨rfl, rfl, rfl, by decide +kernel, rfl, by decide +kernel, by decide +kernel⟩ rfl rfl rfl rfl (fun _ _ _ _ _ _ _ _ => rfl) (fun _ _ _ _ _ _ _ _ => rfl)
theorem e_UnknownName (X : K.In h) (G : h.Ns mainGlobals mg) (x : XF K) (c : SaysD faK fnK K) : ErrC P w K mg base xLook "UnknownName" "value" (ga K "UnknownName") := by
  obtain ⟨fd, F⟩ := c.def_ 57 (d := dM "UnknownName" "UnknownName.__init__" (met 38)) rfl
  exact errC_of X G (c := ⟨"UnknownName", xLook, "value", ""⟩) (x.ec _ (List.mem_of_getElem? (i := 28) rfl)) F ⟨_, _, _, _, rfl⟩ ⟨rfl, rfl, rfl, by decide +kernel, rfl, by decide +kernel, by decide +kernel⟩ rfl rfl rfl rfl (fun _ _ _ _ _ _ _ _ => rfl) (fun _ _ _ _ _ _ _ _ => rfl)
theorem e_StateError (X : K.In h) (G : h.Ns mainGlobals mg) (x : XF K) : Err0 K mg xRun "StateError" (ga K "StateError") := err0_of X G (c := ⟨"StateError", xRun, "", ""⟩) (x.e0 _ (List.mem_of_getElem? (i := 2) rfl))
theorem e_NotMatched (X : K.In h) (G : h.Ns mainGlobals mg) (x : XF K) (c : SaysD faK fnK K) : ErrC P w K mg base xRun "NotMatched" "value" (ga K "NotMatched") := by
  obtain ⟨fd, F⟩ := c.def_ 58 (d := dM "NotMatched" "NotMatched.__init__" (met 40)) rfl
  exact errC_of X G (c := ⟨"NotMatched", xRun, "value", ""⟩) (x.ec _ (List.mem_of_getElem? (i := 29) rfl)) F ⟨_, _, _, _, rfl⟩ ⟨rfl, rfl, rfl, by decide +kernel, rfl, by decide +kernel, by decide +kernel⟩ rfl rfl rfl rfl (fun _ _ _ _ _ _ _ _ => rfl) (fun _ _ _ _ _ _ _ _ => rfl)
theorem e_NoMatching (X : K.In h) (G : h.Ns mainGlobals mg) (x : XF K) : Err0 K mg xRun "NoMatching" (ga K "NoMatching") := err0_of X G (c := ⟨"NoMatching", xRun, "", ""⟩) (x.e0 _ (List.mem_of_getElem? (i := 3) rfl))
theorem e_BrokenFan (X : K.In h) (G : h.Ns mainGlobals mg) (x : XF K) (c : SaysD faK fnK K) : ErrC P w K mg base xRun "BrokenFan" "value" (ga K "BrokenFan") := by
  obtain ⟨fd, F⟩ := c.def_ 59 (d := dM "BrokenFan" "BrokenFan.__init__" (met 42)) rfl
  exact errC_of X G (c := ⟨"BrokenFan", xRun, "value", ""⟩) (x.ec _ (List.mem_of_getElem? (i := 30) rfl)) F ⟨_, _, _, _, rfl⟩ ⟨rfl, rfl, rfl, by decide +kernel, rfl, by decide +kernel, by decide +kernel⟩ rfl rfl rfl rfl (fun _ _ _ _ _ _ _ _ => rfl) (fun _ _ _ _ _ _ _ _ => rfl)
theorem e_NoFan (X : K.In h) (G : h.Ns mainGlobals mg) (x : XF K) (c : SaysD faK fnK K) : ErrC P w K mg base xRun "NoFan" "value" (ga K "NoFan") := by
  obtain ⟨fd, F⟩ := c.def_ 60 (d := dM "NoFan" "NoFan.__init__" (met 43)) rfl
  exact errC_of X G (c := ⟨"NoFan", xRun, "value", ""⟩) (x.ec _ (List.mem_of_getElem? (i := 31) rfl)) F ⟨_, _, _, _, rfl⟩ ⟨rfl, rfl, rfl, by decide +kernel, rfl, by decide +kernel, by decide +kernel⟩ rfl rfl rfl rfl (fun _ _ _ _ _ _ _ _ => rfl) (fun _ _ _ _ _ _ _ _ => rfl)
theorem e_NotStanding (X : K.In h) (G : h.Ns mainGlobals mg) (x : XF K) (c : SaysD faK fnK K) : ErrC P w K mg base xRun "NotStanding" "value" (ga K "NotStanding") := by
  obtain ⟨fd, F⟩ := c.def_ 61 (d := dM "NotStanding" "NotStanding.__init__" (met 44)) rfl
  exact errC_of X G (c := ⟨"NotStanding", xRun, "value", ""⟩) (x.ec _ (List.mem_of_getElem? (i := 32) rfl)) F ⟨_, _, _, _, rfl⟩ ⟨rfl, rfl, rfl, by decide +kernel, rfl, by decide +kernel, by decide +kernel⟩ rfl rfl rfl rfl (fun _ _ _ _ _ _ _ _ => rfl) (fun _ _ _ _ _ _ _ _ => rfl)
theorem e_TakenAnswer (X : K.In h) (G : h.Ns mainGlobals mg) (x : XF K) (c : SaysD faK fnK K) : ErrC P w K mg base xRun "TakenAnswer" "value" (ga K "TakenAnswer") := by
  obtain ⟨fd, F⟩ := c.def_ 62 (d := dM "TakenAnswer" "TakenAnswer.__init__" (met 45)) rfl
  exact errC_of X G (c := ⟨"TakenAnswer", xRun, "value", ""⟩) (x.ec _ (List.mem_of_getElem? (i := 33) rfl)) F ⟨_, _, _, _, rfl⟩ ⟨rfl, rfl, rfl, by decide +kernel, rfl, by decide +kernel, by decide +kernel⟩ rfl rfl rfl rfl (fun _ _ _ _ _ _ _ _ => rfl) (fun _ _ _ _ _ _ _ _ => rfl)
theorem e_SharedCall (X : K.In h) (G : h.Ns mainGlobals mg) (x : XF K) (c : SaysD faK fnK K) : ErrC P w K mg base xRun "SharedCall" "value" (ga K "SharedCall") := by
  obtain ⟨fd, F⟩ := c.def_ 63 (d := dM "SharedCall" "SharedCall.__init__" (met 46)) rfl
  exact errC_of X G (c := ⟨"SharedCall", xRun, "value", ""⟩) (x.ec _ (List.mem_of_getElem? (i := 34) rfl)) F ⟨_, _, _, _, rfl⟩ ⟨rfl, rfl, rfl, by decide +kernel, rfl, by decide +kernel, by decide +kernel⟩ rfl rfl rfl rfl (fun _ _ _ _ _ _ _ _ => rfl) (fun _ _ _ _ _ _ _ _ => rfl)
theorem e_NotGiven (X : K.In h) (G : h.Ns mainGlobals mg) (x : XF K) (c : SaysD faK fnK K) : ErrC P w K mg base xRun "NotGiven" "position" (ga K "NotGiven") := by
  obtain ⟨fd, F⟩ := c.def_ 64 (d := dM "NotGiven" "NotGiven.__init__" (met 47)) rfl
  exact errC_of X G (c := ⟨"NotGiven", xRun, "position", ""⟩) (x.ec _ (List.mem_of_getElem? (i := 35) rfl)) F ⟨_, _, _, _, rfl⟩ ⟨rfl, rfl, rfl, by decide +kernel, rfl, by decide +kernel, by decide +kernel⟩ rfl rfl rfl rfl (fun _ _ _ _ _ _ _ _ => rfl) (fun _ _ _ _ _ _ _ _ => rfl)
theorem e_TakenName (X : K.In h) (G : h.Ns mainGlobals mg) (x : XF K) (c : SaysD faK fnK K) : ErrC P w K mg base xRun "TakenName" "value" (ga K "TakenName") := by
  obtain ⟨fd, F⟩ := c.def_ 65 (d := dM "TakenName" "TakenName.__init__" (met 48)) rfl
  exact errC_of X G (c := ⟨"TakenName", xRun, "value", ""⟩) (x.ec _ (List.mem_of_getElem? (i := 36) rfl)) F ⟨_, _, _, _, rfl⟩ ⟨rfl, rfl, rfl, by decide +kernel, rfl, by decide +kernel, by decide +kernel⟩ rfl rfl rfl rfl (fun _ _ _ _ _ _ _ _ => rfl) (fun _ _ _ _ _ _ _ _ => rfl)
theorem e_NothingToUndo (X : K.In h) (G : h.Ns mainGlobals mg) (x : XF K) : Err0 K mg xRun "NothingToUndo" (ga K "NothingToUndo") := err0_of X G (c := ⟨"NothingToUndo", xRun, "", ""⟩) (x.e0 _ (List.mem_of_getElem? (i := 4) rfl))
theorem e_Untrue (X : K.In h) (G : h.Ns mainGlobals mg) (x : XF K) : Err0 K mg xRun "Untrue" (ga K "Untrue") := err0_of X G (c := ⟨"Untrue", xRun, "", ""⟩) (x.e0 _ (List.mem_of_getElem? (i := 5) rfl))
theorem e_CommandFailed (X : K.In h) (G : h.Ns mainGlobals mg) (x : XF K) (c : SaysD faK fnK K) : ErrC P w K mg base xRun "CommandFailed" "position" (ga K "CommandFailed") := by
  obtain ⟨fd, F⟩ := c.def_ 66 (d := dM "CommandFailed" "CommandFailed.__init__" (met 51)) rfl
  exact errC_of X G (c := ⟨"CommandFailed", xRun, "position", ""⟩) (x.ec _ (List.mem_of_getElem? (i := 37) rfl)) F ⟨_, _, _, _, rfl⟩ ⟨rfl, rfl, rfl, by decide +kernel, rfl, by decide +kernel, by decide +kernel⟩ rfl rfl rfl rfl (fun _ _ _ _ _ _ _ _ => rfl) (fun _ _ _ _ _ _ _ _ => rfl)
theorem e_LimitError (X : K.In h) (G : h.Ns mainGlobals mg) (x : XF K) : Err0 K mg xAri "LimitError" (ga K "LimitError") := err0_of X G (c := ⟨"LimitError", xAri, "", ""⟩) (x.e0 _ (List.mem_of_getElem? (i := 6) rfl))
theorem e_TooMany (X : K.In h) (G : h.Ns mainGlobals mg) (x : XF K) (c : SaysD faK fnK K) : ErrC2 P w K mg base xAri "TooMany" "what" "limit" (ga K "TooMany") := by
  obtain ⟨fd, F⟩ := c.def_ 67 (d := dM "TooMany" "TooMany.__init__" (met 53)) rfl
  exact errC2_of X G (c := ⟨"TooMany", xAri, "what", "limit"⟩) (x.ec _ (List.mem_of_getElem? (i := 38) rfl)) F ⟨_, _, _, _, _, _, _, _, rfl⟩ ⟨rfl, rfl, rfl, by decide +kernel, rfl, by decide +kernel, by decide +kernel⟩ rfl rfl rfl rfl rfl rfl rfl (fun _ _ _ _ _ _ _ _ _ => rfl) (fun _ _ _ _ _ _ _ _ _ => rfl)
theorem es_of (X : K.In h) (G : h.Ns mainGlobals mg) (x : XF K) (c : SaysD faK fnK K) : ErrSet P w K mg base := ⟨e_BoxError X G x, e_InvalidStates X G x c, e_InvalidStarts X G x c, e_InvalidSteps X G x c, e_InvalidStep X G x c, e_InvalidState X G x c, e_InvalidOrder X G x c, e_InvalidSet X G x c, e_InvalidRow X G x c, e_InvalidSign X G x c, e_InvalidSigns X G x c, e_InvalidCall X G x c, e_InvalidCalls X G x c, e_InvalidNames X G x c, e_InvalidName X G x c, e_InvalidNumber X G x c, e_InvalidKind X G x c, e_InvalidReading X G x c, e_InvalidHidden X G x c, e_InvalidPairs X G x c, e_InvalidMatching X G x c, e_InvalidFan X G x c, e_InvalidMiddle X G x c, e_InvalidFamily X G x c, e_InvalidBox X G x c, e_InvalidText X G x c, e_InvalidClaim X G x c, e_InvalidCommand X G x c, e_MissingError X G x, e_UnknownStep X G x c, e_UnknownName X G x c, e_StateError X G x, e_NotMatched X G x c, e_NoMatching X G x, e_BrokenFan X G x c, e_NoFan X G x c, e_NotStanding X G x c, e_TakenAnswer X G x c, e_SharedCall X G x c, e_NotGiven X G x c, e_TakenName X G x c, e_NothingToUndo X G x, e_Untrue X G x, e_CommandFailed X G x c, e_LimitError X G x, e_TooMany X G x c⟩
theorem at_is_integer (X : K.In h) (G : h.Ns mainGlobals mg) (c : SaysD faK fnK K) : At K mg "is_integer" s_is_integer := ⟨by
  obtain ⟨fd, F⟩ := c.def_ 0 (d := dD "is_integer" s_is_integer) rfl
  exact ⟨_, fd, funD_fun F, glo_ok X G (c.fact 26 (f := .glo "is_integer") rfl)⟩⟩
theorem at_is_count (X : K.In h) (G : h.Ns mainGlobals mg) (c : SaysD faK fnK K) : At K mg "is_count" s_is_count := ⟨by
  obtain ⟨fd, F⟩ := c.def_ 1 (d := dD "is_count" s_is_count) rfl
  exact ⟨_, fd, funD_fun F, glo_ok X G (c.fact 27 (f := .glo "is_count") rfl)⟩⟩
theorem at_is_name (X : K.In h) (G : h.Ns mainGlobals mg) (c : SaysD faK fnK K) : At K mg "is_name" s_is_name := ⟨by
  obtain ⟨fd, F⟩ := c.def_ 2 (d := dD "is_name" s_is_name) rfl
  exact ⟨_, fd, funD_fun F, glo_ok X G (c.fact 28 (f := .glo "is_name") rfl)⟩⟩
theorem at_is_sign (X : K.In h) (G : h.Ns mainGlobals mg) (c : SaysD faK fnK K) : At K mg "is_sign" s_is_sign := ⟨by
  obtain ⟨fd, F⟩ := c.def_ 3 (d := dD "is_sign" s_is_sign) rfl
  exact ⟨_, fd, funD_fun F, glo_ok X G (c.fact 29 (f := .glo "is_sign") rfl)⟩⟩
theorem at_is_row (X : K.In h) (G : h.Ns mainGlobals mg) (c : SaysD faK fnK K) : At K mg "is_row" s_is_row := ⟨by
  obtain ⟨fd, F⟩ := c.def_ 4 (d := dD "is_row" s_is_row) rfl
  exact ⟨_, fd, funD_fun F, glo_ok X G (c.fact 30 (f := .glo "is_row") rfl)⟩⟩
theorem at_is_list (X : K.In h) (G : h.Ns mainGlobals mg) (c : SaysD faK fnK K) : At K mg "is_list" s_is_list := ⟨by
  obtain ⟨fd, F⟩ := c.def_ 5 (d := dD "is_list" s_is_list) rfl
  exact ⟨_, fd, funD_fun F, glo_ok X G (c.fact 31 (f := .glo "is_list") rfl)⟩⟩
theorem at__law_pot (X : K.In h) (G : h.Ns mainGlobals mg) (c : SaysD faK fnK K) : At K mg "_law_pot" s_law_pot := ⟨by
  obtain ⟨fd, F⟩ := c.def_ 6 (d := dD "_law_pot" s_law_pot) rfl
  exact ⟨_, fd, funD_fun F, glo_ok X G (c.fact 32 (f := .glo "_law_pot") rfl)⟩⟩
theorem at__law_draw (X : K.In h) (G : h.Ns mainGlobals mg) (c : SaysD faK fnK K) : At K mg "_law_draw" s_law_draw := ⟨by
  obtain ⟨fd, F⟩ := c.def_ 7 (d := dD "_law_draw" s_law_draw) rfl
  exact ⟨_, fd, funD_fun F, glo_ok X G (c.fact 33 (f := .glo "_law_draw") rfl)⟩⟩
theorem at__law_pick (X : K.In h) (G : h.Ns mainGlobals mg) (c : SaysD faK fnK K) : At K mg "_law_pick" s_law_pick := ⟨by
  obtain ⟨fd, F⟩ := c.def_ 8 (d := dD "_law_pick" s_law_pick) rfl
  exact ⟨_, fd, funD_fun F, glo_ok X G (c.fact 34 (f := .glo "_law_pick") rfl)⟩⟩
theorem at__law_thing (X : K.In h) (G : h.Ns mainGlobals mg) (c : SaysD faK fnK K) : At K mg "_law_thing" s_law_thing := ⟨by
  obtain ⟨fd, F⟩ := c.def_ 9 (d := dD "_law_thing" s_law_thing) rfl
  exact ⟨_, fd, funD_fun F, glo_ok X G (c.fact 35 (f := .glo "_law_thing") rfl)⟩⟩
theorem at__law_placed (X : K.In h) (G : h.Ns mainGlobals mg) (c : SaysD faK fnK K) : At K mg "_law_placed" s_law_placed := ⟨by
  obtain ⟨fd, F⟩ := c.def_ 10 (d := dD "_law_placed" s_law_placed) rfl
  exact ⟨_, fd, funD_fun F, glo_ok X G (c.fact 36 (f := .glo "_law_placed") rfl)⟩⟩
theorem at__law_valued (X : K.In h) (G : h.Ns mainGlobals mg) (c : SaysD faK fnK K) : At K mg "_law_valued" s_law_valued := ⟨by
  obtain ⟨fd, F⟩ := c.def_ 11 (d := dD "_law_valued" s_law_valued) rfl
  exact ⟨_, fd, funD_fun F, glo_ok X G (c.fact 37 (f := .glo "_law_valued") rfl)⟩⟩
theorem at__law_stood (X : K.In h) (G : h.Ns mainGlobals mg) (c : SaysD faK fnK K) : At K mg "_law_stood" s_law_stood := ⟨by
  obtain ⟨fd, F⟩ := c.def_ 12 (d := dD "_law_stood" s_law_stood) rfl
  exact ⟨_, fd, funD_fun F, glo_ok X G (c.fact 38 (f := .glo "_law_stood") rfl)⟩⟩
theorem at__law_placed_by_name (X : K.In h) (G : h.Ns mainGlobals mg) (c : SaysD faK fnK K) : At K mg "_law_placed_by_name" s_law_placed_by_name := ⟨by
  obtain ⟨fd, F⟩ := c.def_ 13 (d := dD "_law_placed_by_name" s_law_placed_by_name) rfl
  exact ⟨_, fd, funD_fun F, glo_ok X G (c.fact 39 (f := .glo "_law_placed_by_name") rfl)⟩⟩
theorem at__law_valued_by_name (X : K.In h) (G : h.Ns mainGlobals mg) (c : SaysD faK fnK K) : At K mg "_law_valued_by_name" s_law_valued_by_name := ⟨by
  obtain ⟨fd, F⟩ := c.def_ 14 (d := dD "_law_valued_by_name" s_law_valued_by_name) rfl
  exact ⟨_, fd, funD_fun F, glo_ok X G (c.fact 40 (f := .glo "_law_valued_by_name") rfl)⟩⟩
theorem at__law_every (X : K.In h) (G : h.Ns mainGlobals mg) (c : SaysD faK fnK K) : At K mg "_law_every" s_law_every := ⟨by
  obtain ⟨fd, F⟩ := c.def_ 15 (d := dD "_law_every" s_law_every) rfl
  exact ⟨_, fd, funD_fun F, glo_ok X G (c.fact 41 (f := .glo "_law_every") rfl)⟩⟩
theorem at__law_of_boxes (X : K.In h) (G : h.Ns mainGlobals mg) (c : SaysD faK fnK K) : At K mg "_law_of_boxes" s_law_of_boxes := ⟨by
  obtain ⟨fd, F⟩ := c.def_ 16 (d := dD "_law_of_boxes" s_law_of_boxes) rfl
  exact ⟨_, fd, funD_fun F, glo_ok X G (c.fact 42 (f := .glo "_law_of_boxes") rfl)⟩⟩
theorem at__law_of_others (X : K.In h) (G : h.Ns mainGlobals mg) (c : SaysD faK fnK K) : At K mg "_law_of_others" s_law_of_others := ⟨by
  obtain ⟨fd, F⟩ := c.def_ 17 (d := dD "_law_of_others" s_law_of_others) rfl
  exact ⟨_, fd, funD_fun F, glo_ok X G (c.fact 43 (f := .glo "_law_of_others") rfl)⟩⟩
theorem at__law_families (X : K.In h) (G : h.Ns mainGlobals mg) (c : SaysD faK fnK K) : At K mg "_law_families" s_law_families := ⟨by
  obtain ⟨fd, F⟩ := c.def_ 18 (d := dD "_law_families" s_law_families) rfl
  exact ⟨_, fd, funD_fun F, glo_ok X G (c.fact 44 (f := .glo "_law_families") rfl)⟩⟩
theorem at__law_kept_right (X : K.In h) (G : h.Ns mainGlobals mg) (c : SaysD faK fnK K) : At K mg "_law_kept_right" s_law_kept_right := ⟨by
  obtain ⟨fd, F⟩ := c.def_ 19 (d := dD "_law_kept_right" s_law_kept_right) rfl
  exact ⟨_, fd, funD_fun F, glo_ok X G (c.fact 45 (f := .glo "_law_kept_right") rfl)⟩⟩
theorem at__law_kinds_right (X : K.In h) (G : h.Ns mainGlobals mg) (c : SaysD faK fnK K) : At K mg "_law_kinds_right" s_law_kinds_right := ⟨by
  obtain ⟨fd, F⟩ := c.def_ 20 (d := dD "_law_kinds_right" s_law_kinds_right) rfl
  exact ⟨_, fd, funD_fun F, glo_ok X G (c.fact 46 (f := .glo "_law_kinds_right") rfl)⟩⟩
theorem at__law_is_number (X : K.In h) (G : h.Ns mainGlobals mg) (c : SaysD faK fnK K) : At K mg "_law_is_number" s_law_is_number := ⟨by
  obtain ⟨fd, F⟩ := c.def_ 21 (d := dD "_law_is_number" s_law_is_number) rfl
  exact ⟨_, fd, funD_fun F, glo_ok X G (c.fact 47 (f := .glo "_law_is_number") rfl)⟩⟩
theorem at__law_is_word (X : K.In h) (G : h.Ns mainGlobals mg) (c : SaysD faK fnK K) : At K mg "_law_is_word" s_law_is_word := ⟨by
  obtain ⟨fd, F⟩ := c.def_ 22 (d := dD "_law_is_word" s_law_is_word) rfl
  exact ⟨_, fd, funD_fun F, glo_ok X G (c.fact 48 (f := .glo "_law_is_word") rfl)⟩⟩
theorem at__law_is_pair (X : K.In h) (G : h.Ns mainGlobals mg) (c : SaysD faK fnK K) : At K mg "_law_is_pair" s_law_is_pair := ⟨by
  obtain ⟨fd, F⟩ := c.def_ 23 (d := dD "_law_is_pair" s_law_is_pair) rfl
  exact ⟨_, fd, funD_fun F, glo_ok X G (c.fact 49 (f := .glo "_law_is_pair") rfl)⟩⟩
theorem at__law_word (X : K.In h) (G : h.Ns mainGlobals mg) (c : SaysD faK fnK K) : At K mg "_law_word" s_law_word := ⟨by
  obtain ⟨fd, F⟩ := c.def_ 24 (d := dD "_law_word" s_law_word) rfl
  exact ⟨_, fd, funD_fun F, glo_ok X G (c.fact 50 (f := .glo "_law_word") rfl)⟩⟩
theorem at__law_things (X : K.In h) (G : h.Ns mainGlobals mg) (c : SaysD faK fnK K) : At K mg "_law_things" s_law_things := ⟨by
  obtain ⟨fd, F⟩ := c.def_ 25 (d := dD "_law_things" s_law_things) rfl
  exact ⟨_, fd, funD_fun F, glo_ok X G (c.fact 51 (f := .glo "_law_things") rfl)⟩⟩
theorem at__law_basics_right (X : K.In h) (G : h.Ns mainGlobals mg) (c : SaysD faK fnK K) : At K mg "_law_basics_right" s_law_basics_right := ⟨by
  obtain ⟨fd, F⟩ := c.def_ 26 (d := dD "_law_basics_right" s_law_basics_right) rfl
  exact ⟨_, fd, funD_fun F, glo_ok X G (c.fact 52 (f := .glo "_law_basics_right") rfl)⟩⟩
theorem at__law_right (X : K.In h) (G : h.Ns mainGlobals mg) (c : SaysD faK fnK K) : At K mg "_law_right" s_law_right := ⟨by
  obtain ⟨fd, F⟩ := c.def_ 27 (d := dD "_law_right" s_law_right) rfl
  exact ⟨_, fd, funD_fun F, glo_ok X G (c.fact 53 (f := .glo "_law_right") rfl)⟩⟩
theorem at_law (X : K.In h) (G : h.Ns mainGlobals mg) (c : SaysD faK fnK K) : At K mg "law" s_law := ⟨by
  obtain ⟨fd, F⟩ := c.def_ 28 (d := dD "law" s_law) rfl
  exact ⟨_, fd, funD_fun F, glo_ok X G (c.fact 54 (f := .glo "law") rfl)⟩⟩
theorem bi_K (X : K.In h) (G : h.Ns mainGlobals mg) (c : SaysD faK fnK K) : BI mg := bi_of X G fun i f e => c.fact i (f := f) (by
  rw [show faK = biFa ++ faD from rfl, List.getElem?_append_left (List.getElem?_eq_some_iff.mp e).1]
  exact e)
theorem kn_sub : ∀ x ∈ kNames, x ∈ (ecs ++ ec0).map EC.x := by decide +kernel
theorem kd_of (x : XF K) : Kinds K := by
  refine ⟨fun n hn => ?_, x.ia, x.fa⟩
  obtain ⟨c, hc, rfl⟩ := List.mem_map.mp (kn_sub n hn)
  rcases List.mem_append.mp hc with h | h
  · exact ⟨c.b, xcB_ok (ba (x.ec c h)).1⟩
  · exact ⟨c.b, xcB_ok (ba (x.e0 c h)).1⟩
theorem law_fn (X : K.In h) (G : h.Ns mainGlobals mg) (x : XF K) (c : SaysD faK fnK K) (inB : K.In base) {fd : FuncData} (F : Fun K "law" "law" s_law (ga K "law") fd) : FnG P w K mg base CX0 7 (ga K "law") fd ["_law_script"] (spLaw K) := by
  have T := bi_K X G c
  have ES : ErrSet P w K mg base := es_of X G x c
  have XG := xgB_ok x.xg
  have KD := kd_of x
  have draw := cd_draw (P := P) (w := w) (base := base) (at__law_draw X G c) T
  have pick := cd_pick (at__law_pick X G c) T draw
  have pickS := cd_pickS (at__law_pick X G c) T draw
  have pot := cd_pot (P := P) (w := w) (base := base) (at__law_pot X G c) T
  have thing := cd_thing (at__law_thing X G c) pick
  have placed := cd_placed (at__law_placed X G c) ES
  have valued := cd_valued (at__law_valued X G c) ES
  have stood := cd_stood (at__law_stood X G c) ES
  have pbn := cd_placed_by_name (at__law_placed_by_name X G c) ES
  have vbn := cd_valued_by_name (at__law_valued_by_name X G c) ES
  have every := cd_every (at__law_every X G c) ES placed valued stood
  have ob := cd_of_boxes (at__law_of_boxes X G c) T ES XG
  have oo := cd_of_others (at__law_of_others X G c) T ES XG
  have fam := cd_families (at__law_families X G c) T ES XG
  have kept := cd_kept_right (at__law_kept_right X G c) T ES thing placed valued stood pbn vbn every
  have kinds := cd_kinds_right (at__law_kinds_right X G c) T KD thing every ob oo fam
  have isn := cd_is_number (P := P) (w := w) (base := base) (at__law_is_number X G c) T
  have isw := cd_is_word (P := P) (w := w) (base := base) (at__law_is_word X G c) T
  have isp := cd_is_pair (at__law_is_pair X G c) T isw
  have word := cd_word (at__law_word X G c) T draw pickS
  have menu := cd_things (at__law_things X G c) T draw word
  have p1 := cd_is_integer (P := P) (w := w) (base := base) (at_is_integer X G c) T
  have p2 := cd_is_count (at_is_count X G c) T p1.cd
  have p3 := cd_is_name (P := P) (w := w) (base := base) (at_is_name X G c) T
  have p4 := cd_is_sign (at_is_sign X G c) T p3.cd
  have p5 := cd_is_list (P := P) (w := w) (base := base) (at_is_list X G c) T
  have p6 := cd_is_row (at_is_row X G c) T p5 p4.cd
  have basics := cd_basics_right (at__law_basics_right X G c) T menu isn isw isp p1 p2 p3 p4 p6
  have right := cd_right (at__law_right X G c) T kept kinds basics
  exact fn_law F T right pot
theorem facts (X : K.In h) (G : h.Ns mainGlobals mg) (x : xbK K = true) (c : SaysD faK fnK K) : ∃ fd : FuncData, (∀ (s : Shared) (v : Value), BindsTo s fd ⟨[v], []⟩ [("_law_script", v)]) ∧
    ∀ base : Heap, K.In base → base.Ns mainGlobals mg → FnG P w K mg base CX0 7 (ga K "law") fd ["_law_script"] (spLaw K) := by
  obtain ⟨fd, F⟩ := c.def_ 28 (d := dD "law" s_law) rfl
  have b := FunD.bindsA (ps := ["_law_script"]) F fun _ _ _ _ _ _ us hl => match us, hl with | [_], _ => rfl
  exact ⟨fd, fun s v => b s [v] rfl, fun base hB gB => law_fn hB gB (xf_of x) c hB (funD_fun F)⟩
end
end K10
/-! ## KFIN -/
set_option Elab.async false
set_option linter.all false
set_option maxRecDepth 100000
set_option maxHeartbeats 0
open PySem PySem.W PySem.Calls PyProof.Rows
theorem PySem.Challenge.cw_aheadbehind_k10_errors_and_basics_holds : PySem.Challenge.rw_aheadbehind_k10_errors_and_basics.Holds := by
  w_on; o_law
  refine HandSHeadRun.head_any (r := K10.R) (q := K10.qv) (H := K10.hk) (ob := K10.ob) (M := 20000) (loose := K10.names) (d := HandSHeadRun.topDef K10.R.prog 77) (kwd := []) K10.ob_eq
    (by kernel_rfl) (fun s => by kernel_rfl) K10.run (by kernel_rfl) (by kernel_rfl) (by kernel_rfl) (by rfl) (by first | assumption | decide +kernel) (by decide +kernel) ⟨rfl, rfl, rfl, rfl, rfl, by decide +kernel⟩ ?hw ?hc
  case hw => w_witness2
  case hc =>
    refine Vx.walkG (l := PySem.Challenge.rw_aheadbehind_k10_errors_and_basics) (n := 63) (k := 7) (x := "_law_script") rfl (by decide) (by kernel_rfl) ⟨rfl, by decide, by decide⟩ ?F
    intro w mg fa h Y G hmg0
    obtain ⟨K, KX, xb, c⟩ := Y
    have hmg : mg ("law" : PySem.Str) = some (.ref fa) := by
      have e : (HandSHeadRun.topDef K10.R.prog 77).name = ("law" : PySem.Str) := by kernel_rfl
      rw [← e]
      exact hmg0
    cases hmg.symm.trans (He.glo_ok KX G (c.fact 54 (f := .glo "law") rfl))
    obtain ⟨fd, hb, hF⟩ := K10.facts (P := (PySem.Challenge.rw_aheadbehind_k10_errors_and_basics).prog) (w := w) KX G xb c
    exact ⟨K, fd, K10.spLaw K, KX, hb, fun H a zs hl hS => ⟨a, zs, rfl, hS, Nat.le_trans hl (by decide), fun _ => rfl⟩, hF⟩
