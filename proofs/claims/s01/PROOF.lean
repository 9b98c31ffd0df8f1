import PyProof.Rows.All
import Wide.All
import OpenK.AllK
import Wide.FinOn
import PyProof.EqAt
import PyProof.EqKinds
import PyProof.TupleCall
import HandS.ForSpec
import HandS.Comp
import HandS.Nested
import HandS.SortKw
import KE.KMinKey
import KE.DataMinMax
import HandS.Iter
import HandS.Zip
import HandS.ExcOwn
import KE.GoesEnumKw
import KE.GoesRaise
import Open.SpecLaws
import KE.OsGo
import KE.KNest
import HandS.Walk
import HandS.Conv
import HandS.Flt
import HandS.TryMany
import HandS.SetFor
import HandS.Small
import HandS.RaiseMore
import PySem.Challenge.RW_releasesdesk_s01_answers
set_option Elab.async false
set_option linter.all false
set_option maxRecDepth 100000
set_option maxHeartbeats 4000000
/-! min(list, key=lambda ..), with default=None or without, where the lambda makes new things; max(list, default=d) of ints. -/
namespace Rd
open PySem PySem.Spec PyProof.Rows L2 LamX NdefX
/-! ### a lambda with parameters: what its call is worth. F tells its words (no statements), x its expression -/
abbrev LamAt (h : Heap) (f : Addr) (F : NF) (x : Expr) : Prop := ∃ pm ctv : Value, h.get? f = some (PySem.W.kla_obj F.name F.qual F.params x F.scope F.cl pm F.c ctv)
structure LOk (P : Program) (w : World) (K : PySem.W.Frag) (mg : Str → Option Value) (base : Heap) (n : Nat) (F : NF) (x : Expr) (ar fr : List Str) (sp : List (Option V) → Sp) : Prop where
  many : ∀ ws vs H Q E, sp ws vs H Q E → vs.length = ar.length
  does : ∀ {f : Addr} {A : Around} {fs : List Env} {z : Shared} {H : Hp} {us : List Value} {vs : List V} {ws : List (Option V)} {Q : VK}, Room n A → Env0 P w K mg base A fs z H → LamAt z.heap f F x → H F.c = some (CodeO F.c F.qual) →
    CellsAt F.cl fr ws z.heap H → Vals vs us → sp ws vs H Q (fun _ _ _ => False) → codeAny (model P w) A (.call (.ref f) ⟨us, []⟩) (CR (fun _ _ _ _ _ _ => False) fs P w H z Q fun _ _ _ => False) z
theorem lok_by {P : Program} {w : World} {K : PySem.W.Frag} {mg : Str → Option Value} {base : Heap} {N ar fr : List Str} {F : NF} {x : Expr} {n : Nat} {sp : List (Option V) → Sp} (S : NScope N ar fr F.scope)
    (bind : ∀ (pm ctv : Value) (us : List Value), us.length = ar.length → bindArgs (PySem.W.kla_fn F.name F.qual F.params x F.scope F.cl pm (.ref F.c) ctv) ⟨us, []⟩ = pure (ar.zip us)) (many : ∀ ws vs H Q E, sp ws vs H Q E → vs.length = ar.length)
    (body : ∀ (f : Addr) (A : Around) (fs : List Env) (z : Shared) (H : Hp) (vs : List V) (ws : List (Option V)) (Q : VK), Room n (A.deeper (envF F f z.heap.objs.size)) → H F.c = some (CodeO F.c F.qual) → ws.length = fr.length → sp ws vs H Q (fun _ _ _ => False) →
      ∃ t, PE (ncx (fun _ _ _ _ _ _ => False) P w K mg base N F f A fs z H fun _ _ _ => False) x t ∧ t (startF N vs ws) H Q) : LOk P w K mg base (n + 1) F x ar fr sp where
  many := many
  does := by
    intro f A fs z H us vs ws Q room e0 at_ code cells rel want
    obtain ⟨pm, ctv, obj⟩ := at_
    have lenV : vs.length = ar.length := many _ _ _ _ _ want
    have noLim : z.heap.NoLimit := e0.mod.nolimit.keeps fun b o q => (e0.bs b o q).1
    refine PySem.W.kla_callFunE room.depth obj rfl S.co S.gen rfl (codeO_at e0.hok code) ?_
    rw [bind pm ctv us ((Vals.length rel).symm.trans lenV)]
    refine wpAny_pure (wpAny_newFunctionEnv S.nocell (fun y hy => S.par y.1 (List.of_mem_zip hy).1) (fun g ns same => ⟨noLim.fresh _ same, ?_⟩) S.kind)
    have grown : ∀ b o, z.heap.get? b = some o → g.get? b = some o := fun b o q => same.extBut b o (Nat.ne_of_lt (Heap.lt_size q)) (Heap.get?_push_of_some _ q)
    obtain ⟨t, text, reading⟩ := body f A fs z H vs ws Q (room.deeper _) code cells.len want
    have J := inv_startN (CX := fun _ _ _ _ _ _ => False) (f := f) (E := fun _ _ _ => False) (tk := z.toks + (ar.zip us).length) S room.hd e0 lenV rel cells ns grown
    refine PySem.W.kla_codeExpr (wpAny_mono (text.run [] _ (startF N vs ws) H _ J reading) (fun v z' ⟨y, H', J', ry, qy⟩ => ⟨y, H', J'.os, J'.bare, J'.base, J'.hok, ry, qy⟩) fun _ _ q => q)
/-! ### the key's call -/
section
variable {X : Cx} {pins : List (Addr × Obj)} {σ : L2.St} {H : Hp} {z : Shared} {mk : Addr → NF} {body : Expr} {ar fr : List Str} {js : List Nat} {n : Nat} {sp : List (Option V) → Sp} {f c : Addr}
/-- what the lambda with the code object at c makes of y -/
def tKey (mk : Addr → NF) (js : List Nat) (sp : List (Option V) → Sp) (c : Addr) (σ : L2.St) (y : V) : Hp → VK → Prop := fun H Q => H c = some (CodeO c (mk c).qual) ∧ sp (js.map (slotAt σ)) [y] H Q fun _ _ _ => False
theorem key_run {Q : VK} {y : V} {u : Value} (L : LOk X.prog X.w X.K X.mg X.base n (mk c) body ar fr sp) (caps : X.Ok → Caps X (mk c).cl fr js) (cc : (mk c).c = c) (room : Room (n + 1) X.A) (I : Inv X pins σ H z) (at_ : LamAt z.heap f (mk c) body) (ry : RelV y u) (want : tKey mk js sp c σ y H Q) :
    wpAny (model X.prog X.w) X.A.in1 (call (.ref f) [u]) (EP X pins σ Q) (fun _ _ => False) z := by
  refine wpAny_call (codeAny_mono (L.does room.in1 I.env0.in1 at_ (by rw [cc]; exact want.1) (cells_of I (caps I.ok)) (.cons ry .nil) want.2) fun r z' got => ?_)
  match r, got with
  | .ok (.ret v), got => exact I.after got
  | .ok .next, got => exact got.elim
  | .ok .brk, got => exact got.elim
  | .ok .cont, got => exact got.elim
  | .error e, got => exact False.elim got
/-- y is less than kb: ints, or tuples of ints -/
def LtK (K : PySem.W.Frag) (H : Hp) (y kb : V) (b : Bool) : Prop :=
  (∃ i j, y = .int i ∧ kb = .int j ∧ b = decide (i < j)) ∨ ∃ t u ns ms, y = .ref t ∧ kb = .ref u ∧ SqT K H t (ns.map V.int) ∧ SqT K H u (ms.map V.int) ∧ b = HT.lexLt ns ms
theorem ltK_run {A : Around} {E : Value → Shared → Prop} {y kb : V} {v u : Value} {b : Bool} {Q : Value → Shared → Prop} (units : A.units < cLine) (I : Inv X pins σ H z) (ry : RelV y v) (rk : RelV kb u) (h : LtK X.K H y kb b) (want : Q (.bool b) z) : wpAny (model X.prog X.w) A (richCompare .Lt v u) Q E z := by
  rcases h with ⟨i, j, rfl, rfl, rfl⟩ | ⟨t, u', ns, ms, rfl, rfl, st, su, rfl⟩
  · obtain ⟨_, rfl⟩ := ry
    obtain ⟨_, rfl⟩ := rk
    exact lt_int want
  · cases ry
    cases rk
    obtain ⟨_, r1, p1, _⟩ := I.tuple st
    obtain ⟨_, r2, p2, _⟩ := I.tuple su
    exact HT.lt_tupInts p1 p2 (intsAre_of r1) (intsAre_of r2) units want
end
/-! ### the loop of min -/
abbrev two (u v : Value) (c : Nat) : Obj := { cls := .type "list", data := .seq #[u, v] c }
theorem min_name : (toString "min" ++ toString ".loop" : String) = "min.loop" := by decide
theorem min_enter {prog : Program} {w : World} {A : Around} {z : Shared} {as : Args} {R : Result → Shared → Prop} (h : wpAny (model prog w) A.in1 (Builtin.«min.loop» as) (fun fin z' => match fin with
      | .done g => R (.ok g) z'
      | .again c => c.quiet = true ∧ codeAny (model prog w) A c R z') (fun e z' => R (.error e) z') z) : codeAny (model prog w) A (.builtin "min.loop" as) R z :=
  codeAny_builtin PySem.F.entry_min_loop (by rw [Around.under_plainId PySem.F.plain_min_loop _]; exact h)
section
variable {X : Cx} {pins : List (Addr × Obj)} {σ : L2.St}
/-- two own records of a built-in, pinned while something else runs -/
theorem pin_two {a b : Addr} {H : Hp} {z : Shared} {oa ob : Obj} (I : Inv X pins σ H z) (fa : FpOk X pins H a) (fb : FpOk X pins H b) (ha : z.heap.get? a = some oa) (hb : z.heap.get? b = some ob) (na : ∀ v, oa.data ≠ .cell v) (nb : ∀ v, ob.data ≠ .cell v) : Inv X (pins ++ [(a, oa), (b, ob)]) σ H z :=
  I.pins_of fun p hp => by
    rcases List.mem_append.mp hp with old | new
    · exact I.pin p (List.mem_append_right _ old)
    · rcases List.mem_cons.mp new with rfl | new
      · exact ⟨ha, fa.1, fa.2.1, fa.2.2.1, na⟩
      · rw [List.mem_singleton.mp new]
        exact ⟨hb, fb.1, fb.2.1, fb.2.2.1, nb⟩
/-- what W says between two turns: the place, the heap, the best so far, its key -/
structure MinW (X : Cx) (cf : V → Hp → VK → Prop) (a : Addr) (xs : List V) (Q : VK) (W : Nat → Hp → V → V → Prop) : Prop where
  list : ∀ {j H b kb}, W j H b kb → SqL X.K H a xs
  last : ∀ {j H b kb}, W j H b kb → xs.length ≤ j + 1 → Q b H
  next : ∀ {j H b kb y}, W j H b kb → xs[j + 1]? = some y → cf y H fun ky H' => ∃ lt, LtK X.K H' ky kb lt ∧ (lt = true → W (j + 1) H' y ky) ∧ (lt = false → W (j + 1) H' b kb)
/-- the key's call under any further pins -/
abbrev KeyOk (X : Cx) (pins : List (Addr × Obj)) (σ : L2.St) (f : Addr) (cf : V → Hp → VK → Prop) : Prop := ∀ {more : List (Addr × Obj)} {z : Shared} {H : Hp} {y : V} {u : Value} {Q : VK}, Inv X (pins ++ more) σ H z → RelV y u → cf y H Q →
  wpAny (model X.prog X.w) X.A.in1 (call (.ref f) [u]) (EP X (pins ++ more) σ Q) (fun _ _ => False) z
/-- the end that the loop is to reach -/
abbrev MinR (X : Cx) (pins : List (Addr × Obj)) (σ : L2.St) (Q : VK) : Result → Shared → Prop := fun r z' => match r with
  | .ok (.ret got) => EP X pins σ Q got z'
  | _ => False
theorem min_go {a f it S : Addr} {xs : List V} {cf : V → Hp → VK → Prop} {kw : List (Str × Value)} {Q : VK} {W : Nat → Hp → V → V → Prop} (calm : X.calm = true) (units : X.A.in1.units < cLine) (key : KeyOk X pins σ f cf) (M : MinW X cf a xs Q W) (apart : it ≠ S) (left : Nat) :
    ∀ {j : Nat} {z : Shared} {H : Hp} {b kb : V} {ub uk : Value} {c : Nat}, xs.length = left + (j + 1) → Inv X pins σ H z → FpOk X pins H it → FpOk X pins H S → z.heap.IsListIter it a (j + 1) → z.heap.get? S = some (two ub uk c) → RelV b ub → RelV kb uk → W j H b kb →
      codeAny (model X.prog X.w) X.A (.builtin "min.loop" ⟨[.ref it, .ref f, .ref S], kw⟩) (MinR X pins σ Q) z := by
  induction left with
  | zero =>
    intro j z H b kb ub uk c len I fi fs iter hS rb rk w
    obtain ⟨us, rel, plain, _⟩ := I.list (M.list w)
    have lenU : us.length = j + 1 := by have := Vals.length rel; omega
    refine min_enter ?_
    show wpAny _ X.A.in1 (seqItems? (.ref S) >>= _) _ _ _
    refine wpAny_bind (wpAny_seqItems (items := #[ub, uk]) hS rfl ?_)
    show wpAny _ X.A.in1 (tryCatch (pyNext (.ref it)) _ >>= _) _ _ _
    refine wpAny_bind (wpAny_tryCatch (wpAny_pyNext_list_end (show X.A.in1.handled = none from I.ok.hd calm) iter plain.isList (by simp; omega) fun g grown => ?_))
    have J := I.turned (h' := g) (t' := z.toks) grown fi.1 fi.2.1 fi.2.2.2.1 fi.2.2.2.2.1 fi.2.2.2.2.2
    show wpAny _ X.A.in1 (updateSeq S (fun _ => #[]) >>= _) _ _ _
    have cleared := Heap.SameBut.update g S (Obj.mapSeq fun _ => (#[] : Array Value))
    refine wpAny_bind (wpAny_updateSeq (grown S _ (Ne.symm apart) hS) rfl (wpAny_bind (wpAny_letGo (wpAny_pure ⟨b, H, ?_, rb, M.last w (by omega)⟩))))
    exact J.turned (t' := z.toks) (fun d o hd e => (cleared.2 d hd).trans e) fs.1 fs.2.1 fs.2.2.2.1 fs.2.2.2.2.1 fs.2.2.2.2.2
  | succ left again =>
    intro j z H b kb ub uk c len I fi fs iter hS rb rk w
    obtain ⟨us, rel, plain, _⟩ := I.list (M.list w)
    obtain ⟨y, at_⟩ : ∃ y, xs[j + 1]? = some y := ⟨_, List.getElem?_eq_getElem (by omega)⟩
    obtain ⟨u, atU, ry⟩ := Vals.get rel at_
    refine min_enter ?_
    show wpAny _ X.A.in1 (seqItems? (.ref S) >>= _) _ _ _
    refine wpAny_bind (wpAny_seqItems (items := #[ub, uk]) hS rfl ?_)
    show wpAny _ X.A.in1 (tryCatch (pyNext (.ref it)) _ >>= _) _ _ _
    refine wpAny_bind (wpAny_tryCatch (wpAny_pyNext_list_item iter plain.isList (x := u) (by simpa using atU) fun g iter' same => ?_))
    have J := I.turned (h' := g) (t' := z.toks) (fun d o hd e => (same.2 d hd).trans e) fi.1 fi.2.1 fi.2.2.2.1 fi.2.2.2.2.1 fi.2.2.2.2.2
    have hS' : g.get? S = some (two ub uk c) := (same.2 S (Ne.symm apart)).trans hS
    obtain ⟨oi, hoi, cls, dat⟩ := id iter'
    have J2 := pin_two J fi fs hoi hS' (fun v q => by rw [dat] at q; cases q) fun v q => by cases q
    show wpAny _ X.A.in1 (tryCatch (holding [u] (call (.ref f) [u])) _ >>= _) _ _ _
    refine wpAny_bind (wpAny_tryCatch (wpAny_holding (wpAny_mono (key J2 ry (M.next w at_)) (fun k z2 ⟨ky, H2, J3, rky, lt, cmp, yes, no⟩ => ?_) fun _ _ q => q.elim)))
    have pi := J3.pin (it, oi) (by simp)
    have pS := J3.pin (S, two ub uk c) (by simp)
    have J4 : Inv X pins σ H2 z2 := J3.unpinned
    show wpAny _ X.A.in1 (tryCatch (holding [u, k] (richCompare .Lt k uk >>= _)) _ >>= _) _ _ _
    refine wpAny_bind (wpAny_tryCatch (wpAny_holding (wpAny_bind (ltK_run units J4 rky rk cmp (wpAny_bind (wpAny_holding (wpAny_truthy_bool (wpAny_bind (wpAny_letGo (wpAny_pure ?_))))))))))
    have fi2 : FpOk X pins H2 it := ⟨pi.2.1, fi.2⟩
    have fs2 : FpOk X pins H2 S := ⟨pS.2.1, fs.2⟩
    cases lt with
    | true =>
      rw [if_pos rfl]
      have stored := Heap.SameBut.update z2.heap S (Obj.mapSeq fun _ => #[u, k])
      obtain ⟨c2, at2⟩ : ∃ c2, (z2.heap.update S (Obj.mapSeq fun _ => #[u, k])).get? S = some (two u k c2) := ⟨_, get?_update_seq pS.1 fun _ => #[u, k]⟩
      refine wpAny_bind (wpAny_updateSeq pS.1 rfl (wpAny_bind (wpAny_letGo ?_)))
      rw [min_name]
      have J5 := J4.turned (h' := z2.heap.update S (Obj.mapSeq fun _ => #[u, k])) (t' := z2.toks) (fun d o hd e => (stored.2 d hd).trans e) fs2.1 fs2.2.1 fs2.2.2.2.1 fs2.2.2.2.2.1 fs2.2.2.2.2.2
      exact wpAny_pure ⟨plainId_quiet PySem.F.plain_min_loop _, again (by omega) J5 fi2 fs2 ⟨oi, (stored.2 it apart).trans pi.1, cls, dat⟩ at2 ry rky (yes rfl)⟩
    | false =>
      rw [if_neg (fun q => Bool.noConfusion q), min_name]
      exact wpAny_bind (wpAny_letGo (wpAny_pure ⟨plainId_quiet PySem.F.plain_min_loop _, again (by omega) J4 fi2 fs2 ⟨oi, pi.1, cls, dat⟩ pS.1 rb rk (no rfl)⟩))
/-- from the first item on; without one: the default -/
theorem min_all {a f it S : Addr} {xs : List V} {cf : V → Hp → VK → Prop} {kw : List (Str × Value)} {Q : VK} {W : Nat → Hp → V → V → Prop} {z : Shared} {H : Hp} (calm : X.calm = true) (units : X.A.in1.units < cLine) (key : KeyOk X pins σ f cf) (M : MinW X cf a xs Q W) (apart : it ≠ S) (hl : SqL X.K H a xs)
    (none_ : xs = [] → ∃ (d : V) (u : Value) (nm : Str) (r : List (Str × Value)), kw = (nm, u) :: r ∧ RelV d u ∧ Q d H) (first : ∀ y, xs[0]? = some y → cf y H fun ky H' => W 0 H' y ky)
    (I : Inv X pins σ H z) (fi : FpOk X pins H it) (fs : FpOk X pins H S) (iter : z.heap.IsListIter it a 0) (hS : z.heap.get? S = some { cls := .type "list", data := .seq #[] 0 }) :
    codeAny (model X.prog X.w) X.A (.builtin "min.loop" ⟨[.ref it, .ref f, .ref S], kw⟩) (MinR X pins σ Q) z := by
  obtain ⟨us, rel, plain, _⟩ := I.list hl
  have lenU := Vals.length rel
  refine min_enter ?_
  show wpAny _ X.A.in1 (seqItems? (.ref S) >>= _) _ _ _
  refine wpAny_bind (wpAny_seqItems (items := #[]) hS rfl ?_)
  show wpAny _ X.A.in1 (tryCatch (pyNext (.ref it)) _ >>= _) _ _ _
  rcases Nat.eq_zero_or_pos xs.length with empty | some_
  · obtain ⟨d, u, nm, r, rfl, rd, want⟩ := none_ (List.eq_nil_of_length_eq_zero empty)
    have noU : us = [] := List.eq_nil_of_length_eq_zero (lenU.symm.trans empty)
    refine wpAny_bind (wpAny_tryCatch (wpAny_pyNext_list_end (show X.A.in1.handled = none from I.ok.hd calm) iter plain.isList (by rw [noU]; rfl) fun g grown => ?_))
    show wpAny _ X.A.in1 (rule _ >>= fun _ => ret u) _ _ _
    exact wpAny_bind (wpAny_rule (wpAny_pure ⟨d, H, I.turned (t' := z.toks) grown fi.1 fi.2.1 fi.2.2.2.1 fi.2.2.2.2.1 fi.2.2.2.2.2, rd, want⟩))
  · obtain ⟨y, at_⟩ : ∃ y, xs[0]? = some y := ⟨_, List.getElem?_eq_getElem some_⟩
    obtain ⟨u, atU, ry⟩ := Vals.get rel at_
    refine wpAny_bind (wpAny_tryCatch (wpAny_pyNext_list_item iter plain.isList (x := u) (by simpa using atU) fun g iter' same => ?_))
    have J := I.turned (h' := g) (t' := z.toks) (fun d o hd e => (same.2 d hd).trans e) fi.1 fi.2.1 fi.2.2.2.1 fi.2.2.2.2.1 fi.2.2.2.2.2
    obtain ⟨oi, hoi, cls, dat⟩ := id iter'
    have J2 := pin_two J fi fs hoi ((same.2 S (Ne.symm apart)).trans hS) (fun v q => by rw [dat] at q; cases q) fun v q => by cases q
    show wpAny _ X.A.in1 (tryCatch (holding [u] (call (.ref f) [u])) _ >>= _) _ _ _
    refine wpAny_bind (wpAny_tryCatch (wpAny_holding (wpAny_mono (key J2 ry (first y at_)) (fun k z2 ⟨ky, H2, J3, rky, w⟩ => ?_) fun _ _ q => q.elim)))
    have pi := J3.pin (it, oi) (by simp)
    have pS := J3.pin (S, { cls := .type "list", data := .seq #[] 0 }) (by simp)
    have fi2 : FpOk X pins H2 it := ⟨pi.2.1, fi.2⟩
    have fs2 : FpOk X pins H2 S := ⟨pS.2.1, fs.2⟩
    have stored := Heap.SameBut.update z2.heap S (Obj.mapSeq fun _ => #[u, k])
    obtain ⟨c2, at2⟩ : ∃ c2, (z2.heap.update S (Obj.mapSeq fun _ => #[u, k])).get? S = some (two u k c2) := ⟨_, get?_update_seq pS.1 fun _ => #[u, k]⟩
    show wpAny _ X.A.in1 (updateSeq S (fun _ => #[u, k]) >>= _) _ _ _
    refine wpAny_bind (wpAny_updateSeq pS.1 rfl ?_)
    rw [min_name]
    have J5 := (J3.unpinned).turned (h' := z2.heap.update S (Obj.mapSeq fun _ => #[u, k])) (t' := z2.toks) (fun d o hd e => (stored.2 d hd).trans e) fs2.1 fs2.2.1 fs2.2.2.2.1 fs2.2.2.2.2.1 fs2.2.2.2.2.2
    exact wpAny_pure ⟨plainId_quiet PySem.F.plain_min_loop _, min_go calm units key M apart (xs.length - 1) (by omega) J5 fi2 fs2 ⟨oi, (stored.2 it apart).trans pi.1, cls, dat⟩ at2 ry rky w⟩
end
/-! ### the expression -/
section
variable {X : Cx} {mk : Addr → NF} {body : Expr} {ar fr : List Str} {js : List Nat} {n : Nat} {sp : List (Option V) → Sp}
theorem args_key_dflt (a v d : Value) : argsOk "min" ⟨[a], [(Str.ofString "key", v), (Str.ofString "default", d)]⟩ := by
  unfold argsOk
  kernel_rfl
/-- the call itself: dd tells whether there is a default, d -/
theorem min_call {pins : List (Addr × Obj)} {σ : L2.St} {H : Hp} {z : Shared} {a f : Addr} {xs : List V} {cf : V → Hp → VK → Prop} {Q : VK} {W : Nat → Hp → V → V → Prop} {dd : Option Value} (calm : X.calm = true) (units : X.A.in1.units < cLine) (key : KeyOk X pins σ f cf) (M : MinW X cf a xs Q W) (hl : SqL X.K H a xs)
    (none_ : xs = [] → ∃ (d : V) (u : Value), dd = some u ∧ RelV d u ∧ Q d H) (first : ∀ y, xs[0]? = some y → cf y H fun ky H' => W 0 H' y ky) (I : Inv X pins σ H z) :
    wpAny (model X.prog X.w) X.A (call (.builtin "min") [.ref a] ((Str.ofString "key", .ref f) :: dd.toList.map fun u => (Str.ofString "default", u))) (EP X pins σ Q) X.xe z := by
  have ok : argsOk "min" ⟨[.ref a], (Str.ofString "key", .ref f) :: dd.toList.map fun u => (Str.ofString "default", u)⟩ := by
    cases dd with
    | none => exact kmk_min_key _ _
    | some u => exact args_key_dflt _ _ _
  refine kmk_tree PySem.F.kind_min PySem.F.plain_min PySem.F.entry_min ok ?_
  have bound : Builtin.Builtins.bindParams "min" ["key", "default"] 0 ⟨[], (Str.ofString "key", .ref f) :: dd.toList.map fun u => (Str.ofString "default", u)⟩ = pure [some (.ref f), dd] := by
    cases dd <;> rfl
  show wpAny _ X.A.in1 (Builtin.Builtins.bindParams "min" ["key", "default"] 0 ⟨[], _⟩ >>= _) _ _ z
  refine wpAny_bind (wpAny_of_eq bound (wpAny_bind (wpAny_pure ?_)))
  rw [min_name]
  obtain ⟨us, rel, plain, _⟩ := I.list hl
  refine wpAny_bind (wpAny_pyIter_list plain.isList (wpAny_bind (wpAny_newList (wpAny_pure ⟨plainId_quiet PySem.F.plain_min_loop _, ?_⟩) (Nat.zero_le _))))
  have more : (z.heap.push { cls := .type "list_iterator", data := .fields #[.ref a, .int 0 0] }).objs.size = z.heap.objs.size + 1 := size_push' ..
  have up : z.heap.objs.size ≤ (z.heap.push { cls := .type "list_iterator", data := .fields #[.ref a, .int 0 0] }).objs.size := by omega
  refine codeAny_mono (min_all calm units key M (show z.heap.objs.size ≠ (z.heap.push { cls := .type "list_iterator", data := .fields #[.ref a, .int 0 0] }).objs.size by omega) hl (fun e => ?_) first
      (I.kept (t' := z.toks) fun d o e => Heap.get?_push_of_some _ (Heap.get?_push_of_some _ e)) (I.fpOk (Nat.le_refl _) (I.hok.fresh (Nat.le_refl _))) (I.fpOk up (I.hok.fresh up))
      ⟨_, Heap.get?_push_of_some _ (Heap.get?_push_size _ rfl), rfl, rfl⟩ (Heap.get?_push_size _ rfl)) fun r z' got => ?_
  · obtain ⟨d, u, e1, e2, e3⟩ := none_ e
    exact ⟨d, u, Str.ofString "default", [], by rw [e1]; rfl, e2, e3⟩
  · match r, got with
    | .ok (.ret v), got => exact got
    | .ok .next, got => exact got.elim
    | .ok .brk, got => exact got.elim
    | .ok .cont, got => exact got.elim
    | .error e, got => exact False.elim got
/-- what min(.., key=lambda ..) asks, once the list's expression is read: the tables of code objects; then, at every heap in which the lambda has come (its code object at c), an invariant. dflt: default=None stands there -/
def tMin (K : PySem.W.Frag) (T : List (Addr × Str)) (mk : Addr → NF) (js : List Nat) (sp : List (Option V) → Sp) (dflt : Bool) (te : TE) (X : Cx) : TE := fun σ H Q => te σ H fun l H1 => Tabs T H1 ∧ ∀ (c : Addr) (H2 : Hp), ExtN H1 H2 → Tabs T H2 → H2 c = some (CodeO c (mk c).qual) →
  ∃ (a : Addr) (xs : List V) (W : Nat → Hp → V → V → Prop), l = .ref a ∧ SqL K H2 a xs ∧ (xs = [] → dflt = true ∧ Q .non H2) ∧ MinW X (tKey mk js sp c σ) a xs Q W ∧ ∀ y, xs[0]? = some y → tKey mk js sp c σ y H2 fun ky H' => W 0 H' y ky
abbrev lamNF (X : Cx) (params : Arguments) (scope : Scope) (c : Addr) : NF := ⟨"<lambda>", X.env.qual ++ "<lambda>", params, [], scope, cloFrom X.env.cells scope.names [], c⟩
/-- default=None, or nothing -/
inductive DfltIs : Bool → List Keyword → Prop
  | no : DfltIs false []
  | yes {j : Nat} {p q : Pos} : DfltIs true [⟨some "default", .Constant .none j p, q⟩]
theorem pe_min {T : List (Addr × Str)} {c P : Addr} {e : Expr} {te : TE} {params : Arguments} {scope : Scope} {p kp lp pos : Pos} {dflt : Bool} {kws : List Keyword} (calm : X.calm = true) (TB : TabB X.base X.mg c P) (code : X.env.code = .ref c) (mem : (P, X.env.qual ++ "<lambda>") ∈ T)
    (one : ∀ t ∈ T, t.1 = P → t.2 = X.env.qual ++ "<lambda>") (plain : defaultsOf params X.env = ([], [])) (hk : DfltIs dflt kws)
    (free : ∀ y ∈ scope.names, y.2 = .free → X.env.scope.names.lookup y.1 = some .cell ∨ X.env.scope.names.lookup y.1 = some .free)
    (L : ∀ c, LOk X.prog X.w X.K X.mg X.base n (lamNF X params scope c) body ar fr sp) (caps : ∀ c, X.Ok → Caps X (lamNF X params scope c).cl fr js) (room : Room (n + 1) X.A) (gl : Gl X "min") (blt : X.mg "min" = none) (he : PE X e te)
    (s1 : backTo pos (starEach [e] X.env) = (false, eval e X.env) :: backTo pos (starEach [] X.env) := by rfl) (s2 : (backTo pos (starEach [e] X.env)).any (·.1) = false := by rfl) (s3 : starEach [e] X.env = (false, eval e X.env) :: starEach [] X.env := by rfl) :
    PE X (.Call (.Name "min" p) [e] (⟨some "key", .Lambda params body scope lp, kp⟩ :: kws) pos) (tMin X.K T (lamNF X params scope) js sp dflt te X) := by
  refine ⟨fun pins z σ H Q I want => wpAny_Call_Name_kw (ld_blt (u := .builtin "min") I gl blt (by decide +kernel) ?_)⟩
  have hasCells : ∀ y ∈ scope.names, y.2 = .free → ∃ c, X.env.cells.lookup y.1 = some c := fun y hy q => (free y hy q).elim (fun k => I.ok.has _ (.inl k)) fun k => I.ok.has _ (.inr k)
  have all : (backToKw pos (keywordEach (⟨some "key", .Lambda params body scope lp, kp⟩ :: kws) X.env)).all (·.1.isSome) = true ∧ (backToKw pos (keywordEach (⟨some "key", .Lambda params body scope lp, kp⟩ :: kws) X.env)).any (·.1.isNone) = false := by
    cases hk <;> exact ⟨rfl, rfl⟩
  refine PyProof.Rows.callWith_kw (PyProof.Rows.args_cons (thn (he.run pins z σ H _ I want) fun v z1 ⟨l, H1, I1, rl, tabs, more⟩ => PyProof.Rows.args_nil ?_) s3) s1 s2 all.1 all.2
  refine kws_cons (lam_make2 I1 TB code mem one tabs plain hasCells fun f c' pm ctv H2 z2 I2 ext tabs2 obj free_ nofr cod => ?_)
  obtain ⟨a, xs, W, rfl, hl, none_, M, first⟩ := more c' H2 ext tabs2 cod
  cases rl
  -- the lambda's object is pinned
  have J : Inv X (pins ++ [(f, PySem.W.kla_obj "<lambda>" (X.env.qual ++ "<lambda>") params body scope (cloFrom X.env.cells scope.names []) pm c' ctv)]) σ H2 z2 := I2.pins_of fun q hq => by
    rcases List.mem_append.mp hq with old | new
    · exact I2.pin q (List.mem_append_right _ old)
    · rw [List.mem_singleton.mp new]
      have nst : ∀ b ∈ X.fs, b ∈ frs X.stack := fun b hb => by
        rcases I2.ok.stk with e | ⟨e, _⟩
        · rw [e]; exact hb
        · rw [e]
          unfold frs
          rw [List.filterMap_cons]
          split
          · exact hb
          · exact List.mem_cons_of_mem _ hb
      refine ⟨obj, free_, fun q => ?_, fun q => nofr (nst f q), fun v q => by cases q⟩
      obtain ⟨m, ⟨o, es, ep, at_, d, _⟩, _⟩ := I2.loc
      rw [← q, obj] at at_
      cases at_
      cases d
  have key : KeyOk X (pins ++ [(f, PySem.W.kla_obj "<lambda>" (X.env.qual ++ "<lambda>") params body scope (cloFrom X.env.cells scope.names []) pm c' ctv)]) σ f (tKey (lamNF X params scope) js sp c' σ) := fun {more z H y u Q} I ry w =>
    key_run (mk := lamNF X params scope) (L c') (caps c') rfl room I ⟨pm, ctv, (I.pin (f, _) (by simp)).1⟩ ry w
  have fin : ∀ (dd : Option Value), (xs = [] → ∃ (d : V) (u : Value), dd = some u ∧ RelV d u ∧ Q d H2) → wpAny (model X.prog X.w) X.A (call (.builtin "min") [.ref a] ((Str.ofString "key", .ref f) :: dd.toList.map fun u => (Str.ofString "default", u))) (EP X pins σ Q) X.xe z2 := fun dd h =>
    thn (min_call calm room.in1.units0 key M hl h first J) fun v z3 ⟨y, H3, J3, ry, q⟩ => ⟨y, H3, J3.unpinned, ry, q⟩
  cases hk with
  | no => exact kws_nil (fin none fun e => absurd (none_ e).1 Bool.false_ne_true)
  | yes => exact kws_cons (Constant_none (kws_nil (fin (some .none) fun e => ⟨.non, .none, rfl, rfl, (none_ e).2⟩)))
end
end Rd
/-! max(list, default=d); len(set(list of ints)); T[i](..); methods that may raise; enumerate(list, start=k). -/
namespace Rd
open PySem PySem.Spec PyProof.Rows L2 LamX NdefX
/-! ### max(xs, default=d), ints -/
def rMaxd (K : PySem.W.Frag) : List V → List V → Hp → VK → Prop := fun as ks H Q => ∃ (a : Addr) (ns : List Int) (d : V), as = [.ref a] ∧ ks = [d] ∧ SqL K H a (ns.map V.int) ∧ (ns = [] → Q d H) ∧ ∀ n r, ns = n :: r → Q (.int (r.foldl max n)) H
theorem cr_maxd {X : Cx} {n : Nat} (calm : X.calm = true) (room : Room n X.A) : CallRK X (.builtin "max") [Str.ofString "default"] (rMaxd X.K) := by
  intro pins z σ H as ks us ws Q I ra rk want
  obtain ⟨a, ns, d, rfl, rfl, hl, empty, some_⟩ := want
  obtain rfl := Vals.ref1 ra
  obtain ⟨u, rfl, ru⟩ := vals1 rk
  obtain ⟨its, rel, plain, _⟩ := I.list hl
  have isInts : IntsAre its ns := rel.ints
  have deep : ∀ l : List Int, PyData.depthAll (l.map PyData.int) = 0 := fun l => by
    induction l with
    | nil => rfl
    | cons n r ih => show max (PyData.depth (.int n)) (PyData.depthAll (r.map PyData.int)) = 0; rw [ih]; rfl
  show wpAny _ _ (call (.builtin "max") [.ref a] [(Str.ofString "default", u)]) _ _ _
  refine PySem.W.max_list_default (xs := ns.map PyData.int) (as := []) (I.ok.hd calm) plain.isList (by simpa using IntsAre.reads z.heap isInts) ⟨fun x hx y hy => ?_, fun x hx e => ?_⟩ (by rw [deep]; have := room.un; omega) (fun e g tk grown => ?_) fun y ys i v g tk bs e at_ rd grown => ?_
  · obtain ⟨_, _, rfl⟩ := List.mem_map.mp hx
    obtain ⟨_, _, rfl⟩ := List.mem_map.mp hy
    rfl
  · obtain ⟨_, _, rfl⟩ := List.mem_map.mp hx
    cases e
  · exact ⟨d, H, I.kept grown, ru, empty (List.map_eq_nil_iff.mp e)⟩
  · cases ns with
    | nil => cases e
    | cons n r =>
      obtain ⟨rfl, rfl⟩ := List.cons.inj e
      rw [PySem.W.maxD_ints] at rd
      cases rd
      exact ⟨.int _, H, I.kept grown, ⟨_, rfl⟩, some_ n r rfl⟩
/-! ### len(set(xs)), ints -/
/-- the members of a list, each once, as they come -/
def once (ns : List Int) : List Int := ns.foldl (fun l n => if l.any (· == n) then l else l ++ [n]) []
theorem range_get (ns : List Int) : (List.range ns.length).map (fun i => ns.getD i 0) = ns := by
  refine List.ext_getElem (by simp) fun k h1 _ => ?_
  simp at h1
  simp [h1]
theorem firstMet_once (ns : List Int) : firstMet (fun i => ns.getD i 0) ns.length = once ns := by
  unfold firstMet once
  rw [range_get]
  rfl
def tLenOnce (K : PySem.W.Frag) (ta : TE) : TE := fun σ H Q => ta σ H fun x H1 => ∃ (l : Addr) (ns : List Int), x = .ref l ∧ SqL K H1 l (ns.map V.int) ∧ ns.length ≤ 4000 ∧ Q (.int ((once ns).length : Nat)) H1
theorem once_le (ns : List Int) : (once ns).length ≤ ns.length := by
  rw [← firstMet_once]
  exact firstMet_length_le _ _
theorem pe_lenOnce {X : Cx} {e : Expr} {te : TE} {p1 p2 q1 q2 : Pos} (g1 : Gl X "len") (m1 : X.mg "len" = none) (g2 : Gl X "set") (m2 : X.mg "set" = none) (he : PE X e te) (calm : X.calm = true := by rfl) (st : starEach [e] X.env = (false, eval e X.env) :: starEach [] X.env := by rfl) :
    PE X (.Call (.Name "len" p1) [.Call (.Name "set" p2) [e] [] q2] [] q1) (tLenOnce X.K te) := by
  refine ⟨fun pins z σ H Q I want => Call_ (ld_blt I g1 m1 boot_len (PyProof.Rows.callWith_builtin1 (PyProof.Rows.args_cons (Call_ (ld_blt I g2 m2 boot_set ?_)) rfl) rfl rfl))⟩
  refine PyProof.Rows.callWith_type1 (PyProof.Rows.args_cons (thn (he.run pins z σ H _ I want) fun v z1 ⟨x, H1, J, rx, l, ns, ex, sq, small, q⟩ => PyProof.Rows.args_nil ?_) st) st rfl
  subst ex
  cases rx
  obtain ⟨its, rel, plain, _⟩ := J.list sq
  have size : its.toArray.size = ns.length := by rw [List.size_toArray, ← Vals.length rel, List.length_map]
  refine call_set_list (J.ok.hd calm) plain.isList (by simpa using RZ.intsAre_vals rel) (by rw [size]; unfold scanBound; omega) fun g tk set_ old => PyProof.Rows.args_nil ?_
  rw [size, firstMet_once] at set_
  obtain ⟨o, es, ep, t, at_, ex, dat, _, _, _, hf, num⟩ := set_
  have J2 : Inv X pins σ H1 { z1 with heap := g, toks := tk } := J.kept fun b o e => old b o (Heap.lt_size e) e
  have := once_le ns
  exact call_len_set at_ ex dat hf (by rw [num]; omega) ⟨.int (once ns).length, H1, J2.tok _, ⟨_, by rw [num]⟩, q⟩
/-! ### calls that may let an exception out -/
section
variable {X : Cx} {CX : CXT} {k : Nat} {f C : Addr} {fd : FuncData} {ps : List Str} {sp : Sp} {E : L2.St → XK} {m : Str} {p q : Pos} {e o : Expr} {es : List Expr} {te to : TE} {t : TA}
/-- o.m(..), an own method that may raise -/
def tMx (C : Addr) (m : Str) (sp : Sp) (E : L2.St → XK) (to : TE) (t : TA) : TE := fun σ H Q => to σ H fun x H1 => ∃ a dx fs, x = .ref a ∧ H1 a = some (.ins C dx fs) ∧ fs.lookup m = none ∧ t σ H1 fun vs H2 => sp (x :: vs) H2 Q (E σ)
theorem pe_mx {pl : Sem Bool} (ho : PE X o to) (cls : Cls X.K C) (mt : Meth X.K C m f) (F : FnOk X.prog X.w X.K X.mg X.base CX k f fd ps sp) (room : Room k X.A) (bd : Binds X.K fd ps []) (pass : ∀ σ, PassesAt CX X σ (E σ)) (ha : PA X (e :: es) t)
    (s1 : starEach (e :: es) X.env = (false, eval e X.env) :: starEach es X.env := by rfl) (s2 : (backTo q (starEach es X.env)).any (·.1) = false := by rfl)
    (s3 : eval (.Call (.Attribute o m p) (e :: es) [] q) X.env = (do
      let ov ← eval o X.env
      standAt p.atName
      let (g, first) ← holding [ov] (getMethod ov m pl)
      callWith q g first (backTo q (starEach (e :: es) X.env)) (backToKw q (keywordEach [] X.env))) := by rfl) : PE X (.Call (.Attribute o m p) (e :: es) [] q) (tMx C m sp E to t) := by
  refine ⟨fun pins z σ H Q I want => PySem.W.methodCall_KW (pl := pl) (thn (ho.run pins z σ H _ I want) fun u z1 ⟨x, H1, I1, rx, a, dx, fs, ex, at_, no, w⟩ => ?_) s3⟩
  subst ex
  cases rx
  refine getmeth_ok I1 at_ cls mt no (PySem.W.callWith_K (first := [.ref a]) (h₀ := X.base) I.ok.mod.kin mt.kp (thn (ha.run q pins z1 σ H1 _ I1 w) fun us z2 ⟨vs, H2, I2, rel, w2⟩ => ⟨I2.kIn, ?_⟩) s1 s2)
  exact run_fnS (us := .ref a :: us) (vs := .ref a :: vs) F room bd (pass σ) I2 (.cons rfl rel) w2
/-- a def of the written part, by its address -/
structure HeldX (P : Program) (w : World) (K : PySem.W.Frag) (mg : Str → Option Value) (base : Heap) (k : Nat) (f : Addr) (sp : Sp) : Prop where
  ok : ∃ (fd : FuncData) (ps : List Str), FnOk P w K mg base (L2.CX P w) k f fd ps sp ∧ PySem.W.keepIn K (.ref f) = true ∧ Binds K fd ps []
/-- (an expression that gives a def)(..) -/
def tCallE (S : Addr → Option Sp) (E : L2.St → XK) (te : TE) (t : TA) : TE := fun σ H Q => te σ H fun x H1 => ∃ f sp, x = .ref f ∧ S f = some sp ∧ t σ H1 fun vs H2 => sp vs H2 Q (E σ)
theorem pe_callE {g : Expr} {S : Addr → Option Sp} (hg : PE X g te) (all : ∀ f sp, S f = some sp → HeldX X.prog X.w X.K X.mg X.base k f sp) (room : Room k X.A) (pass : ∀ σ, PassesAt (L2.CX X.prog X.w) X σ (E σ)) (ha : PA X (e :: es) t)
    (s0 : eval (.Call g (e :: es) [] q) X.env = (do callWith q (← eval g X.env) [] (backTo q (starEach (e :: es) X.env)) (backToKw q (keywordEach [] X.env))) := by rfl)
    (s1 : starEach (e :: es) X.env = (false, eval e X.env) :: starEach es X.env := by rfl) (s2 : (backTo q (starEach es X.env)).any (·.1) = false := by rfl) : PE X (.Call g (e :: es) [] q) (tCallE S E te t) := by
  refine ⟨fun pins z σ H Q I want => Call_ (thn (hg.run pins z σ H _ I want) fun u z1 ⟨x, H1, I1, rx, f, sp, ex, inS, w⟩ => ?_) s0⟩
  subst ex
  cases rx
  obtain ⟨fd, ps, F, keep, bd⟩ := (all f sp inS).ok
  refine PySem.W.callWith_K (h₀ := X.base) I.ok.mod.kin keep (thn (ha.run q pins z1 σ H1 _ I1 w) fun us z2 ⟨vs, H2, I2, rel, w2⟩ => ⟨I2.kIn, ?_⟩) s1 s2
  exact run_fnS F room bd (pass σ) I2 rel w2
end
/-! ### for i, x in enumerate(xs, start=k) -/
section
variable {M : Model} {A : Around} {E : Value → Shared → Prop} {z : Shared} {env : Env}
theorem type_kw {q : Pos} {T : String} {e : Expr} {kws : List Keyword} {Q : Value → Shared → Prop} (h : wpAny M A (spliced (backTo q (starEach [e] env))) (fun vs z1 => wpAny M A (evalAll ((backToKw q (keywordEach kws env)).map (·.2))) (fun ks z2 => wpAny M A (call (.type T) vs (((backToKw q (keywordEach kws env)).filterMap (·.1)).zip ks)) Q E z2) E z1) E z)
    (s1 : backTo q (starEach [e] env) = (false, eval e env) :: backTo q (starEach [] env)) (s2 : (backTo q (starEach [e] env)).any (·.1) = false) (s3 : (backToKw q (keywordEach kws env)).all (·.1.isSome) = true) (s4 : (backToKw q (keywordEach kws env)).any (·.1.isNone) = false) :
    wpAny M A (callWith q (.type T) [] (backTo q (starEach [e] env)) (backToKw q (keywordEach kws env))) Q E z := by
  have got : wpAny M A (evalArgs (.type T) true (backTo q (starEach [e] env)) (backToKw q (keywordEach kws env))) (fun a z1 => wpAny M A (call (.type T) ([] ++ a.pos) a.kw) Q E z1) E z := by
    rw [s1] at h ⊢
    exact evalArgs_kwB s3 h
  unfold callWith
  refine wpAny_bind (wpAny_holding (wpAny_mono got (fun a z1 g => wpAny_bind (wpAny_standAt ?_)) fun _ _ g => g))
  simp only [s2, s4, Bool.or_false]
  exact wpAny_bind (wpAny_pure (wpAny_bind (wpAny_mono g (fun v z2 w => wpAny_bind (wpAny_holding (wpAny_point (wpAny_pure w)))) fun _ _ w => w)))
end
/-- the list at a, each item behind its number, counted from k, in a new pair -/
def Itn1 (K : PySem.W.Frag) (a : Addr) (k : Int) : It where
  go := fun i H => ∃ (xs : List V) (x : V), SqL K H a xs ∧ xs[i]? = some x
  yld := fun i H v H' => ∃ T x, v = .ref T ∧ H T = none ∧ H' = upd H T (.tup [.int (k + (i : Nat)), x]) ∧ ∀ xs, SqL K H a xs → xs[i]? = some x
  stop := fun i H => ∃ xs : List V, SqL K H a xs ∧ xs.length = i
theorem not_both {h : Heap} {a b : Addr} {vs : Array Value} {o : Obj} {T : String} (l : h.IsList a vs) (e : h.get? b = some o) (c : o.cls = .type T) (ne : T ≠ "list") : a ≠ b := fun q => by
  obtain ⟨o2, e2, c2, _⟩ := l
  rw [q, e] at e2
  cases e2
  rw [c] at c2
  exact ne (Value.type.inj c2)
theorem turn_count {P : Program} {w : World} {K : PySem.W.Frag} {elts : List Expr} {kk : Nat} {tp : Pos} (a e it : Addr) (k : Int) (apart : e ≠ it) :
    Turn P w K (.Tuple elts kk tp) (Itn1 K a k) [e, it] e (fun i h => (∃ old, IsEnum h e it (k + (i : Nat)) old) ∧ h.IsListIter it a i) where
  mem := List.mem_cons_self
  obj := fun i h ⟨⟨old, he⟩, o, ho, _, d⟩ b hb => by
    rcases List.mem_cons.mp hb with rfl | other
    · exact ⟨_, he, fun v q => nomatch q⟩
    · rw [List.mem_singleton.mp other]
      exact ⟨o, ho, fun v q => by rw [d] at q; cases q⟩
  keep := fun i h g ⟨⟨old, he⟩, hi⟩ stay => ⟨⟨old, stay e (by simp) _ he⟩, hi.at fun o q => stay it (by simp) o q⟩
  item := by
    rintro X rfl rfl rfl calm i pins z σ H E I own ⟨⟨old, he⟩, hi⟩ ⟨xs, x, sq, at_⟩
    obtain ⟨us, rel, plain, _⟩ := I.list sq
    obtain ⟨u, atU, ru⟩ := Vals.get rel at_
    have aIt : a ≠ it := let ⟨o, ho, c, _⟩ := hi; not_both plain.isList ho c (by decide)
    have aE : a ≠ e := not_both plain.isList he rfl (by decide)
    have D := Draws.list (prog := X.prog) (w := X.w) (A := X.A.in1) (show X.A.in1.handled = none from I.ok.hd calm) it a aIt us.toArray
    have W := WalksT.enumFrom k D e apart (by simp [apart, Ne.symm aE]) (by simp)
    refine W.item i z _ E (by simpa using (List.getElem?_eq_some_iff.mp atU).1) ⟨⟨old, he⟩, hi, plain.isList⟩ fun T vals g tk ⟨t, u', pu, ev⟩ fresh isT mid stay => ⟨_, rfl, ?_⟩
    have same : u' = u := Option.some.inj ((show us.toArray[i]? = some u' from pu).symm.trans (by simpa using atU))
    subst same
    subst ev
    refine W.go elts kk tp i T { z with heap := g, toks := tk } _ E mid fun g2 ⟨enum2, iter2, _⟩ stay2 => ?_
    have stay3 : ∀ b o, b ∉ [e, it] → z.heap.get? b = some o → g2.get? b = some o := fun b o hb q => stay2 b o hb (stay b o hb q)
    have isT2 : IsTup g2 T [Value.int (k + (i : Int)) t, u'].toArray := by
      obtain ⟨o, q, r⟩ := isT
      exact ⟨o, stay2 T o (W.apart i T g mid) q, r⟩
    have J := I.turnedNew (h' := g2) (t' := tk) (ob := .tup [.int (k + (i : Nat)), x]) stay3 own fresh ⟨by show 2 ≤ sizeLine; decide, _, .cons ⟨_, rfl⟩ (.cons ru .nil), isT2⟩
    have noT : H T = none := I.hok.fresh fresh
    refine ⟨.ref T, _, J, rfl, ⟨T, x, rfl, noT, rfl, fun ys sq2 => by rw [I.list_inj sq2 sq]; exact at_⟩, ⟨enum2, iter2⟩, fun b hb => ?_⟩
    have low : b < z.heap.objs.size := by
      rcases List.mem_cons.mp hb with rfl | other
      · exact Heap.lt_size he
      · rw [List.mem_singleton.mp other]
        obtain ⟨o, ho, _⟩ := hi
        exact Heap.lt_size ho
    exact (upd_ne (Nat.ne_of_lt (Nat.lt_of_lt_of_le low fresh))).trans (own b hb).1
  done := by
    rintro X rfl rfl rfl calm i pins z σ H E I own ⟨⟨old, he⟩, hi⟩ ⟨xs, sq, all⟩
    obtain ⟨us, rel, plain, _⟩ := I.list sq
    have aIt : a ≠ it := let ⟨o, ho, c, _⟩ := hi; not_both plain.isList ho c (by decide)
    have num : us.toArray.size = i := by rw [List.size_toArray, ← Vals.length rel]; exact all
    have D := Draws.list (prog := X.prog) (w := X.w) (A := X.A.in1) (show X.A.in1.handled = none from I.ok.hd calm) it a aIt us.toArray
    have own1 := own it (by simp)
    refine wpAny_pyNext_enum_endD D he ⟨by rw [num]; exact hi, plain.isList⟩ fun g grown => ⟨rfl, I.turned (t' := z.toks) grown own1.1 own1.2.1 own1.2.2.2.1 own1.2.2.2.2.1 own1.2.2.2.2.2⟩
  self := fun A i z Q E ⟨⟨_, he⟩, _⟩ h => wpAny_pyIter_enum he h
def iCount (K : PySem.W.Frag) (ta tk : TA) : TI := fun σ H R => ta σ H fun vs H1 => tk σ H1 fun ks H2 => ∃ a xs k, vs = [.ref a] ∧ ks = [.int k] ∧ -(2 ^ 63) ≤ k ∧ k < 2 ^ 63 ∧ SqL K H2 a xs ∧ R (Itn1 K a k) H2
theorem pi_count {X : Cx} {e : Expr} {ta tk : TA} {kws : List Keyword} {p q tp : Pos} {elts : List Expr} {kk : Nat} (gl : Gl X "enumerate") (blt : X.mg "enumerate" = none) (ha : PA X [e] ta) (hk : PK X kws tk)
    (s1 : backTo q (starEach [e] X.env) = (false, eval e X.env) :: backTo q (starEach [] X.env) := by rfl) (s2 : (backTo q (starEach [e] X.env)).any (·.1) = false := by rfl) (s3 : (backToKw q (keywordEach kws X.env)).all (·.1.isSome) = true := by rfl) (s4 : (backToKw q (keywordEach kws X.env)).any (·.1.isNone) = false := by rfl)
    (s5 : (backToKw q (keywordEach kws X.env)).filterMap (·.1) = [Str.ofString "start"] := by rfl) : PI X (.Tuple elts kk tp) (.Call (.Name "enumerate" p) [e] kws q) (iCount X.K ta tk) := by
  refine ⟨fun pins z σ H R I want => wpAny_Call_Name_kw (ld_blt I gl blt boot_enumerate (type_kw (thn (ha.run q pins z σ H _ I want) fun us z1 ⟨vs, H1, I1, r1, w1⟩ => thn (hk.run q pins z1 σ H1 _ I1 w1) fun ws z2 ⟨ks, H2, I2, r2, w2⟩ => ?_) s1 s2 s3 s4))⟩
  rw [s5]
  obtain ⟨a, xs, k, rfl, rfl, low, high, sq, w⟩ := w2
  obtain rfl := Vals.ref1 r1
  obtain ⟨_, rfl, t, rfl⟩ := vals1 r2
  obtain ⟨its, rel, plain, _⟩ := I2.list sq
  refine enum_begins_start (begins_list a its.toArray) plain.isList low high fun g isE iter _ grown => wpAny_pyIter_enum isE ?_
  refine ⟨_, [z2.heap.objs.size + 1, z2.heap.objs.size], _, _, H2, rfl, I2.kept (t' := z2.toks) grown, turn_count a _ _ k (Nat.succ_ne_self _), ⟨⟨.none, by rw [show k + ((0 : Nat) : Int) = k by omega]; exact isE⟩, _, iter, rfl, rfl⟩, fun b hb => ?_, w⟩
  have high : z2.heap.objs.size ≤ b := by
    rcases List.mem_cons.mp hb with rfl | other
    · exact Nat.le_succ _
    · rw [List.mem_singleton.mp other]
      exact Nat.le_refl _
  exact I2.fpOk high (I2.hok.fresh high)
end Rd
/-! [element for target in walk], where a call in the element may let an exception out. -/
namespace Rd
open PySem PySem.Spec PyProof.Rows L2 LamX NdefX
/-! ### an exception and a smaller ground -/
abbrev Less (G B : Heap) : Prop := ∀ b o, G.get? b = some o → B.get? b = some o
theorem Less.none {G B : Heap} (l : Less G B) {b : Addr} (e : B.get? b = none) : G.get? b = none := by
  cases q : G.get? b with
  | none => rfl
  | some o => rw [l b o q] at e; cases e
theorem traced_in {h B G : Heap} {x : Addr} {Z : Obj → Prop} {fl : Value} (l : Less G B) : HandSPX.TracedZ h B x Z fl → HandSPX.TracedZ h G x Z fl := fun ⟨o, vs, T, oT, ts, a, b, c, d, no, r⟩ => ⟨o, vs, T, oT, ts, a, b, c, d, l.none no, r⟩
theorem frames_in {h B G : Heap} (l : Less G B) : ∀ {fs : List Env}, h.FunFrames B fs → h.FunFrames G fs
  | [], _ => trivial
  | _ :: _, ⟨k, ⟨L, o, f, no, r⟩, more⟩ => ⟨k, ⟨L, o, f, l.none no, r⟩, frames_in l more⟩
theorem traced_past {h g B : Heap} {x C : Addr} {Z : Obj → Prop} {fl : Value} {m : Str → Option Value} (ns : h.Ns C m) (same : Heap.SameBut C h g) : HandSPX.TracedZ h B x Z fl → HandSPX.TracedZ g B x Z fl := by
  rintro ⟨o, vs, T, oT, ts, hx, z, dx, v1, no, ne, hT, dT, t3⟩
  obtain ⟨oC, es, ep, hC, dC, _⟩ := ns
  have off : ∀ {b : Addr} {o : Obj} {ws : Array Value}, h.get? b = some o → o.data = .fields ws → b ≠ C := fun {b o ws} e d q => by
    rw [q, hC] at e
    cases e
    rw [dC] at d
    cases d
  exact ⟨o, vs, T, oT, ts, (same.2 _ (off hx dx)).trans hx, z, dx, v1, no, ne, (same.2 _ (off hT dT)).trans hT, dT, t3⟩
section
variable {X : Cx} {pins : List (Addr × Obj)} {σ : L2.St} {H0 : Hp} {z0 : Shared}
/-- what the block of a comprehension was entered with: its names at C, its iterator's records fp -/
structure Entered (X : Cx) (pins : List (Addr × Obj)) (σ : L2.St) (H0 : Hp) (z0 : Shared) (fp : List Addr) (C : Addr) : Prop where
  inv : Inv X pins σ H0 z0
  own : ∀ b ∈ fp, FpOk X pins H0 b
  new : C = z0.heap.objs.size
  top : X.stack = X.env :: X.outer
  frame : X.env.frame = some X.env.locals
theorem Entered.old {fp : List Addr} {C : Addr} (N : Entered X pins σ H0 z0 fp C) {b : Addr} {o : Obj} (e : z0.heap.get? b = some o) : b ≠ C := fun q => by
  rw [q, N.new] at e
  exact Nat.lt_irrefl _ (Heap.lt_size e)
theorem Entered.noFrame {fp : List Addr} {C : Addr} (N : Entered X pins σ H0 z0 fp C) : C ∉ frs X.stack := fun q => by
  rcases List.mem_cons.mp (N.inv.stkSub C q) with e | e
  · have low := N.inv.lt
    rw [← e, N.new] at low
    exact Nat.lt_irrefl _ low
  · exact N.inv.nofs (Nat.le_of_eq N.new.symm) e
theorem Entered.apart {fp : List Addr} {C : Addr} (N : Entered X pins σ H0 z0 fp C) {b : Addr} (hb : b ∈ frs X.stack) : b ∉ fp := fun q => by
  rcases List.mem_cons.mp (N.inv.stkSub b hb) with e | e
  · exact (N.own b q).2.1 e
  · exact (N.own b q).2.2.1 e
/-- an exception of a callee, once the def's own frame holds it and the block's names are let go, is in the def's air -/
theorem Entered.air {fp : List Addr} {C x : Addr} {H5 H' : Hp} {z5 z' : Shared} {B G g : Heap} {cls : Value} {d : Option Addr} {E : XK} (N : Entered X pins σ H0 z0 fp C) (un : Un (frs X.stack) fp H0 H5 z0.heap z5.heap) (os5 : z5.os = z0.os)
    (ok : HOk X.prog X.w H' B) (ub : UB (frs X.stack) H5 H' z5.heap B z'.heap) (nx : H' x = none) (os' : z'.os = z5.os) (bare : AllBare z'.gens) (want : E cls d H') (nC : H' C = none) (GB : Less G B) (BG : ∀ b o, b ≠ C → B.get? b = some o → G.get? b = some o)
    (held : HandSPX.HeldZ G X.stack x (Zc cls d) X.env.locals g) (up : ∀ b o, b ≠ C → z'.heap.get? b = some o → (∀ vs, o.data ≠ .fields vs) → ∃ sl, g.get? b = some { o with slots := sl }) :
    XE X (fun cls d _ H => E cls d H) (.ref x) { z' with heap := g } := by
  obtain ⟨R, yes, no⟩ := restrict g fun b => (G.get? b).isSome || decide (b ∈ frs X.stack)
  have inR : Less G R := fun b o e => (yes b (by simp [e])).trans (held.1 b o e)
  have frR : ∀ {b : Addr}, b ∈ frs X.stack → R.get? b = g.get? b := fun hb => yes _ (by simp [hb])
  have ofR : ∀ {b : Addr} {o : Obj}, R.get? b = some o → g.get? b = some o ∧ (G.get? b ≠ none ∨ b ∈ frs X.stack) := fun {b o} e => by
    by_cases q : ((G.get? b).isSome || decide (b ∈ frs X.stack)) = true
    · refine ⟨(yes b q).symm.trans e, ?_⟩
      rcases Bool.or_eq_true_iff.mp q with q | q
      · exact .inl fun n => by rw [n] at q; cases q
      · exact .inr (of_decide_eq_true q)
    · rw [no b (by simpa using q)] at e
      cases e
  have okG : HOk X.prog X.w H' G := fun b o q => (ok b o q).stay (fun c u hc r => BG c u (fun e => by
    subst e
    rcases hc with e | e
    · rw [← e, nC] at q
      cases q
    · rw [nC] at e
      cases e) r) (fun _ r => r) fun _ _ r => r
  have slots : ∀ {b : Addr} {o : Obj}, z0.heap.get? b = some o → b ∈ frs X.stack → ∃ sl, R.get? b = some { o with slots := sl } := fun {b o} e hb => by
    obtain ⟨_, o0, e0, nf⟩ := N.inv.stack.mem hb
    rw [e] at e0
    cases e0
    obtain ⟨_, e1⟩ := un.slot b o e (N.inv.stkFree b hb) hb (N.apart hb)
    obtain ⟨_, e2⟩ := ub.slot b _ e1 hb
    obtain ⟨sl, e3⟩ := up b _ (N.old e) e2 nf
    exact ⟨sl, (frR hb).trans e3⟩
  have J : Inv X pins σ H' { z0 with heap := R, gens := z'.gens, drawn := z'.drawn, toks := z'.toks } := by
    refine N.inv.call (ch := fp) ⟨fun b o e n hb hx => inR b o (BG b o (N.old e) (ub.keep b o (un.keep b o e n hb hx) (un.free b o e n hx) hb)), fun b o e _ hb _ => slots e hb, fun b o e n hx => ?_, fun b o e hx => ?_, fun b xs q => ub.tups b xs (un.tups b xs q), fun b o u q => ub.frzs b o u (un.frzs b o u q), fun b ps q => ?_⟩
      (okG.kept inR) bare fun b hb => ⟨(N.own b hb).2.2.2.1, (N.own b hb).2.1, (N.own b hb).2.2.2.2.1, (N.own b hb).2.2.2.2.2⟩
    · obtain ⟨o1, e1⟩ := un.there b o e hx
      exact ub.free b o1 e1 (un.free b o e n hx)
    · by_cases isFrame : b ∈ frs X.stack
      · exact (slots e isFrame).elim fun sl q => ⟨_, q⟩
      · obtain ⟨o1, e1⟩ := un.there b o e hx
        obtain ⟨o2, e2⟩ := ub.there b o1 e1 isFrame
        exact ⟨o2, inR b o2 (BG b o2 (N.old e) e2)⟩
    · obtain ⟨m1, e1⟩ := un.tbls b ps q
      obtain ⟨m2, eB⟩ := ub.tbls b _ e1
      exact ⟨m1 ++ m2, eB.trans (by rw [Array.append_assoc])⟩
  refine ⟨x, G, _, pins, σ, H', cls, d, rfl, J, fun b o e hb => ?_, Heap.UpToSlots.of_keeps fun b o e => (ofR e).1, .inr (.inr held), nx, os'.trans os5, bare, want⟩
  obtain ⟨e1, q⟩ := ofR e
  rcases q with q | q
  · cases eG : G.get? b with
    | none => exact absurd eG q
    | some o2 => exact (held.1 b o2 eG).symm.trans e1
  · exact absurd q hb
/-- the block's context, with what it wishes of exceptions -/
abbrev BlkX (X : Cx) (z : Shared) (H : Hp) (scope : Scope) (cl : List (Str × Addr)) (C : Addr) (fp : List Addr) (xe : Value → Shared → Prop) : Cx := (X.blk z H scope (compEnvC scope cl C X.env) fp).wish xe
abbrev onFail (X : Cx) (scope : Scope) (cl : List (Str × Addr)) (C : Addr) (use : Option (Value → Sem Unit)) (Qf : Value → Shared → Prop) (acc : Value) : Value → Shared → Prop :=
  notedBy (model X.prog X.w) X.A (compEnvC scope cl C X.env) fun e z' => compEnds (model X.prog X.w) X.A X.xe use Qf acc (compEnvC scope cl C X.env) (.error e) z'
theorem Entered.passes {scope : Scope} {cl : List (Str × Addr)} {fp : List Addr} {C : Addr} {E : XK} {use : Option (Value → Sem Unit)} {Qf : Value → Shared → Prop} {acc : Value} (N : Entered X pins σ H0 z0 fp C) (tk : Takes X fun cls d _ H => E cls d H) (σ' : L2.St) :
    PassesAt (L2.CX X.prog X.w) (BlkX X z0 H0 scope cl C fp (onFail X scope cl C use Qf acc)) σ' E := by
  rintro pb H5 z5 e z' I5 ⟨x, B, H', cls, d, rfl, fly, ok, ub, nx, os', bare, want⟩
  have fly : HandSPX.FlyingZ B X.stack x (Zc cls d) z'.heap := fly
  have ub : UB (frs X.stack) H5 H' z5.heap B z'.heap := ub
  obtain ⟨m, ⟨oC, es, ep, hC, dC, rC⟩, _⟩ := I5.loc
  have hC : z5.heap.get? C = some oC := hC
  have inB : B.get? C = some oC := ub.keep C oC hC I5.free N.noFrame
  obtain ⟨G, gy, gn⟩ := restrict B fun b => decide (b ≠ C)
  have BG : ∀ b o, b ≠ C → B.get? b = some o → G.get? b = some o := fun b o ne q => (gy b (decide_eq_true ne)).trans q
  have noC : G.get? C = none := gn C (by simp)
  have GB : Less G B := fun b o q => by
    by_cases ne : b = C
    · rw [ne, noC] at q
      cases q
    · exact (gy b (decide_eq_true ne)).symm.trans q
  have fly2 : HandSPX.FlyingZ G (X.env :: X.outer) x (Zc cls d) z'.heap := by
    rw [← N.top]
    exact ⟨fun b o q => fly.1 b o (GB b o q), GB.none fly.2.1, frames_in GB fly.2.2.1, traced_in GB fly.2.2.2⟩
  show wpAny _ _ (noteFrame (.ref x) (compEnvC scope cl C X.env)) _ _ z'
  rw [noteFrame_env (.ref x) (cenv := compEnvC scope cl C X.env) (env := X.env) rfl]
  refine HandSPX.looks_onZ Zc.steady (N.inv.ok.frames.trans (congrArg some N.top)) N.frame fly2 fun g1 held1 up1 => ?_
  have fails : CompFails (model X.prog X.w) X.A X.xe (compEnvC scope cl C X.env) (.ref x) { z' with heap := g1 } := by
    have ns1 : g1.Ns C m := by
      obtain ⟨sl, q⟩ := up1 C oC (fly.1 C oC inB) fun vs q => by rw [dC] at q; cases q
      exact ⟨_, es, ep, q, dC, rC⟩
    refine ⟨m, ns1, fun g2 m2 ns2 same => ?_⟩
    have same : Heap.SameBut C g1 g2 := same
    have held2 : HandSPX.HeldZ G (X.env :: X.outer) x (Zc cls d) X.env.locals g2 := ⟨fun b o q => (same.2 b fun e => by rw [e, noC] at q; cases q).trans (held1.1 b o q), held1.2.1, Heap.FunFrames.sameBut same ns2 held1.2.2.1, traced_past ns1 same held1.2.2.2⟩
    obtain ⟨ox, vs, T, _, _, hx, _, dx, v1, _⟩ := id held2.2.2.2
    unfold PySem.passOn
    refine wpAny_bind (wpAny_field (s := { z' with heap := g2 }) hx dx v1 ?_)
    rw [if_neg (show ¬ ((Value.ref T == Value.none) = true) by simp)]
    show wpAny _ _ (setFlight (.ref x) X.env.frame >>= fun _ => throw (.ref x)) _ _ _
    rw [N.frame]
    refine wpAny_bind (HandSPX.setFlight_onZ (s := { z' with heap := g2 }) held2 fun g3 held3 up3 => wpAny_throw (tk _ _ ?_))
    refine N.air (z' := z') I5.base I5.os ok ub nx os' bare want (ub.free C oC hC I5.free) GB BG (by rw [N.top]; exact held3) fun b o ne q nf => ?_
    obtain ⟨sl, q1⟩ := up1 b o q nf
    exact up3 b { o with slots := sl } ((same.2 b ne).trans q1) nf
  cases use <;> exact fails
end
section
variable {X : Cx}
/-- the parts of such a comprehension, derived in the block's context whatever that wishes of exceptions; a callee of the element may let out what E tells -/
structure PartsX (X : Cx) (E : XK) (tg elt : Expr) (ifs : List Expr) (scope : Scope) (g : TG) (tt : TT) (te : TE) : Prop where
  target : ∀ (z : Shared) (H : Hp) (C : Addr) (cl : List (Str × Addr)) (fp : List Addr) (xe : Value → Shared → Prop), PG (BlkX X z H scope cl C fp xe) tg g
  tests : ∀ (z : Shared) (H : Hp) (C : Addr) (cl : List (Str × Addr)) (fp : List Addr) (xe : Value → Shared → Prop), PTs (BlkX X z H scope cl C fp xe) ifs tt
  element : ∀ (z : Shared) (H : Hp) (C : Addr) (cl : List (Str × Addr)) (fp : List Addr) (xe : Value → Shared → Prop), (∀ σ', PassesAt (L2.CX X.prog X.w) (BlkX X z H scope cl C fp xe) σ' E) → PE (BlkX X z H scope cl C fp xe) elt te
/-- what tLc says of a walk J behind the list's making, for the invariant W -/
abbrev LcTurn (J : It) (g : TG) (tt : TT) (te : TE) (vs : List Nat) (σ : L2.St) (D : Addr) (Q : VK) (W : Nat → Nat → Hp → Prop) : Prop := ∀ i m H, W i m H → (J.stop i H ∧ Q (.ref D) H) ∨ (J.go i H ∧ ∃ Nx : Hp → Prop, (∀ H', Nx H' → ∃ m', m' < m ∧ W (i + 1) m' H') ∧
  ∀ x H', J.yld i H x H' → g x (wipe σ vs) H' fun σ2 H2 => wipe σ2 vs = wipe σ vs ∧ tt σ2 H2 fun b H3 => if b = true then te σ2 H3 fun y H4 => ∃ acc, H4 D = some (.lst acc) ∧ acc.length < sizeLine ∧ Nx (upd H4 D (.lst (acc ++ [y]))) else Nx H3)
/-- the loop, from the block's first state on -/
theorem lcx_loop {pins : List (Addr × Obj)} {σ : L2.St} {H0 : Hp} {z0 z : Shared} {Q : VK} {E : XK} {elt tg iter : Expr} {ifs : List Expr} {scope : Scope} {vs : List Nat} {pos : Pos} {g : TG} {tt : TT} {te : TE} {use : Option (Value → Sem Unit)} {Qf : Value → Shared → Prop} {it C D : Addr} {fp : List Addr} {cl : List (Str × Addr)}
    {tn : Nat → Heap → Prop} {J : It} {W : Nat → Nat → Hp → Prop} {m0 : Nat} (calm : X.calm = true) (N : Entered X pins σ H0 z0 fp C) (tk : Takes X fun cls d _ H => E cls d H) (parts : PartsX X E tg elt ifs scope g tt te) (T : Turn X.prog X.w X.K tg J fp it tn) (turn : LcTurn J g tt te vs σ D Q W)
    (I : Inv (X.blk z0 H0 scope (compEnvC scope cl C X.env) fp) [] (wipe σ vs) H0 z) (start : tn 0 z.heap) (w0 : W 0 m0 H0)
    (fin : ∀ z' m H', Inv X pins σ H' z' → Q (.ref D) H' → z'.heap.Ns C m → FpOk X pins H' C → compEnds (model X.prog X.w) X.A X.xe use Qf (.ref D) (compEnvC scope cl C X.env) (.ok .next) z') :
    codeAny (model X.prog X.w) X.A (.compLoop (.ListComp elt [⟨tg, iter, ifs, 0⟩] scope pos) 0 (.ref it) (.ref D) (compEnvC scope cl C X.env)) (compEnds (model X.prog X.w) X.A X.xe use Qf (.ref D) (compEnvC scope cl C X.env)) z := by
  have getX : ∀ {σ' H' z'}, Inv (X.blk z0 H0 scope (compEnvC scope cl C X.env) fp) [] σ' H' z' → Inv (BlkX X z0 H0 scope cl C fp (onFail X scope cl C use Qf (.ref D))) [] σ' H' z' := fun q => q.wish _
  generalize hY : BlkX X z0 H0 scope cl C fp (onFail X scope cl C use Qf (.ref D)) = Y at getX
  have same : Y.prog = X.prog ∧ Y.w = X.w ∧ Y.K = X.K ∧ Y.A = X.A ∧ Y.calm = true ∧ Y.env = compEnvC scope cl C X.env ∧ Y.xe = onFail X scope cl C use Qf (.ref D) ∧ Y.ex = fp ∧ Y.pn = [] := by subst hY; exact ⟨rfl, rfl, rfl, rfl, calm, rfl, rfl, rfl, rfl⟩
  have pg := parts.target z0 H0 C cl fp (onFail X scope cl C use Qf (.ref D))
  have pt := parts.tests z0 H0 C cl fp (onFail X scope cl C use Qf (.ref D))
  have pe := parts.element z0 H0 C cl fp (onFail X scope cl C use Qf (.ref D)) fun σ' => N.passes tk σ'
  rw [hY] at pg pt pe
  have mine : ∀ {σ' : L2.St} {H' : Hp} {z' : Shared}, Inv Y [] σ' H' z' → (∀ b ∈ fp, H' b = none) → ∀ b ∈ fp, FpOk Y [] H' b := fun {σ' H' z'} q free b hb => by
    have inEx : b ∈ Y.ex := by rw [same.2.2.2.2.2.2.2.1]; exact hb
    refine ⟨free b hb, (q.ok.exf b inEx).1, q.ok.exfs b inEx, .inl inEx, fun x c e => (q.ok.exf b inEx).2 x c e, fun p hp => ?_⟩
    rw [same.2.2.2.2.2.2.2.2] at hp
    cases hp
  have first : ∀ b ∈ fp, H0 b = none := fun b hb => (N.own b hb).1
  refine compLoop_any (fun n z' => ∃ i H', Inv Y [] (wipe σ vs) H' z' ∧ tn i z'.heap ∧ (∀ b ∈ fp, H' b = none) ∧ W i n H') ?_ m0 ⟨0, H0, getX I, start, first, w0⟩
  rintro n z5 ⟨i, H5, I5, at5, free5, w5⟩
  rcases turn i n H5 w5 with ⟨stop, want⟩ | ⟨go, Nx, down, body⟩
  · have stopped := T.done Y same.1 same.2.1 same.2.2.1 same.2.2.2.2.1 i [] z5 _ H5 (fun _ _ => False) I5 (mine I5 free5) at5 stop
    rw [same.2.2.2.1] at stopped
    refine thnF stopped fun r z6 ⟨none_, I6⟩ => ?_
    subst none_
    subst hY
    obtain ⟨m, ns, _⟩ := I6.loc
    exact fin z6 m H5 (N.inv.call' (ch := fp) I6.os I6.base I6.hok I6.bare fun b hb => ⟨(N.own b hb).2.2.2.1, (N.own b hb).2.1, (N.own b hb).2.2.2.2.1, (N.own b hb).2.2.2.2.2⟩) want ns (N.inv.fpOk (Nat.le_of_eq N.new.symm) I6.free)
  · have drawn := T.item Y same.1 same.2.1 same.2.2.1 same.2.2.2.2.1 i [] z5 _ H5 (fun _ _ => False) I5 (mine I5 free5) at5 go
    rw [same.2.2.2.1] at drawn
    refine thnF drawn fun r z6 ⟨u, some_, owned⟩ => ?_
    subst some_
    refine thnF owned fun _ z7 ⟨x, H7, I7, rx, y7, at7, free7⟩ => ?_
    have held := I7.pinned (mine I7 free7) (T.obj _ _ at7)
    -- the turn's end
    have back : ∀ {σ8 : L2.St} {z' : Shared} {H' : Hp}, wipe σ8 vs = wipe σ vs → Inv Y ([] ++ pinsAt fp z7.heap) σ8 H' z' → Nx H' → ∃ m, m < n ∧ ∃ i H', Inv Y [] (wipe σ vs) H' z' ∧ tn i z'.heap ∧ (∀ b ∈ fp, H' b = none) ∧ W i m H' := fun {σ8 z' H'} hw q nx => by
      obtain ⟨m, less, w⟩ := down H' nx
      have pin : ∀ {b o}, b ∈ fp → z7.heap.get? b = some o → z'.heap.get? b = some o ∧ H' b = none := fun {b o} hb e =>
        have r := q.pin (b, o) (List.mem_append_right _ (List.mem_append_right _ (mem_pinsAt hb e)))
        ⟨r.1, r.2.1⟩
      refine ⟨m, less, i + 1, H', (q.unpinned (pins := [])).weak (by rw [← hw, wipe_length]) (fun j v e => (wipe_some (by rw [hw]; exact e)).1), T.keep _ _ _ at7 fun b hb o e => (pin hb e).1, fun b hb => ?_, w⟩
      obtain ⟨o, e, _⟩ := T.obj _ _ at7 b hb
      exact (pin hb e).2
    have hx := same.2.2.2.2.2.2.1
    have assigned := pg.run _ z7 _ H7 x u _ held rx (body x H7 y7)
    rw [same.1, same.2.1, same.2.2.2.1, same.2.2.2.2.2.1, hx] at assigned
    refine thn assigned fun _ z8 ⟨σ8, H8, I8, hw, asked⟩ => ?_
    have tested := pt.run _ z8 σ8 H8 _ I8 asked
    rw [same.1, same.2.1, same.2.2.2.1, same.2.2.2.2.2.1, hx] at tested
    refine thn tested fun b z9 ⟨H9, I9, q9⟩ => ?_
    cases b with
    | false => exact back hw I9 (by simpa using q9)
    | true =>
      have made := pe.run _ z9 σ8 H9 _ I9 (by simpa using q9)
      rw [same.1, same.2.1, same.2.2.2.1, same.2.2.2.2.2.1, hx] at made
      rw [if_pos rfl]
      refine thn made fun v z10 ⟨y, H10, I10, ry, acc, atD, room, nx⟩ => ?_
      have put := app_ok (E := onFail X scope cl C use Qf (.ref D)) (Q := fun _ z' => ∃ m, m < n ∧ ∃ i H', Inv Y [] (wipe σ vs) H' z' ∧ tn i z'.heap ∧ (∀ b ∈ fp, H' b = none) ∧ W i m H') I10 atD room ry fun z11 I11 => back hw I11 nx
      rw [same.1, same.2.1, same.2.2.2.1] at put
      exact put
/-- the whole: the walk's expression, the new list, the block -/
theorem lcx {pins : List (Addr × Obj)} {z : Shared} {σ : L2.St} {H : Hp} {Q : VK} {E : XK} {elt tg iter : Expr} {ifs : List Expr} {scope : Scope} {own : List (Str × Nat)} {pos q : Pos} {wi : TI} {g : TG} {tt : TT} {te : TE} {use : Option (Value → Sem Unit)} {Qf : Value → Shared → Prop}
    (calm : X.calm = true) (nd : X.N.Nodup) (top : X.stack = X.env :: X.outer) (frame : X.env.frame = some X.env.locals) (tk : Takes X fun cls d _ H => E cls d H) (I : Inv X pins σ H z) (walk : PI X tg iter wi) (ok : BlkOk X.N X.env.scope scope own) (parts : PartsX X E tg elt ifs scope g tt te)
    (fold : ∀ x, foldedSetIterable iter X.env x = pure x) (want : tLc wi g tt te (own.map (·.2)) σ H Q)
    (fin : ∀ (D : Addr) (ce : Env) z' m H', Inv X pins σ H' z' → Q (.ref D) H' → z'.heap.Ns ce.locals m → FpOk X pins H' ce.locals → compEnds (model X.prog X.w) X.A X.xe use Qf (.ref D) ce (.ok .next) z') :
    wpAny (model X.prog X.w) X.A (comprehension (.ListComp elt [⟨tg, iter, ifs, 0⟩] scope pos) scope X.env q (newList []) false (eval iter X.env) use) Qf X.xe z := by
  have cells : ∀ y ∈ scope.names, y.2 = .free → ∃ c, X.env.cells.lookup y.1 = some c := fun y hy e => (ok.free y hy e).elim (fun k => I.ok.has _ (.inl k)) fun k => I.ok.has _ (.inr k)
  refine comprehension_at rfl fold (closure_ok cells) ok.kind (fun y hy e => (ok.uniq y hy).trans (congrArg some e)) (thn (walk.run pins z σ H _ I want) fun v z1 iters => thn iters fun itv z2 ⟨it, fp, tn, J, H2, isIt, I2, T, at2, own2, asks⟩ => ?_)
  subst isIt
  obtain ⟨W, ⟨m0, w0⟩, turn⟩ := asks z2.heap.objs.size (I2.hok.fresh (Nat.le_refl _))
  have old : ∀ b ∈ fp, b < z2.heap.objs.size := fun b hb => let ⟨o, e, _⟩ := T.obj _ _ at2 b hb; Heap.lt_size e
  refine wpAny_newObj_type (newEnv_comp ?_) (show 0 ≤ sizeLine by decide)
  -- the state with the new list
  have I3 := I2.laid (a := z2.heap.objs.size) (o := .lst []) (h' := z2.heap.push { cls := .type "list", data := .seq ([] : List Value).toArray }) (t' := z2.toks) (fun b o e => Heap.get?_push_of_some _ e) (Nat.le_refl _) ⟨Nat.zero_le _, [], 0, .nil, Heap.get?_push_size _ rfl⟩
  have at3 : tn 0 (z2.heap.push { cls := .type "list", data := .seq ([] : List Value).toArray }) := T.keep _ _ _ at2 fun b _ o e => Heap.get?_push_of_some _ e
  have own3 : ∀ b ∈ fp, FpOk X pins (upd H2 z2.heap.objs.size (.lst [])) b := fun b hb => ⟨(upd_ne (Nat.ne_of_lt (old b hb))).trans (own2 b hb).1, (own2 b hb).2⟩
  have low3 : ∀ b ∈ fp, b < (z2.heap.push { cls := .type "list", data := .seq ([] : List Value).toArray }).objs.size := fun b hb => by rw [Heap.size_push]; exact Nat.lt_succ_of_lt (old b hb)
  generalize hz3 : ({ z2 with heap := z2.heap.push { cls := .type "list", data := .seq ([] : List Value).toArray } } : Shared) = z3
  have hh : z3.heap = z2.heap.push { cls := .type "list", data := .seq ([] : List Value).toArray } := by rw [← hz3]
  have I3 : Inv X pins σ (upd H2 z2.heap.objs.size (.lst [])) z3 := by rw [← hz3]; exact I3
  rw [← hh] at at3 low3
  have N : Entered X pins σ (upd H2 z2.heap.objs.size (.lst [])) z3 fp z3.heap.objs.size := ⟨I3, own3, rfl, top, frame⟩
  have I4 := block_start I3 ok nd fun b hb => ⟨own3 b hb, low3 b hb⟩
  have at4 : tn 0 (pushCells (z3.heap.push { cls := .type "dict", data := .dict #[] }) scope.names) := T.keep _ _ _ at3 fun b _ o e => pushCells_keeps _ _ _ _ (Heap.get?_push_of_some _ e)
  have loop := lcx_loop (iter := iter) (pos := pos) (use := use) (Qf := Qf) calm N tk parts T turn I4 at4 w0 fun z' m H' J' q' ns own' => fin _ (compEnvC scope (cellsFrom (z3.heap.objs.size + 1) scope.names (cloFrom X.env.cells scope.names [])) z3.heap.objs.size X.env) z' m H' J' q' ns own'
  exact codeAny_compStart_list loop (T.self X.A 0 _ _ _ at4 loop)
theorem pe_lcx {E : XK} {elt tg iter : Expr} {ifs : List Expr} {scope : Scope} {own : List (Str × Nat)} {pos : Pos} {wi : TI} {g : TG} {tt : TT} {te : TE} (calm : X.calm = true) (nd : X.N.Nodup) (top : X.stack = X.env :: X.outer) (frame : X.env.frame = some X.env.locals) (tk : Takes X fun cls d _ H => E cls d H) (walk : PI X tg iter wi)
    (ok : BlkOk X.N X.env.scope scope own) (parts : PartsX X E tg elt ifs scope g tt te) (fold : ∀ x, foldedSetIterable iter X.env x = pure x := by intro _; rfl) : PE X (.ListComp elt [⟨tg, iter, ifs, 0⟩] scope pos) (tLc wi g tt te (own.map (·.2))) := by
  refine ⟨fun pins z σ H Q I want => ?_⟩
  rw [eval_ListComp]
  exact lcx calm nd top frame tk I walk ok parts fold want fun D ce z' m H' J q ns o => ⟨m, ns, fun g' same => ⟨.ref D, H', J.turned (t' := z'.toks) (fun b x hb e => (same.2 b hb).trans e) o.1 o.2.1 o.2.2.2.1 o.2.2.2.2.1 o.2.2.2.2.2, rfl, q⟩⟩
theorem ps_setLcx {E : XK} {i : Nat} {y : Str} {py : Pos} {elt tg iter : Expr} {ifs : List Expr} {scope : Scope} {own : List (Str × Nat)} {pos sp : Pos} {wi : TI} {g : TG} {tt : TT} {te : TE} (calm : X.calm = true) (nd : X.N.Nodup) (top : X.stack = X.env :: X.outer) (frame : X.env.frame = some X.env.locals) (tk : Takes X fun cls d _ H => E cls d H)
    (isY : X.N[i]? = some y) (local_ : X.env.scope.names.lookup y = some .local) (sw : swapsWith (.ListComp elt [⟨tg, iter, ifs, 0⟩] scope pos) (some (.Name y py)) sp.line X.env = pure true) (walk : PI X tg iter wi) (ok : BlkOk X.N X.env.scope scope own) (parts : PartsX X E tg elt ifs scope g tt te)
    (fold : ∀ x, foldedSetIterable iter X.env x = pure x := by intro _; rfl) : PS X (.Assign [.Name y py] (.ListComp elt [⟨tg, iter, ifs, 0⟩] scope pos) sp) (tAsg (tLc wi g tt te (own.map (·.2))) (gName i)) := by
  refine ⟨fun pins z σ H D I want => ?_⟩
  have want : tLc wi g tt te (own.map (·.2)) σ H (fun x H1 => gName i x σ H1 D.nx) := want
  rw [exec_Assign_Name_used _ _ _ _ sw]
  apply wpAny_bind
  refine wpAny_standAt (wpAny_bind ?_)
  show wpAny _ X.A (comprehension (.ListComp elt [⟨tg, iter, ifs, 0⟩] scope pos) scope X.env (firstIterPos [⟨tg, iter, ifs, 0⟩] pos) (newList []) false (eval iter X.env) (some (assign (.Name y py) X.env)) >>= fun _ => _) _ _ z
  refine wpAny_bind (thn (lcx (Qf := fun _ z' => SP X pins D .next z') calm nd top frame tk I walk ok parts fold want fun l ce z' m H' J q ns o => ?_) fun _ z' got => wpAny_pure (wpAny_pure got))
  show wpAny _ _ (assign (.Name y py) X.env (.ref l)) _ _ _
  refine wpAny_assign_Name (store_ok2 (v := V.ref l) J nd isY (.inl local_) rfl (fun z2 J2 ⟨a, same, at_⟩ => ?_) (.inr local_))
  have off : ce.locals ≠ a := at_.elim (fun e => by rw [e]; exact o.2.1) fun e => Ne.symm (o.2.2.2.2.1 _ _ e)
  exact ⟨m, ns.sameBut same off, fun g' same2 => ⟨_, H', J2.turned (t' := z2.toks) (fun b x hb e => (same2.2 b hb).trans e) o.1 o.2.1 o.2.2.2.1 o.2.2.2.2.1 o.2.2.2.2.2, q⟩⟩
end
end Rd
/-! The end of a specification's row (one argument, a list of ints) where defs of the program make lambdas: the tables of their code objects are tracked from the entry on. -/
namespace Rd
open PySem PySem.Spec PyProof.Rows L2 LamX NdefX
open PySem.W (WData Codec OpenSpec Well WellAll ReadsW ReadsAllW)
theorem sqL_grow {K : PySem.W.Frag} {H G : Hp} (m : ∀ b o, H b = some o → G b = some o) {a : Addr} {xs : List V} : SqL K H a xs → SqL K G a xs
  | .inl (.inl e) => .inl (.inl (m _ _ e))
  | .inl (.inr ⟨o, e⟩) => .inl (.inr ⟨o, m _ _ e⟩)
  | .inr e => .inr e
theorem sqT_grow {K : PySem.W.Frag} {H G : Hp} (m : ∀ b o, H b = some o → G b = some o) {a : Addr} {xs : List V} : SqT K H a xs → SqT K G a xs
  | .inl (.inl e) => .inl (.inl (m _ _ e))
  | .inl (.inr ⟨o, e⟩) => .inl (.inr ⟨o, m _ _ e⟩)
  | .inr e => .inr e
/-- what is tracked of the request -/
structure Request (P : Program) (w : World) (K : PySem.W.Frag) (h : Heap) (vals : List Value) (ns : List Int) (a : Addr) (H : Hp) : Prop where
  one : vals = [.ref a]
  list : SqL K H a (ns.map V.int)
  ok : HOk P w H h
  frz : ∀ b u, H b = some u → ∃ o v, u = .frz o v
  off : ∀ b u, H b = some u → K.lookup b = none
  seq : ∀ b u, H b = some u → ∃ c vs, h.get? b = some { cls := c, data := .seq vs }
theorem request {P : Program} {w : World} {K : PySem.W.Frag} {h : Heap} {vals : List Value} {ns : List Int} (KX : K.In h) (well : WellAll w.params h vals [.list (ns.map WData.int)]) (small : (WData.list (ns.map WData.int)).weight ≤ 1048576) : ∃ a H, Request P w K h vals ns a H := by
  have plain : plWs [.list (ns.map WData.int)] = true := Bool.and_eq_true_iff.mpr ⟨plWs_map (fun _ => rfl) ns, rfl⟩
  obtain ⟨A, okA, obs⟩ := area_all _ vals well plain fun d hd => (List.mem_singleton.mp hd) ▸ small
  have told := dw_all KX obs _ vals well plain okA
  obtain ⟨u, us, rfl, w1, w2⟩ := well_cons well
  cases w2
  obtain ⟨a, its, rfl, at_, _⟩ := well_list w1
  refine ⟨a, argH K h A, rfl, ?_, argH_ok obs, fun b u q => ?_, fun b u q => (argH_is obs q).1, fun b u q => ?_⟩
  · cases told with
    | cons d _ =>
      cases d with
      | lst sq all => exact (ints_dw ns _ all) ▸ sq
  · rcases argH_only obs b with e | ⟨o, v, e⟩
    · rw [q] at e
      cases e
    · exact ⟨o, v, Option.some.inj (q.symm.trans e)⟩
  · obtain ⟨_, vs, _, _, e⟩ := argH_is obs q
    rcases e with ⟨e, _⟩ | ⟨e, _⟩
    · exact ⟨_, _, e⟩
    · exact ⟨_, _, e⟩
/-- the tables beside it -/
def beside (cs : List (Addr × Addr)) (H : Hp) : Hp := fun b => if b ∈ cs.map (·.2) then some (.tbl #[]) else H b
/-- what the head leaves of the code objects and their tables -/
structure Tables (K : PySem.W.Frag) (mg : Str → Option Value) (cs : List (Addr × Addr)) (h : Heap) : Prop where
  empty : ∀ p ∈ cs, h.get? p.2 = some (PySem.W.tabObj #[])
  off : ∀ p ∈ cs, K.lookup p.2 = none
  code : ∀ p ∈ cs, PySem.W.CodeHd h p.1 p.2
  mod : ∃ (bm : Addr) (ob : Obj), mg "__builtins__" = some (.ref bm) ∧ bm ≠ builtinsNs ∧ h.get? bm = some ob ∧ ob.cls = .type "module" ∧ ob.dict = some builtinsNs ∧ ob.data = .plain
section
variable {P : Program} {w : World} {K : PySem.W.Frag} {mg mb : Str → Option Value} {h : Heap} {cs : List (Addr × Addr)} {vals : List Value} {ns : List Int} {a : Addr} {H : Hp}
theorem Tables.at (T : Tables K mg cs h) {b : Addr} (hb : b ∈ cs.map (·.2)) : h.get? b = some (PySem.W.tabObj #[]) := by
  obtain ⟨p, hp, rfl⟩ := List.mem_map.mp hb
  exact T.empty p hp
theorem beside_tab {b : Addr} (hb : b ∈ cs.map (·.2)) : beside cs H b = some (.tbl #[]) := if_pos hb
theorem beside_not {b : Addr} (hb : b ∉ cs.map (·.2)) : beside cs H b = H b := if_neg hb
theorem Request.out (R : Request P w K h vals ns a H) (T : Tables K mg cs h) {b : Addr} {u : HO} (e : H b = some u) : b ∉ cs.map (·.2) := fun q => by
  obtain ⟨c, vs, x⟩ := R.seq b u e
  rw [T.at q] at x
  cases x
theorem Request.sub (R : Request P w K h vals ns a H) (T : Tables K mg cs h) (b : Addr) (u : HO) (e : H b = some u) : beside cs H b = some u := (beside_not (R.out T e)).trans e
theorem Request.both (R : Request P w K h vals ns a H) (T : Tables K mg cs h) : HOk P w (beside cs H) h := fun b u q => by
  by_cases hb : b ∈ cs.map (·.2)
  · rw [beside_tab hb] at q
    exact Option.some.inj q ▸ T.at hb
  · rw [beside_not hb] at q
    exact (R.ok b u q).stay (fun _ _ _ e => e) (fun c e => R.sub T c _ e) fun c xs e => R.sub T c _ e
/-- an object that is neither a sequence nor an empty table is not tracked -/
theorem Request.none (R : Request P w K h vals ns a H) (T : Tables K mg cs h) {b : Addr} {o : Obj} (e : h.get? b = some o) (n1 : ∀ vs n, o.data ≠ .seq vs n) (n2 : o.data ≠ .fields #[]) : beside cs H b = none := by
  by_cases hb : b ∈ cs.map (·.2)
  · rw [T.at hb] at e
    exact absurd (Option.some.inj e ▸ rfl) n2
  · rw [beside_not hb]
    cases q : H b with
    | none => rfl
    | some u =>
      obtain ⟨c, vs, x⟩ := R.seq b u q
      rw [e] at x
      exact absurd (Option.some.inj x ▸ rfl) (n1 vs 0)
theorem Request.names (R : Request P w K h vals ns a H) (T : Tables K mg cs h) {b : Addr} {m : Str → Option Value} (x : h.Ns b m) : (hidT h (beside cs H)).Ns b m := by
  obtain ⟨o, es, ep, e, d, r⟩ := x
  exact ⟨o, es, ep, hidT_get e (R.none T e (fun vs n q => by rw [d] at q; cases q) fun q => by rw [d] at q; cases q), d, r⟩
theorem Request.frag (R : Request P w K h vals ns a H) (T : Tables K mg cs h) (KX : K.In h) : K.In (hidT h (beside cs H)) := fun b o e => hidT_get (KX b o e) (by
  by_cases hb : b ∈ cs.map (·.2)
  · obtain ⟨p, hp, q⟩ := List.mem_map.mp hb
    rw [← q, T.off p hp] at e
    cases e
  · rw [beside_not hb]
    cases q : H b with
    | none => rfl
    | some u => rw [R.off b u q] at e; cases e)
theorem Request.tab (R : Request P w K h vals ns a H) (T : Tables K mg cs h) (glob : h.Ns mainGlobals mg) (p : Addr × Addr) (hp : p ∈ cs) : TabB (hidT h (beside cs H)) mg p.1 p.2 := by
  obtain ⟨oG, eG, epG, gG, dG, _⟩ := glob
  refine ⟨?_, ?_, fun q => ?_⟩
  · obtain ⟨o, vs, file, tf, fl, tg, inF, tx, tt, e, c, d, v11, r⟩ := T.code p hp
    exact ⟨o, vs, file, tf, fl, tg, inF, tx, tt, hidT_get e (R.none T e (fun us n q => by rw [d] at q; cases q) fun q => by rw [d] at q; cases q; simp at v11), c, d, v11, r⟩
  · obtain ⟨bm, ob, b1, b2, b3, b4, b5, b6⟩ := T.mod
    refine ⟨bm, ob, b1, b2, fun q => ?_, fun q => ?_, hidT_get b3 (R.none T b3 (fun us n q => by rw [b6] at q; cases q) fun q => by rw [b6] at q; cases q), b4, b5, b6⟩
    · rw [q, gG] at b3
      cases b3
      rw [dG] at b6
      cases b6
    · rw [q, T.empty p hp] at b3
      cases b3
      cases b6
  · rw [q, T.empty p hp] at gG
    cases gG
    cases dG
end
/-- the call -/
theorem call_spec {P : Program} {w : World} {K : PySem.W.Frag} {mg mb : Str → Option Value} {k : Nat} {fa : Addr} {cs : List (Addr × Addr)} {fd : FuncData} {x : Str} {sp : Sp} {z : Shared} {vals : List Value} {ns : List Int} {R : PySem.W.WRecords} {cl : Str → Option Addr} {d0 : WData}
    (KX : K.In z.heap) (glob : z.heap.Ns mainGlobals mg) (blt : z.heap.Ns builtinsNs mb) (bltIs : ∀ x : Str, x ≠ "__name__" → mb x = bootBuiltins x) (noLim : z.heap.NoLimit) (noGen : z.gens = #[]) (T : Tables K mg cs z.heap)
    (well : WellAll w.params z.heap vals [.list (ns.map WData.int)]) (small : (WData.list (ns.map WData.int)).weight ≤ 1048576) (room : Room k callerA)
    (F : ∀ base : Heap, K.In base → base.Ns mainGlobals mg → (∀ p ∈ cs, TabB base mg p.1 p.2) → FnOk P w K mg base CX0 k fa fd [x] sp) (bd : ∀ (z : Shared) (u : Value), BindsTo z fd ⟨[u], []⟩ [(x, u)])
    (want : ∀ (H : Hp) (a : Addr), (∀ p ∈ cs, H p.2 = some (.tbl #[])) → SqL K H a (ns.map V.int) → sp [.ref a] H (fun v H' => Dw K H' v d0) fun _ _ _ => False) :
    codeAny (model P w) callerA (.call (.ref fa) ⟨vals, []⟩) (fun r z' => ∃ u as, r = .ok (.ret u) ∧ ReadsW R cl z'.heap u d0 as ∧ OldK z.heap z'.heap ∧ z'.os = z.os ∧ AllBare z'.gens) z := by
  obtain ⟨a, H, Rq⟩ := request (P := P) KX well small
  obtain rfl := Rq.one
  have frag := Rq.frag T KX
  have mod : L2.Mod K mg (hidT z.heap (beside cs H)) := ⟨frag, Rq.names T glob, ⟨mb, Rq.names T blt, bltIs⟩, noLim.elim fun mc r => ⟨mc, Rq.names T r.1, r.2⟩⟩
  have e0 : Env0 P w K mg (hidT z.heap (beside cs H)) callerA [] z (beside cs H) := ⟨rfl, mod, fun b o e => of_hidT e, Nat.le_of_eq (hidT_size _ _), trivial, fun b hb => absurd hb (List.not_mem_nil), Rq.both T, .of_eq noGen⟩
  have mem : ∀ p ∈ cs, p.2 ∈ cs.map (·.2) := fun p hp => List.mem_map_of_mem hp
  refine codeAny_mono ((F _ frag (Rq.names T glob) (Rq.tab T glob)).run callerA [] z (beside cs H) ⟨[.ref a], []⟩ [.ref a] [.ref a] _ _ room e0 (bd z (.ref a)) (.cons rfl .nil) (want _ a (fun p hp => beside_tab (mem p hp)) (sqL_grow (Rq.sub T) Rq.list))) fun r z' got => ?_
  match r, got with
  | .error e, got => exact False.elim got
  | .ok .next, got => exact False.elim got
  | .ok .brk, got => exact False.elim got
  | .ok .cont, got => exact False.elim got
  | .ok (.ret u), ⟨v, H', os, bare, un, ok', rv, q⟩ =>
    have stays : ∀ b o, b ∉ cs.map (·.2) → z.heap.get? b = some o → z'.heap.get? b = some o := fun b o nb e => by
      cases hb : H b with
      | none => exact un.keep b o e ((beside_not nb).trans hb) (List.not_mem_nil) (List.not_mem_nil)
      | some v =>
        obtain ⟨ob, v2, rfl⟩ := Rq.frz b v hb
        have now := un.frzs b ob v2 (Rq.sub T b _ hb)
        exact (ok' b _ now).1.trans ((Rq.ok b _ hb).1.symm.trans e)
    have grew : ∀ p ∈ cs, ∃ more : Array Value, z'.heap.get? p.2 = some { cls := .none, data := .fields more } := fun p hp => by
      obtain ⟨more, e⟩ := un.tbls p.2 #[] (beside_tab (mem p hp))
      exact ⟨_, ok' p.2 _ e⟩
    have KX' : K.In z'.heap := fun b o e => stays b o (fun q => by
      obtain ⟨p, hp, eq⟩ := List.mem_map.mp q
      rw [← eq, T.off p hp] at e
      cases e) (KX b o e)
    obtain ⟨as, rd⟩ := Dw.reads (R := R) (cl := cl) ok' KX' d0 v u q rv
    refine ⟨u, as, rfl, rd, ⟨fun b o e => ?_, fun b o e => ?_⟩, os, bare⟩
    · by_cases inTab : b ∈ cs.map (·.2)
      · obtain ⟨p, hp, rfl⟩ := List.mem_map.mp inTab
        obtain ⟨more, now⟩ := grew p hp
        obtain rfl := Option.some.inj (e.symm.trans (T.empty p hp))
        exact .inr (.inl ⟨((T.code p hp).tab (T.empty p hp)).isCodeTable, rfl, #[], more, rfl, by rw [Array.empty_append]; exact now⟩)
      · exact .inl (stays b o inTab e)
    · by_cases inTab : b ∈ cs.map (·.2)
      · obtain ⟨p, hp, rfl⟩ := List.mem_map.mp inTab
        exact (grew p hp).elim fun more now => ⟨_, now⟩
      · exact ⟨o, stays b o inTab e⟩
theorem enc_one {args : List Codec} {lo hi : Int} {l1 l2 : Nat} (e : args = [.list l1 l2 (.int lo hi)]) (dn : Codec.denoteAll args) : ∃ ns : List Int, Codec.encAll args dn = [.list (ns.map WData.int)] := by
  subst e
  exact ⟨dn.1, rfl⟩
/-- the goal that the head leaves; tabs: the defs that make lambdas -/
theorem walk_spec1 {r : OpenSpec} {k : Nat} {q : Program} {loose : List Str} {XP : (Str → Option Value) → Heap → Prop} {YP : World → Heap → Prop} {d : DefRec} {K : Params → PySem.W.Frag} {x : Str} {lo hi : Int} {l1 l2 : Nat} {tabs : List Str} {sp : PySem.W.Frag → List (Addr × Addr) → Sp}
    (said : r.wellSaid = true) (room : Room k callerA) (isArgs : r.args = [.list l1 l2 (.int lo hi)]) (hY : ∀ (w : World) (h : Heap), YP w h → (K w.params).In h) (noTab : ∀ p : Params, PySem.W.noTabs (K p) = true) (recs : ∀ y ∈ tabs, ∃ e, (recsOf q).find? (fun e => e.name == y) = some e)
    (F : ∀ (w : World) (mg : Str → Option Value) (fa : Addr) (h : Heap), YP w h → (K w.params).In h → h.Ns mainGlobals mg → mg d.name = some (.ref fa) → ∃ fd : FuncData, (∀ (z : Shared) (u : Value), BindsTo z fd ⟨[u], []⟩ [(x, u)]) ∧
      ∀ base : Heap, (K w.params).In base → base.Ns mainGlobals mg → (∀ p ∈ tabs.filterMap (PySem.W.tabIn (K w.params)), TabB base mg p.1 p.2) → FnOk r.prog w (K w.params) mg base CX0 k fa fd [x] (sp (K w.params) (tabs.filterMap (PySem.W.tabIn (K w.params)))))
    (want : ∀ (K : PySem.W.Frag) (cs : List (Addr × Addr)) (H : Hp) (a : Addr) (dn : Codec.denoteAll r.args) (ns : List Int), Codec.encAll r.args dn = [.list (ns.map WData.int)] → Codec.withinAll r.args dn = true → Codec.app r.args r.asked dn = true →
      (∀ p ∈ cs, H p.2 = some (.tbl #[])) → SqL K H a (ns.map V.int) → sp K cs [.ref a] H (fun v H' => Dw K H' v (r.ret.enc (Codec.app r.args r.f dn))) fun _ _ _ => False) :
    PySem.W.WalkOS q loose XP YP r d [] (fun g us => PySem.call g us) := by
  intro w z0 z1 mg mb G Y fa o pm cd doc dV kV ho hd hcd hD isFa noGen args vals as pre lay rd well low
  obtain ⟨dn, e1, asked⟩ := PySem.W.os_pre_some pre
  obtain ⟨rfl, within⟩ := Codec.encAll_of_decAll r.args args dn e1
  obtain ⟨ns, isNs⟩ := enc_one isArgs dn
  have KX := hY w _ Y
  obtain ⟨fd, bd, ok⟩ := F w mg fa _ Y KX G.T.g isFa
  have T : Tables (K w.params) mg (tabs.filterMap (PySem.W.tabIn (K w.params))) z1.heap := by
    have all : ∀ p ∈ tabs.filterMap (PySem.W.tabIn (K w.params)), PySem.W.CodeHd z1.heap p.1 p.2 ∧ z1.heap.get? p.2 = some (PySem.W.tabObj #[]) := fun p hp => by
      obtain ⟨y, hy, e⟩ := List.mem_filterMap.mp hp
      obtain ⟨rec, e2⟩ := recs y hy
      exact PySem.W.tab_of G.T KX e2 e
    refine ⟨fun p hp => (all p hp).2, fun p hp => ?_, fun p hp => (all p hp).1, G.T.bmain⟩
    cases e : (K w.params).lookup p.2 with
    | none => rfl
    | some ob =>
      obtain rfl := Option.some.inj ((KX _ _ e).symm.trans (all p hp).2)
      have bad := List.all_eq_true.mp (noTab w.params) (p.2, _) (PySem.W.mem_of_lookupK e)
      exact Bool.noConfusion (show false = true from bad)
  have small : (WData.list (ns.map WData.int)).weight ≤ 1048576 := layable_weight lay _ (isNs ▸ List.mem_singleton.mpr rfl)
  rw [isNs] at well
  refine PySem.W.enter_call (codeAny_mono (call_spec (R := []) (cl := classAt z0.heap) KX G.T.g G.T.b G.T.builtins G.T.nolimit noGen T well small room ok bd fun H a tabs sq => want _ _ H a dn ns isNs within asked tabs sq) fun r' z' got => ?_)
  obtain ⟨u, as', rfl, g1, g2, g3, g4⟩ := got
  exact ⟨.inl ⟨u, _, as', rfl, fun _ => rfl, g1, (OpenSpec.post_iff said within _ _).mpr rfl, fun e => Bool.noConfusion (show false = true from e)⟩, g2, g3, g4⟩
end Rd
/-! The program's defs by their places; words for what lies in the heap. -/
namespace Rd
open PySem PySem.Spec PyProof.Rows L2 LamX NdefX
def top (i : Nat) : Stmt := PySem.Challenge.pw_releasesdesk_s01_answers.main.body.getD i (.Pass ⟨0, 0, 0, 0⟩)
abbrev sReader : Stmt := top 4
abbrev sCount : Stmt := top 5
abbrev sApart : Stmt := top 6
abbrev sNear : Stmt := top 7
/-! ### numbers, texts -/
/-- natural numbers as values -/
def iv (t : List Nat) : List V := t.map fun n : Nat => V.int (n : Int)
theorem iv_len (t : List Nat) : (iv t).length = t.length := List.length_map _
theorem iv_get {t : List Nat} {i n : Nat} (h : t[i]? = some n) : (iv t)[i]? = some (.int (n : Int)) := by
  unfold iv
  rw [List.getElem?_map, h]
  rfl
theorem iv_cat (t u : List Nat) : iv (t ++ u) = iv t ++ iv u := List.map_append
theorem iv_cons (n : Nat) (t : List Nat) : iv (n :: t) = .int (n : Int) :: iv t := rfl
theorem iv_ints (t : List Nat) : iv t = (t.map fun n : Nat => (n : Int)).map V.int := by
  unfold iv
  rw [List.map_map]
  rfl
/-- all but what stands at S is as it was -/
def Mo (S : List Addr) (H H' : Hp) : Prop := ∀ b o, H b = some o → b ∉ S → H' b = some o
theorem Mo.rfl {S : List Addr} {H : Hp} : Mo S H H := fun _ _ e _ => e
theorem Mo.new {S : List Addr} {H : Hp} {p : Addr} {o : HO} (n : H p = none) : Mo S H (upd H p o) := fun b x e _ => (upd_ne (ne_of_none e n)).trans e
theorem Mo.put {S : List Addr} {H : Hp} {p : Addr} {o : HO} (m : p ∈ S) : Mo S H (upd H p o) := fun b x e nb => (upd_ne (fun q => nb (by rw [q]; exact m))).trans e
theorem Mo.trans {S : List Addr} {H H1 H2 : Hp} (a : Mo S H H1) (b : Mo S H1 H2) : Mo S H H2 := fun c o e n => b c o (a c o e n) n
theorem Mo.more {S T : List Addr} {H H' : Hp} (a : Mo S H H') (s : ∀ b ∈ S, b ∈ T) : Mo T H H' := fun c o e n => a c o e fun q => n (s c q)
theorem Mo.at {H H' : Hp} (a : Mo [] H H') {b : Addr} {o : HO} (e : H b = some o) : H' b = some o := a b o e List.not_mem_nil
theorem Mo.seq {K : PySem.W.Frag} {H H' : Hp} (a : Mo [] H H') {l : Addr} {xs : List V} (h : SqL K H l xs) : SqL K H' l xs := sqL_grow (fun b o e => a.at e) h
theorem Mo.free {H H' : Hp} (a : Mo [] H H') {b : Addr} (h : H' b = none) : H b = none := by
  cases e : H b with
  | none => rfl
  | some o => rw [a.at e] at h; cases h
/-- a list that was new in H is changed later: what stood in H stands -/
theorem Mo.later {H H1 : Hp} (a : Mo [] H H1) {p : Addr} {o : HO} (n : H p = none) : Mo [] H (upd H1 p o) := fun b x e _ => (upd_ne (ne_of_none e n)).trans (a.at e)
/-- the names of built-ins that the program uses are its own nowhere -/
structure Blt (mg : Str → Option Value) : Prop where
  len : mg "len" = none
  max : mg "max" = none
  min : mg "min" = none
  list : mg "list" = none
  range : mg "range" = none
  enum : mg "enumerate" = none
  set : mg "set" = none
  zip : mg "zip" = none
theorem walk_count {K : PySem.W.Frag} {a : Addr} {xs : List V} {k : Int} : Walk (Itn1 K a k) xs.length (fun H => SqL K H a xs) (YPair (fun i => some (.int (k + (i : Nat)))) (fun i => xs[i]?)) where
  goes := fun i H lt sq => ⟨xs, xs[i], sq, by simp [lt]⟩
  stops := fun H sq => ⟨xs, sq, rfl⟩
  yields := fun i H v H' _ sq ⟨T, x, a1, a2, a3, a4⟩ => ⟨T, _, x, a1, a2, a3, rfl, a4 xs sq⟩
theorem line {n : Nat} (h : n ≤ 1000000) : n < sizeLine := Nat.lt_of_le_of_lt h (by decide)
theorem ifT {c : Bool} {A B : Prop} (e : c = true) (h : A) : if c = true then A else B := by rw [if_pos e]; exact h
theorem ifF {c : Bool} {A B : Prop} (e : c = false) (h : B) : if c = true then A else B := by rw [e, if_neg (fun q => Bool.noConfusion q)]; exact h
end Rd
/-! How far two texts are apart, row by row and place by place. -/
namespace Rd
open Ut06
/-- one place of a row: the words w and x (the other text's), what stands above and above to the left, what stands left -/
def cell (w x left corner above : Nat) : Nat := min (min (above + 1) (left + 1)) (corner + if w = x then 0 else 1)
abbrev places (b : Text) (row : List Nat) : List (Nat × Nat × Nat) := b.zip (row.zip (row.drop 1))
abbrev put (w : Nat) (x : List Nat × Nat) (y : Nat × Nat × Nat) : List Nat × Nat := (cell w y.1 x.2 y.2.1 y.2.2 :: x.1, cell w y.1 x.2 y.2.1 y.2.2)
/-- the row so far, backwards, and its last place -/
def part (w : Nat) (b : Text) (row : List Nat) (first i : Nat) : List Nat × Nat := ((places b row).take i).foldl (put w) ([first], first)
theorem nextRow_part (w : Nat) (b : Text) (row : List Nat) (first : Nat) : nextRow w b row first = (part w b row first (places b row).length).1.reverse := by
  unfold part
  rw [List.take_length]
  rfl
theorem part_head (w : Nat) (b : Text) (row : List Nat) (first : Nat) : ∀ i, ∃ l, (part w b row first i).1 = (part w b row first i).2 :: l := by
  have gen : ∀ (l : List (Nat × Nat × Nat)) (x : List Nat × Nat), (∃ m, x.1 = x.2 :: m) → ∃ m, (l.foldl (put w) x).1 = (l.foldl (put w) x).2 :: m := fun l => by
    induction l with
    | nil => exact fun x h => h
    | cons y r ih => exact fun x _ => ih _ ⟨_, rfl⟩
  exact fun i => gen _ _ ⟨[], rfl⟩
theorem part_len (w : Nat) (b : Text) (row : List Nat) (first : Nat) (i : Nat) : (part w b row first i).1.length = min i (places b row).length + 1 := by
  have gen : ∀ (l : List (Nat × Nat × Nat)) (x : List Nat × Nat), (l.foldl (put w) x).1.length = l.length + x.1.length := fun l => by
    induction l with
    | nil => intro x; simp
    | cons y r ih => intro x; rw [List.foldl_cons, ih]; simp only [List.length_cons]; omega
  unfold part
  rw [gen, List.length_take]
  rfl
theorem part_next (w : Nat) (b : Text) (row : List Nat) (first : Nat) {i : Nat} {y : Nat × Nat × Nat} (h : (places b row)[i]? = some y) :
    part w b row first (i + 1) = put w (part w b row first i) y := by
  unfold part
  rw [List.take_add_one, List.foldl_append, h]
  rfl
theorem places_len (b : Text) (row : List Nat) (h : row.length = b.length + 1) : (places b row).length = b.length := by
  simp only [List.length_zip, List.length_drop, h]
  omega
theorem places_at (b : Text) (row : List Nat) {i x c a : Nat} (h1 : b[i]? = some x) (h2 : row[i]? = some c) (h3 : row[i + 1]? = some a) : (places b row)[i]? = some (x, c, a) := by
  have e1 := List.getElem?_eq_some_iff.mp h1
  have e2 := List.getElem?_eq_some_iff.mp h2
  have e3 := List.getElem?_eq_some_iff.mp h3
  obtain ⟨l1, e1⟩ := e1
  obtain ⟨l2, e2⟩ := e2
  obtain ⟨l3, e3⟩ := e3
  rw [List.getElem?_eq_some_iff]
  refine ⟨by simp only [List.length_zip, List.length_drop]; omega, ?_⟩
  simp only [List.getElem_zip, List.getElem_drop, e1, e2]
  rw [← e3]
  simp only [Nat.add_comm 1 i]
theorem nextRow_len (w : Nat) (b : Text) (row : List Nat) (first : Nat) (h : row.length = b.length + 1) : (nextRow w b row first).length = b.length + 1 := by
  rw [nextRow_part, List.length_reverse, part_len, places_len b row h]
  omega
/-- the rows so far -/
def rowsTo (a b : Text) (j : Nat) : List Nat := ((a.zipIdx).take j).foldl (fun row x => nextRow x.1 b row (x.2 + 1)) (List.range (b.length + 1))
theorem rowsTo_zero (a b : Text) : rowsTo a b 0 = List.range (b.length + 1) := rfl
theorem rowsTo_next (a b : Text) {j w : Nat} (h : a[j]? = some w) : rowsTo a b (j + 1) = nextRow w b (rowsTo a b j) (j + 1) := by
  have e : a.zipIdx[j]? = some (w, j) := by rw [List.getElem?_zipIdx, h]; simp
  unfold rowsTo
  rw [List.take_add_one, e, List.foldl_append]
  rfl
theorem rowsTo_len (a b : Text) : ∀ j, j ≤ a.length → (rowsTo a b j).length = b.length + 1
  | 0, _ => by rw [rowsTo_zero, List.length_range]
  | j + 1, h => by
    obtain ⟨w, e⟩ : ∃ w, a[j]? = some w := ⟨_, List.getElem?_eq_getElem (by omega)⟩
    rw [rowsTo_next a b e, nextRow_len _ _ _ _ (rowsTo_len a b j (by omega))]
theorem distance_rows (a b : Text) : (rowsTo a b a.length)[b.length]? = some (distance a b) := by
  have len := rowsTo_len a b a.length (Nat.le_refl _)
  have e : distance a b = (rowsTo a b a.length).getLastD 0 := by
    unfold distance rowsTo
    rw [List.take_of_length_le (by rw [List.length_zipIdx]; exact Nat.le_refl _)]
  rw [e, List.getLastD_eq_getLast?, List.getLast?_eq_getElem?, len, Nat.add_sub_cancel, List.getElem?_eq_getElem (by omega)]
  rfl
theorem distance_le (a b : Text) : distance a b ≤ a.length + b.length := by
  have nx : ∀ (w : Nat) (row : List Nat) (first m : Nat), first ≤ m + 1 → (∀ x ∈ row, x ≤ m) → ∀ x ∈ nextRow w b row first, x ≤ m + 1 := fun w row first m hf hr => by
    have gen : ∀ (l : List (Nat × Nat × Nat)) (x : List Nat × Nat), (∀ y ∈ l, y.2.2 ≤ m) → (∀ v ∈ x.1, v ≤ m + 1) → ∀ v ∈ (l.foldl (put w) x).1, v ≤ m + 1 := fun l => by
      induction l with
      | nil => exact fun x _ h => h
      | cons y r ih =>
        intro x hy hx
        refine ih _ (fun z hz => hy z (List.mem_cons_of_mem _ hz)) fun v hv => ?_
        obtain rfl | hv := List.mem_cons.mp hv
        · have h1 := hy y List.mem_cons_self
          have : cell w y.1 x.2 y.2.1 y.2.2 ≤ y.2.2 + 1 := Nat.le_trans (Nat.min_le_left _ _) (Nat.min_le_left _ _)
          show cell w y.1 x.2 y.2.1 y.2.2 ≤ m + 1
          omega
        · exact hx v hv
    intro x hx
    rw [nextRow_part] at hx
    unfold part at hx
    rw [List.take_length] at hx
    refine gen _ _ (fun y hy => ?_) (fun v hv => ?_) x (List.mem_reverse.mp hx)
    · have h2 := (List.of_mem_zip (show (y.1, y.2) ∈ _ from hy)).2
      have h3 := (List.of_mem_zip (show (y.2.1, y.2.2) ∈ _ from h2)).2
      exact hr _ (List.mem_of_mem_drop h3)
    · rw [List.mem_singleton.mp hv]
      exact hf
  have all : ∀ j, j ≤ a.length → ∀ x ∈ rowsTo a b j, x ≤ b.length + j := fun j => by
    induction j with
    | zero =>
      intro _ x hx
      rw [rowsTo_zero, List.mem_range] at hx
      omega
    | succ j ih =>
      intro hj x hx
      obtain ⟨w, e⟩ : ∃ w, a[j]? = some w := ⟨_, List.getElem?_eq_getElem (by omega)⟩
      rw [rowsTo_next a b e] at hx
      exact nx w _ _ (b.length + j) (by omega) (ih (by omega)) x hx
  have h := all a.length (Nat.le_refl _) _ (List.mem_of_getElem? (distance_rows a b))
  omega
end Rd
/-! The file texts: with_count, apart, near_enough. -/
namespace Rd
open PySem PySem.Spec PyProof.Rows L2 LamX NdefX
section
variable {mg : Str → Option Value} {P : Program} {base : Heap} {w : World} {K : PySem.W.Frag}
/-! ### with_count(words) -/
/-- the list of ints zs gives a new list, its length ahead -/
def spCount : Sp := fun vs H Q _ => ∃ (a : Addr) (zs : List Int), vs = [.ref a] ∧ H a = some (.lst (zs.map V.int)) ∧ zs.length ≤ 1000000 ∧ ∀ p H', Mo [] H H' → H p = none → H' p = some (.lst (((zs.length : Int) :: zs).map V.int)) → Q (.ref p) H'
theorem scCount : FnScope ["words"] ["words"] (defScope sCount) := ⟨rfl, rfl, rfl, by decide +kernel, rfl, by decide +kernel, by decide +kernel⟩
theorem ok_count {f : Addr} {fd : FuncData} (F : Fun K "with_count" "with_count" sCount f fd) (B : Blt mg) : FnOk P w K mg base CX0 1 f fd ["words"] spCount := by
  refine F.ok scCount (fun vs H Q E ⟨a, zs, e, _⟩ => by rw [e]; rfl) fun cdv A outer s H vs Q E hr ⟨a, zs, e, ha, small, q⟩ => ?_
  subst e
  refine ⟨_, pss_one (ps_ret (pe_op op_cat (pe_lst (pa_cons (pe_callB call_len_seq (by rfl) B.len PySem.boot_len (pa_cons (pv 0) pa_nil)) pa_nil)) (pv 0))), ?_⟩
  refine ⟨_, rfl, a, _, rfl, .inl (SqL.of ha), (show 1 ≤ sizeLine by decide), fun l nl => ⟨_, rfl, l, a, _, _, rfl, rfl, upd_same, (upd_ne (ne_of_none ha nl)).trans ha, ?_, fun p np => ?_⟩⟩
  · rw [List.length_map]
    have := (show (2000000 : Nat) ≤ sizeLine by decide +kernel)
    show 1 + zs.length ≤ sizeLine
    omega
  · refine q p _ (Mo.trans (Mo.new nl) (Mo.new np)) ?_ (upd_same.trans ?_)
    · exact (Mo.new (S := []) nl).free np
    · rw [List.length_map]
      rfl
end
end Rd
/-! apart(one, other), near_enough(one, other). -/
namespace Rd
open PySem PySem.Spec PyProof.Rows L2 LamX NdefX
theorem rgV_nat (n : Nat) : rgV 0 ((n : Int) + 1) = iv (List.range (n + 1)) := by
  unfold rgV iv
  have e : ((n : Int) + 1 - 0).toNat = n + 1 := by omega
  rw [e]
  refine List.map_congr_left fun m _ => ?_
  show V.int (0 + (m : Int)) = V.int (m : Int)
  rw [Int.zero_add]
theorem min3_nat (a b c : Nat) : nuMin3 (.int (a : Int)) (.int (b : Int)) (.int (c : Int)) = some (.int ((min (min b c) a : Nat) : Int)) := by
  have m2 : ∀ x y : Int, nuMin2 (.int x) (.int y) = some (.int (if y < x then y else x)) := fun x y => by
    unfold nuMin2
    show (some (decide (y < x))).map _ = _
    by_cases less : y < x <;> simp [less]
  unfold nuMin3
  rw [m2]
  show nuMin2 _ _ = _
  rw [m2]
  refine congrArg (fun z => some (V.int z)) ?_
  split <;> split <;> omega
theorem min3_of {a b c : Int} {x y z : Nat} (ha : a = x) (hb : b = y) (hc : c = z) : nuMin3 (.int a) (.int b) (.int c) = some (.int ((min (min y z) x : Nat) : Int)) := by
  rw [ha, hb, hc]
  exact min3_nat x y z
section
variable {mg : Str → Option Value} {P : Program} {base : Heap} {w : World} {K : PySem.W.Frag}
abbrev n11 : List Str := ["one", "other", "steps", "gone", "word", "following", "place", "wanted", "exchanged", "taken_out", "put_in"]
/-- two texts give how far they are apart; new things may have come -/
def spApart : Sp := fun vs H Q _ => ∃ (a b : Addr) (t u : List Nat), vs = [.ref a, .ref b] ∧ H a = some (.lst (iv t)) ∧ H b = some (.lst (iv u)) ∧ t.length ≤ 1000 ∧ u.length ≤ 1000 ∧ ∀ H', Mo [] H H' → Q (.int (Ut06.distance t u : Nat)) H'
theorem scApart : FnScope n11 ["one", "other"] (defScope sApart) := ⟨rfl, rfl, rfl, by decide +kernel, rfl, by decide +kernel, by decide +kernel⟩
theorem ok_apart {f : Addr} {fd : FuncData} (F : Fun K "apart" "apart" sApart f fd) (B : Blt mg) : FnOk P w K mg base CX0 1 f fd ["one", "other"] spApart := by
  refine F.ok scApart (fun vs H Q E ⟨a, b, t, u, e, _⟩ => by rw [e]; rfl) fun cdv A outer s H vs Q E hr ⟨a, b, t, u, e, ha, hb, lt, lu, q⟩ => ?_
  subst e
  refine ⟨_, pss_cons (ps_set (i := 2) scApart.nd rfl (.inl rfl) (pe_listRg rfl (by rfl) B.list (prg_1 (by rfl) B.range (pe_op op_add (pe_callB call_len_seq (by rfl) B.len PySem.boot_len (pa_cons (pv 1) pa_nil)) pe_int))))
    (pss_cons (ps_for PassesOwn.never rfl (pi_count (by rfl) B.enum (pa_cons (pv 0) pa_nil) (pk_cons pe_int pk_nil)) (pg_tup rfl (pgs_cons (pg_name (i := 3) scApart.nd rfl (.inl rfl)) (pgs_cons (pg_name (i := 4) scApart.nd rfl (.inl rfl)) pgs_nil)))
      (pss_cons (ps_set (i := 5) scApart.nd rfl (.inl rfl) (pe_lst (pa_cons (pv 3) pa_nil)))
      (pss_cons (ps_for PassesOwn.never rfl (pi_enum (by rfl) B.enum (pa_cons (pv 1) pa_nil)) (pg_tup rfl (pgs_cons (pg_name (i := 6) scApart.nd rfl (.inl rfl)) (pgs_cons (pg_name (i := 7) scApart.nd rfl (.inl rfl)) pgs_nil)))
        (pss_cons (ps_set (i := 8) scApart.nd rfl (.inl rfl) (pe_op op_add (pe_ix ix_list (pv 2) (pv 6) (fun _ _ => rfl)) (pe_ifExp (pt_cmpR op_eq (pv 4) (pv 7) (nomark _)) pe_int pe_int)))
        (pss_cons (ps_set (i := 9) scApart.nd rfl (.inl rfl) (pe_op op_add (pe_ix ix_list (pv 2) (pe_op op_add (pv 6) pe_int) (fun _ _ => rfl)) pe_int))
        (pss_cons (ps_set (i := 10) scApart.nd rfl (.inl rfl) (pe_op op_add (pe_ix ix_list (pv 5) (pv 6) (fun _ _ => rfl)) pe_int))
        (pss_one (ps_expr (pe_bm PySem.F.plainAttrs_list PySem.F.slot_list_append PySem.F.type_list_append mt_append (pv 5) (pa_cons (pe_callB (call_min3Nu rfl) (by rfl) B.min (by decide +kernel) (pa_cons (pv 8) (pa_cons (pv 9) (pa_cons (pv 10) pa_nil)))) pa_nil))))))))
      (pss_one (ps_set (i := 2) scApart.nd rfl (.inl rfl) (pv 5))))))
    (pss_one (ps_ret (pe_ix ix_list (pv 2) (pe_callB call_len_seq (by rfl) B.len PySem.boot_len (pa_cons (pv 1) pa_nil)) (fun _ _ => rfl))))), ?_⟩
  have ha' : SqL K H a (iv t) := SqL.of ha
  refine ⟨_, rfl, b, _, rfl, .inl (SqL.of hb), _, _, rfl, rfl, _, rfl, RgOk.of_le (by omega) (by rw [iv_len]; omega) (by omega) (by rw [iv_len]; omega), fun st ns => ?_⟩
  rw [iv_len, rgV_nat]
  have m1 : Mo [] H (upd H st (.lst (iv (List.range (u.length + 1))))) := Mo.new ns
  refine ⟨_, rfl, a, iv t, 1, rfl, rfl, by decide, by decide, m1.seq ha', for_it walk_count (fun j σ G => ∃ (s : Addr) (v3 v4 v5 v6 v7 v8 v9 v10 : Option V), σ = [some (.ref a), some (.ref b), some (.ref s), v3, v4, v5, v6, v7, v8, v9, v10] ∧ Mo [] H G ∧ G s = some (.lst (iv (rowsTo t u j))))
    ⟨st, none, none, none, none, none, none, none, none, rfl, m1, upd_same⟩ (fun j σ G _ ⟨s, _, _, _, _, _, _, _, _, _, m, _⟩ => m.seq ha') ?_ ?_⟩
  · -- a turn
    rintro j v σ G G' hj ⟨s, v3, v4, v5, v6, v7, v8, v9, v10, rfl, m, hs⟩ ⟨T, x, y, rfl, nT, rfl, ex, ey⟩
    cases ex
    rw [iv_len] at hj
    obtain ⟨wd, hw⟩ : ∃ wd, t[j]? = some wd := ⟨_, List.getElem?_eq_getElem hj⟩
    obtain rfl : V.int (wd : Int) = y := Option.some.inj ((iv_get hw).symm.trans ey)
    have m2 : Mo [] H (upd G T (.tup [.int (1 + (j : Nat)), .int (wd : Int)])) := m.trans (Mo.new nT)
    refine ⟨T, _, rfl, SqT.of upd_same, rfl, _, _, rfl, _, _, rfl, rfl, _, rfl, (show 1 ≤ sizeLine by decide), fun fl nf => ?_⟩
    have m3 := m2.trans (Mo.new (o := .lst [.int (1 + (j : Nat))]) nf)
    have hs3 : upd (upd G T (.tup [.int (1 + (j : Nat)), .int (wd : Int)])) fl (.lst [.int (1 + (j : Nat))]) s = some (.lst (iv (rowsTo t u j))) := (Mo.trans (Mo.new nT) (Mo.new nf)).at hs
    have lr := rowsTo_len t u j (Nat.le_of_lt hj)
    refine ⟨_, rfl, b, iv u, rfl, m3.seq (SqL.of hb), for_it walk_enum (fun i σ G2 => ∃ (v6 v7 v8 v9 v10 : Option V), σ = [some (.ref a), some (.ref b), some (.ref s), some (.int (1 + (j : Nat))), some (.int (wd : Int)), some (.ref fl), v6, v7, v8, v9, v10] ∧ Mo [] H G2 ∧ G2 s = some (.lst (iv (rowsTo t u j))) ∧ H fl = none ∧ fl ≠ s ∧ G2 fl = some (.lst (iv (part wd u (rowsTo t u j) (j + 1) i).1.reverse)))
      ⟨v6, v7, v8, v9, v10, rfl, m3, hs3, m2.free nf, (fun z => by rw [z, (Mo.new (S := []) nT).at hs] at nf; cases nf), upd_same.trans ?_⟩ (fun i σ G2 _ ⟨_, _, _, _, _, _, m, _⟩ => m.seq (SqL.of hb)) ?_ ?_⟩
    · show some (HO.lst [V.int (1 + (j : Int))]) = some (HO.lst [V.int ((j + 1 : Nat) : Int)])
      rw [show (1 : Int) + (j : Int) = ((j + 1 : Nat) : Int) by omega]
    · -- an inner turn
      rintro i v σ G2 G3 hi ⟨v6, v7, v8, v9, v10, rfl, m4, hs4, nfl, ne, hf4⟩ ⟨T2, x, y, rfl, nT2, rfl, ex, ey⟩
      cases ex
      rw [iv_len] at hi
      obtain ⟨wx, hx⟩ : ∃ wx, u[i]? = some wx := ⟨_, List.getElem?_eq_getElem hi⟩
      obtain rfl : V.int (wx : Int) = y := Option.some.inj ((iv_get hx).symm.trans ey)
      have n5 : Mo [] G2 (upd G2 T2 (.tup [.int (i : Nat), .int (wx : Int)])) := Mo.new nT2
      obtain ⟨co, hco⟩ : ∃ co, (rowsTo t u j)[i]? = some co := ⟨_, List.getElem?_eq_getElem (by omega)⟩
      obtain ⟨ab, hab⟩ : ∃ ab, (rowsTo t u j)[i + 1]? = some ab := ⟨_, List.getElem?_eq_getElem (by omega)⟩
      have pl := places_at u (rowsTo t u j) hx hco hab
      have pn := part_next wd u (rowsTo t u j) (j + 1) pl
      have plen := part_len wd u (rowsTo t u j) (j + 1) i
      rw [places_len u _ lr, Nat.min_eq_left (Nat.le_of_lt hi)] at plen
      obtain ⟨hl, hhd⟩ := part_head wd u (rowsTo t u j) (j + 1) i
      have left : ((part wd u (rowsTo t u j) (j + 1) i).1.reverse)[i]? = some (part wd u (rowsTo t u j) (j + 1) i).2 := by
        have l2 : hl.length = i := by rw [hhd, List.length_cons] at plen; omega
        rw [hhd, List.reverse_cons, List.getElem?_append_right (by rw [List.length_reverse]; omega), List.length_reverse, l2, Nat.sub_self]
        rfl
      have hs5 := n5.at hs4
      have hf5 := n5.at hf4
      refine ⟨T2, _, rfl, SqT.of upd_same, rfl, _, _, rfl, _, _, rfl, rfl, ?_⟩
      refine ⟨_, rfl, _, rfl, s, _, _, _, rfl, rfl, SqL.of hs5, atI_nat (iv_get hco), _, rfl, _, rfl, rfl, _, rfl, ?_⟩
      have fin : ∀ (d : Nat), d = (if wd = wx then 0 else 1) → ∃ v6 v7 v8 v9 v10 : Option V, [some (V.ref a), some (V.ref b), some (V.ref s), some (V.int (1 + (j : Nat))), some (V.int (wd : Int)), some (V.ref fl), some (V.int (i : Nat)), some (V.int (wx : Int)), some (V.int ((co : Int) + (d : Int))), some (V.int ((ab : Int) + 1)), some (V.int (((part wd u (rowsTo t u j) (j + 1) i).2 : Int) + 1))] = [some (V.ref a), some (V.ref b), some (V.ref s), some (V.int (1 + (j : Nat))), some (V.int (wd : Int)), some (V.ref fl), v6, v7, v8, v9, v10] ∧
          Mo [] H (upd (upd G2 T2 (.tup [.int (i : Nat), .int (wx : Int)])) fl (.lst (iv (part wd u (rowsTo t u j) (j + 1) i).1.reverse ++ [V.int ((min (min (ab + 1) ((part wd u (rowsTo t u j) (j + 1) i).2 + 1)) (co + d) : Nat) : Int)]))) ∧
          upd (upd G2 T2 (.tup [.int (i : Nat), .int (wx : Int)])) fl (.lst (iv (part wd u (rowsTo t u j) (j + 1) i).1.reverse ++ [V.int ((min (min (ab + 1) ((part wd u (rowsTo t u j) (j + 1) i).2 + 1)) (co + d) : Nat) : Int)])) s = some (.lst (iv (rowsTo t u j))) ∧ H fl = none ∧ fl ≠ s ∧
          upd (upd G2 T2 (.tup [.int (i : Nat), .int (wx : Int)])) fl (.lst (iv (part wd u (rowsTo t u j) (j + 1) i).1.reverse ++ [V.int ((min (min (ab + 1) ((part wd u (rowsTo t u j) (j + 1) i).2 + 1)) (co + d) : Nat) : Int)])) fl = some (.lst (iv (part wd u (rowsTo t u j) (j + 1) (i + 1)).1.reverse)) := fun d hd => by
        refine ⟨_, _, _, _, _, rfl, (m4.trans n5).later nfl, (upd_ne (Ne.symm ne)).trans hs5, nfl, ne, upd_same.trans ?_⟩
        rw [pn, hd]
        show _ = some (HO.lst (iv (cell wd wx (part wd u (rowsTo t u j) (j + 1) i).2 co ab :: (part wd u (rowsTo t u j) (j + 1) i).1).reverse))
        rw [List.reverse_cons, iv_cat]
        rfl
      have small : (iv (part wd u (rowsTo t u j) (j + 1) i).1.reverse).length < sizeLine := line (by rw [iv_len, List.length_reverse, plen]; omega)
      by_cases cw : wd = wx
      · refine ifT (by rw [cw]; exact decide_eq_true rfl) ?_
        refine ⟨_, _, rfl, rfl, _, rfl, _, rfl, _, _, rfl, rfl, s, _, _, _, rfl, rfl, SqL.of hs5, atI_nat (iv_get hab), _, _, rfl, rfl, ?_⟩
        refine ⟨_, rfl, _, rfl, fl, _, _, _, rfl, rfl, SqL.of hf5, atI_nat (iv_get left), _, _, rfl, rfl, ?_⟩
        exact ⟨_, rfl, .inl ⟨rfl, _, SqL.of hf5⟩, _, rfl, _, rfl, _, rfl, _, _, _, _, rfl, min3_of (x := co + 0) (y := ab + 1) (z := (part wd u (rowsTo t u j) (j + 1) i).2 + 1) (by omega) (by omega) (by omega), fl, _, _, rfl, rfl, hf5, small, fin 0 (by rw [if_pos cw])⟩
      · refine ifF (decide_eq_false fun z => cw (by injection z with z; omega)) ?_
        refine ⟨_, _, rfl, rfl, _, rfl, _, rfl, _, _, rfl, rfl, s, _, _, _, rfl, rfl, SqL.of hs5, atI_nat (iv_get hab), _, _, rfl, rfl, ?_⟩
        refine ⟨_, rfl, _, rfl, fl, _, _, _, rfl, rfl, SqL.of hf5, atI_nat (iv_get left), _, _, rfl, rfl, ?_⟩
        exact ⟨_, rfl, .inl ⟨rfl, _, SqL.of hf5⟩, _, rfl, _, rfl, _, rfl, _, _, _, _, rfl, min3_of (x := co + 1) (y := ab + 1) (z := (part wd u (rowsTo t u j) (j + 1) i).2 + 1) (by omega) (by omega) (by omega), fl, _, _, rfl, rfl, hf5, small, fin 1 (by rw [if_neg cw])⟩
    · -- behind the inner loop
      rintro σ G2 ⟨v6, v7, v8, v9, v10, rfl, m4, hs4, nfl, ne, hf4⟩
      refine ⟨_, rfl, fl, _, _, _, _, _, _, _, _, rfl, m4, hf4.trans ?_⟩
      rw [iv_len, rowsTo_next t u hw, nextRow_part, places_len u _ lr]
  · rintro σ G ⟨s, v3, v4, v5, v6, v7, v8, v9, v10, rfl, m, hs⟩
    rw [iv_len] at hs
    refine ⟨_, rfl, _, rfl, b, _, rfl, .inl (m.seq (SqL.of hb)), s, _, _, _, rfl, rfl, SqL.of hs, (show atI (iv (rowsTo t u t.length)) (((iv u).length : Nat) : Int) = some (.int (Ut06.distance t u : Nat)) by rw [iv_len]; exact atI_nat (iv_get (distance_rows t u))), ?_⟩
    exact q _ m
/-- a def of the text that keeps a promise -/
structure Held (P : Program) (w : World) (K : PySem.W.Frag) (mg : Str → Option Value) (base : Heap) (CX : CXT) (k : Nat) (x : Str) (ps : List Str) (sp : Sp) : Prop where
  ok : ∃ (f : Addr) (fd : FuncData), mg x = some (.ref f) ∧ PySem.W.keepIn K (.ref f) = true ∧ Binds K fd ps [] ∧ FnOk P w K mg base CX k f fd ps sp
/-- a method -/
structure HeldM (P : Program) (w : World) (K : PySem.W.Frag) (mg : Str → Option Value) (base : Heap) (CX : CXT) (k : Nat) (C : Addr) (m : Str) (ps : List Str) (sp : Sp) : Prop where
  ok : ∃ (f : Addr) (fd : FuncData), Meth K C m f ∧ Binds K fd ps [] ∧ FnOk P w K mg base CX k f fd ps sp
/-- a class that is made -/
structure HeldC (P : Program) (w : World) (K : PySem.W.Frag) (mg : Str → Option Value) (base : Heap) (k : Nat) (C : Addr) (ps : List Str) (sp : Sp) : Prop where
  ok : ∃ (f : Addr) (fd : FuncData), Mk K C f ∧ Binds K fd ps [] ∧ FnOk P w K mg base CX0 k f fd ps sp
/-- near_enough -/
def spNear : Sp := fun vs H Q _ => ∃ (a b : Addr) (t u : List Nat), vs = [.ref a, .ref b] ∧ H a = some (.lst (iv t)) ∧ H b = some (.lst (iv u)) ∧ t.length ≤ 1000 ∧ u.length ≤ 1000 ∧ ∀ H', Mo [] H H' → Q (.bl (decide (2 * Ut06.distance t u ≤ max t.length u.length))) H'
theorem scNear : FnScope ["one", "other"] ["one", "other"] (defScope sNear) := ⟨rfl, rfl, rfl, by decide +kernel, rfl, by decide +kernel, by decide +kernel⟩
theorem ok_near {f : Addr} {fd : FuncData} (F : Fun K "near_enough" "near_enough" sNear f fd) (B : Blt mg) (GA : Held P w K mg base CX0 1 "apart" ["one", "other"] spApart) : FnOk P w K mg base CX0 2 f fd ["one", "other"] spNear := by
  obtain ⟨fA, fdA, mA, kA, bA, GA⟩ := GA
  refine F.ok scNear (fun vs H Q E ⟨a, b, t, u, e, _⟩ => by rw [e]; rfl) fun cdv A outer s H vs Q E hr ⟨a, b, t, u, e, ha, hb, lt, lu, q⟩ => ?_
  subst e
  refine ⟨_, pss_one (ps_ret (pe_cmpR op_le (pe_op op_mul pe_int (pe_call GA hr (by rfl) mA kA bA .nil pass0 (pa_cons (pv 0) (pa_cons (pv 1) pa_nil)))) (pe_callB (call_max2 rfl) (by rfl) B.max (by decide +kernel) (pa_cons (pe_callB call_len_seq (by rfl) B.len PySem.boot_len (pa_cons (pv 0) pa_nil)) (pa_cons (pe_callB call_len_seq (by rfl) B.len PySem.boot_len (pa_cons (pv 1) pa_nil)) pa_nil))) (nomark _))), ?_⟩
  refine ⟨_, rfl, _, rfl, a, b, t, u, rfl, ha, hb, lt, lu, fun H' m => ?_⟩
  refine ⟨_, _, rfl, rfl, .inl ⟨by decide, by decide⟩, _, rfl, a, _, rfl, .inl (SqL.of (m.at ha)), _, rfl, b, _, rfl, .inl (SqL.of (m.at hb)), _, _, rfl, _, _, rfl, rfl, ?_⟩
  have e : decide ((2 : Int) * (Ut06.distance t u : Nat) ≤ if ((iv u).length : Int) > ((iv t).length : Int) then ((iv u).length : Int) else ((iv t).length : Int)) = decide (2 * Ut06.distance t u ≤ max t.length u.length) := by
    rw [iv_len, iv_len]
    refine decide_eq_decide.mpr ?_
    split <;> omega
  exact (congrArg (fun z => Q (V.bl z) H') e).mpr (q H' m)
end
end Rd
/-! The program in plain words, over the specification's own data; and that both say the same. -/
namespace Rd
open Ut06
/-- what is kept, as an entry -/
def asE (x : Kept) : Entry := ⟨x.key, x.text, x.trans, true, 0⟩
def toK (e : Entry) : Kept := ⟨e.key, e.text, e.trans⟩
/-- what holds of the entries and what is kept at all times -/
structure Ok1 (g : List Entry) (l : List Kept) : Prop where
  few : g.length ≤ 12
  keptFew : l.length ≤ 30
  keys : (g.map (·.key)).Nodup
  words : ∀ e ∈ g, e.text.length ≤ 8 ∧ e.trans.length ≤ 8
  sure : ∀ e ∈ g, e.sure = true → e.trans ≠ []
  kwords : ∀ x ∈ l, x.text.length ≤ 8 ∧ x.trans.length ≤ 8 ∧ x.trans ≠ []
  hidden : ∀ x ∈ l, ∀ e ∈ g, e.sure = true → e.key = x.key → e.text = x.text → False
structure OkS (s : St) : Prop where
  now : Ok1 s.entries s.kept
  past : ∀ p ∈ s.old, Ok1 p.1 p.2
theorem ok_nil : Ok1 [] [] := ⟨by simp, by simp, by simp, by simp, by simp, by simp, by simp⟩
theorem ok_init : OkS init := ⟨ok_nil, by simp [init]⟩
/-! ### entries by their keys -/
theorem entryOf_mem {g : List Entry} {k : Nat} {e : Entry} (h : entryOf g k = some e) : e ∈ g ∧ e.key = k := by
  unfold entryOf at h
  exact ⟨List.mem_of_find?_eq_some h, by simpa using List.find?_some h⟩
theorem same_key {g : List Entry} (nd : (g.map (·.key)).Nodup) {a b : Entry} (ha : a ∈ g) (hb : b ∈ g) (e : a.key = b.key) : a = b := by
  induction g with
  | nil => cases ha
  | cons x r ih =>
    rw [List.map_cons] at nd
    rw [List.nodup_cons] at nd
    rcases List.mem_cons.mp ha with qa | ha2
    · rcases List.mem_cons.mp hb with qb | hb2
      · rw [qa, qb]
      · exact absurd (List.mem_map.mpr ⟨b, hb2, by rw [← e, qa]⟩) nd.1
    · rcases List.mem_cons.mp hb with qb | hb2
      · exact absurd (List.mem_map.mpr ⟨a, ha2, by rw [e, qb]⟩) nd.1
      · exact ih nd.2 ha2 hb2
theorem entryOf_of {g : List Entry} (nd : (g.map (·.key)).Nodup) {e : Entry} (h : e ∈ g) : entryOf g e.key = some e := by
  cases q : entryOf g e.key with
  | none =>
    unfold entryOf at q
    have := List.find?_eq_none.mp q e h
    simp at this
  | some x =>
    have m := entryOf_mem q
    rw [same_key nd m.1 h m.2]
theorem entryOf_none {g : List Entry} {k : Nat} (h : entryOf g k = none) : ∀ e ∈ g, e.key ≠ k := fun e he q => by
  unfold entryOf at h
  have := List.find?_eq_none.mp h e he
  simp [q] at this
/-! ### exchange -/
def exch (g : List Entry) (x : Entry) : List Entry := g.map fun e => if e.key = x.key then x else e
theorem exch_keys (g : List Entry) (x : Entry) : (exch g x).map (·.key) = g.map (·.key) := by
  unfold exch
  rw [List.map_map]
  refine List.map_congr_left fun e _ => ?_
  show (if e.key = x.key then x else e).key = e.key
  split
  · rename_i q; exact q.symm
  · rfl
theorem exch_len (g : List Entry) (x : Entry) : (exch g x).length = g.length := List.length_map _
theorem mem_exch {g : List Entry} {x e : Entry} (h : e ∈ exch g x) : e = x ∨ (e ∈ g ∧ e.key ≠ x.key) := by
  obtain ⟨y, hy, q⟩ := List.mem_map.mp h
  by_cases c : y.key = x.key
  · rw [if_pos c] at q
    exact .inl q.symm
  · rw [if_neg c] at q
    exact .inr (q ▸ ⟨hy, c⟩)
/-- all entries of a key changed: there is but one -/
theorem map_exch {g : List Entry} (nd : (g.map (·.key)).Nodup) {k : Nat} {e : Entry} (h : entryOf g k = some e) {f : Entry → Entry} (fk : (f e).key = k) : (g.map fun x => if x.key = k then f x else x) = exch g (f e) := by
  obtain ⟨he, ke⟩ := entryOf_mem h
  refine List.map_congr_left fun y hy => ?_
  show (if y.key = k then f y else y) = if y.key = (f e).key then f e else y
  rw [fk]
  by_cases c : y.key = k
  · rw [if_pos c, if_pos c, same_key nd hy he (c.trans ke.symm)]
  · rw [if_neg c, if_neg c]
/-! ### what is shown -/
def shown (g : List Entry) (x : Kept) : Bool := g.any fun e => e.sure && (e.key == x.key && e.text == x.text)
theorem shown_iff {g : List Entry} {x : Kept} : shown g x = true ↔ ∃ e ∈ g, e.sure = true ∧ e.key = x.key ∧ e.text = x.text := by
  unfold shown
  rw [List.any_eq_true]
  simp only [beq_iff_eq, Bool.and_eq_true]
theorem unshown_eq (g : List Entry) (l : List Kept) : unshown g l = l.filter fun x => !shown g x := by
  unfold unshown shown
  refine List.filter_congr fun x _ => congrArg Bool.not ?_
  congr 1
  funext e
  cases e.sure <;> cases (e.key == x.key) <;> cases (e.text == x.text) <;> rfl
theorem mem_unshown {g : List Entry} {l : List Kept} {x : Kept} : x ∈ unshown g l ↔ x ∈ l ∧ shown g x = false := by
  rw [unshown_eq, List.mem_filter]
  cases shown g x <;> simp
theorem unshown_all {g : List Entry} {l : List Kept} (h : ∀ x ∈ l, shown g x = false) : unshown g l = l := by
  rw [unshown_eq]
  exact List.filter_eq_self.mpr fun x hx => by rw [h x hx]; rfl
theorem unshown_len (g : List Entry) (l : List Kept) : (unshown g l).length ≤ l.length := by
  rw [unshown_eq]
  exact List.length_filter_le ..
theorem Ok1.shown {g : List Entry} {l : List Kept} (h : Ok1 g l) {x : Kept} (hx : x ∈ l) : shown g x = false := by
  cases q : Rd.shown g x with
  | false => rfl
  | true =>
    obtain ⟨e, he, a, b, c⟩ := shown_iff.mp q
    exact (h.hidden x hx e he a b c).elim
/-- an entry exchanged, and what is shown by it goes -/
theorem Ok1.exch {g : List Entry} {l : List Kept} (h : Ok1 g l) {x : Entry} (w : x.text.length ≤ 8 ∧ x.trans.length ≤ 8) (s : x.sure = true → x.trans ≠ []) : Ok1 (exch g x) (unshown (exch g x) l) where
  few := by rw [exch_len]; exact h.few
  keptFew := Nat.le_trans (unshown_len ..) h.keptFew
  keys := by rw [exch_keys]; exact h.keys
  words := fun e he => (mem_exch he).elim (fun q => q ▸ w) fun q => h.words e q.1
  sure := fun e he => (mem_exch he).elim (fun q => q ▸ s) fun q => h.sure e q.1
  kwords := fun y hy => h.kwords y (mem_unshown.mp hy).1
  hidden := fun y hy e he a b c => by
    have := (mem_unshown.mp hy).2
    rw [shown_iff.mpr ⟨e, he, a, b, c⟩] at this
    cases this
/-! ### release -/
def knownE (g : List Entry) (l : List Kept) : List Entry := g.filter (fun e => e.sure) ++ l.map asE
theorem known_toK (g : List Entry) (l : List Kept) : (knownE g l).map toK = known g l := by
  unfold knownE known
  rw [List.map_append, List.map_map]
  rw [show toK ∘ asE = id from funext fun x => rfl, List.map_id]
  rfl
theorem mem_known {g : List Entry} {l : List Kept} {x : Kept} (h : x ∈ known g l) : (∃ e ∈ g, e.sure = true ∧ x = toK e) ∨ x ∈ l := by
  unfold known at h
  obtain h | h := List.mem_append.mp h
  · obtain ⟨e, he, q⟩ := List.mem_map.mp h
    have := List.mem_filter.mp he
    exact .inl ⟨e, this.1, this.2, q.symm⟩
  · exact .inr h
theorem Ok1.known {g : List Entry} {l : List Kept} (h : Ok1 g l) {x : Kept} (hx : x ∈ known g l) : x.text.length ≤ 8 ∧ x.trans.length ≤ 8 ∧ x.trans ≠ [] := by
  rcases mem_known hx with ⟨e, he, s, rfl⟩ | hx
  · exact ⟨(h.words e he).1, (h.words e he).2, h.sure e he s⟩
  · exact h.kwords x hx
theorem Ok1.knownLen {g : List Entry} {l : List Kept} (h : Ok1 g l) : (Ut06.known g l).length ≤ 42 := by
  unfold Ut06.known
  rw [List.length_append, List.length_map]
  have := List.length_filter_le (fun e : Entry => e.sure) g
  have := h.few
  have := h.keptFew
  omega
def pick (g : List Entry) (l : List Kept) (k : Nat) (t : Text) : Option Entry := (g ++ l.map asE).find? fun e => e.key == k && e.text == t
def best (kn : List Kept) (k : Nat) (t : Text) : Option Kept := match lowest (kn.filter fun x => x.text == t) with
  | some x => some x
  | none => match (kn.filter fun x => x.key == k).head? with
    | some x => some x
    | none => nearest kn t
def made (kn : List Kept) (k : Nat) (t : Text) : Entry := match best kn k t with
  | some x => ⟨k, t, x.trans, false, x.key⟩
  | none => ⟨k, t, [], false, 0⟩
def inRel (g : List Entry) (l : List Kept) (k : Nat) (t : Text) : Entry := (pick g l k t).getD (made (known g l) k t)
theorem lowest_step (f : Kept → Kept → Bool) : ∀ (l : List Kept) (m : Kept), ∃ y, l.foldl (fun m x => match m with
  | none => some x
  | some y => if f x y = true then some x else some y) (some m) = some y ∧ (y = m ∨ y ∈ l)
  | [], m => ⟨m, rfl, .inl rfl⟩
  | x :: r, m => by
    rw [List.foldl_cons]
    by_cases c : f x m = true
    · simp only [c, if_true]
      obtain ⟨y, a, b⟩ := lowest_step f r x
      exact ⟨y, a, .inr (b.elim (fun q => q ▸ List.mem_cons_self) (List.mem_cons_of_mem _))⟩
    · simp only [if_neg c]
      obtain ⟨y, a, b⟩ := lowest_step f r m
      exact ⟨y, a, b.imp_right (List.mem_cons_of_mem _)⟩
/-- the first of the least -/
def leastBy (f : Kept → Kept → Bool) (l : List Kept) : Option Kept := match l with
  | [] => none
  | m :: r => some (r.foldl (fun y x => if f x y = true then x else y) m)
theorem fold_least (f : Kept → Kept → Bool) : ∀ (r : List Kept) (m : Kept), r.foldl (fun m x => match m with
  | none => some x
  | some y => if f x y = true then some x else some y) (some m) = some (r.foldl (fun y x => if f x y = true then x else y) m)
  | [], m => rfl
  | x :: r, m => by
    rw [List.foldl_cons (l := r), List.foldl_cons (l := r)]
    by_cases c : f x m = true
    · simp only [c, if_true]
      exact fold_least f r x
    · simp only [if_neg c]
      exact fold_least f r m
theorem lowest_eq (l : List Kept) : lowest l = leastBy (fun x y => decide (x.key < y.key)) l := by
  unfold lowest leastBy
  cases l with
  | nil => rfl
  | cons m r =>
    rw [List.foldl_cons]
    refine Eq.trans ?_ (fold_least (fun x y => decide (x.key < y.key)) r m)
    simp only [decide_eq_true_eq]
    rfl
def nearer (t : Text) (x y : Kept) : Bool := decide (distance x.text t < distance y.text t ∨ (distance x.text t = distance y.text t ∧ x.key < y.key))
def nearBy (t : Text) (x : Kept) : Bool := decide (2 * distance x.text t ≤ max x.text.length t.length)
theorem nearest_eq (l : List Kept) (t : Text) : nearest l t = leastBy (nearer t) (l.filter (nearBy t)) := by
  show List.foldl _ none (l.filter (nearBy t)) = _
  cases l.filter (nearBy t) with
  | nil => rfl
  | cons m r =>
    rw [List.foldl_cons]
    refine Eq.trans ?_ (fold_least (nearer t) r m)
    simp only [nearer, decide_eq_true_eq]
    rfl
theorem leastBy_mem {f : Kept → Kept → Bool} {l : List Kept} {y : Kept} (h : leastBy f l = some y) : y ∈ l := by
  cases l with
  | nil => cases h
  | cons m r =>
    obtain ⟨z, a, b⟩ := lowest_step f r m
    rw [fold_least f r m] at a
    have e : y = z := by rw [← Option.some.inj a]; exact (Option.some.inj h).symm
    rw [e]
    exact b.elim (fun q => q ▸ List.mem_cons_self) (List.mem_cons_of_mem _)
theorem leastBy_none {f : Kept → Kept → Bool} {l : List Kept} (h : leastBy f l = none) : l = [] := by
  cases l with
  | nil => rfl
  | cons m r => cases h
/-- where none is less than another the first stays -/
theorem leastBy_flat {f : Kept → Kept → Bool} {l : List Kept} (h : ∀ x ∈ l, ∀ y ∈ l, f x y = false) : leastBy f l = l.head? := by
  cases l with
  | nil => rfl
  | cons m r =>
    refine congrArg some ?_
    have gen : ∀ (r : List Kept), (∀ x ∈ r, f x m = false) → r.foldl (fun y x => if f x y = true then x else y) m = m := fun r => by
      induction r with
      | nil => exact fun _ => rfl
      | cons x r ih =>
        intro h
        rw [List.foldl_cons, h x List.mem_cons_self]
        exact ih fun z hz => h z (List.mem_cons_of_mem _ hz)
    exact gen r fun x hx => h x (List.mem_cons_of_mem _ hx) m List.mem_cons_self
theorem best_mem {kn : List Kept} {k : Nat} {t : Text} {x : Kept} (h : best kn k t = some x) : x ∈ kn := by
  unfold best at h
  split at h
  · rename_i y q
    rw [lowest_eq] at q
    exact (List.mem_filter.mp (Option.some.inj h ▸ leastBy_mem q)).1
  · split at h
    · rename_i y q
      exact (List.mem_filter.mp (Option.some.inj h ▸ List.mem_of_head? q)).1
    · rw [nearest_eq] at h
      exact (List.mem_filter.mp (leastBy_mem h)).1
theorem released_fresh {g : List Entry} {l : List Kept} {k : Nat} {t : Text} (h : exact (known g l) k t = none) : released.fresh g k t l = made (known g l) k t := by
  unfold released.fresh made best
  rw [h]
  show (match lowest _ with | some x => _ | none => _) = _
  cases q : lowest ((known g l).filter fun x => x.text == t) with
  | some x => rfl
  | none =>
    show (match lowest _ with | some x => _ | none => _) = _
    have e : lowest ((known g l).filter fun x => x.key == k) = ((known g l).filter fun x => x.key == k).head? := by
      rw [lowest_eq]
      refine leastBy_flat fun x hx y hy => ?_
      have a := (List.mem_filter.mp hx).2
      have b := (List.mem_filter.mp hy).2
      simp only [beq_iff_eq] at a b
      simp [a, b]
    rw [e]
    cases q2 : ((known g l).filter fun x => x.key == k).head? with
    | some x =>
      have b := (List.mem_filter.mp (List.mem_of_head? q2)).2
      simp only [beq_iff_eq] at b
      show (⟨k, t, x.trans, false, k⟩ : Entry) = ⟨k, t, x.trans, false, x.key⟩
      rw [b]
    | none =>
      show (match nearest _ _ with | some x => _ | none => _) = _
      cases nearest (known g l) t <;> rfl
theorem find_some_of {α : Type} {p : α → Bool} {l : List α} {x : α} (h : x ∈ l) (hp : p x = true) : ∃ y, l.find? p = some y := by
  cases q : l.find? p with
  | none => exact absurd hp (List.find?_eq_none.mp q x h)
  | some y => exact ⟨y, rfl⟩
theorem inRel_eq {g : List Entry} {l : List Kept} (nd : (g.map (·.key)).Nodup) (k : Nat) (t : Text) : inRel g l k t = released g l k t := by
  -- the entry of that key and text
  by_cases c : ∃ e ∈ g, e.key = k ∧ e.text = t
  · obtain ⟨e, he, rfl, rfl⟩ := c
    have p : pick g l e.key e.text = some e := by
      unfold pick
      rw [List.find?_append]
      obtain ⟨y, q⟩ := find_some_of (p := fun x : Entry => x.key == e.key && x.text == e.text) he (by simp)
      have m := List.mem_of_find?_eq_some q
      have w := List.find?_some q
      simp only [Bool.and_eq_true, beq_iff_eq] at w
      rw [q, same_key nd m he w.1]
      rfl
    unfold inRel released
    rw [p, entryOf_of nd he]
    simp
  · have noG : g.find? (fun e => e.key == k && e.text == t) = none := List.find?_eq_none.mpr fun e he q => by
      simp only [beq_iff_eq, Bool.and_eq_true] at q
      exact c ⟨e, he, q⟩
    have rel : released g l k t = released.fresh g k t l := by
      unfold released
      cases q : entryOf g k with
      | none => rfl
      | some e =>
        have m := entryOf_mem q
        exact if_neg fun z => c ⟨e, m.1, m.2, z⟩
    have ex : exact (known g l) k t = l.find? fun x => x.key == k && x.text == t := by
      unfold Ut06.exact known
      rw [List.find?_append, List.find?_eq_none.mpr]
      · rfl
      · intro x hx q
        obtain ⟨e, he, rfl⟩ := List.mem_map.mp hx
        simp only [beq_iff_eq, Bool.and_eq_true] at q
        exact c ⟨e, (List.mem_filter.mp he).1, q⟩
    have pk : pick g l k t = (l.find? fun x => x.key == k && x.text == t).map asE := by
      unfold pick
      rw [List.find?_append, noG, List.find?_map]
      rfl
    unfold inRel
    rw [rel, pk]
    cases q : l.find? (fun x => x.key == k && x.text == t) with
    | none => exact (released_fresh (ex.trans q)).symm
    | some x =>
      have w := List.find?_some q
      simp only [Bool.and_eq_true, beq_iff_eq] at w
      unfold released.fresh
      rw [ex, q]
      show (⟨x.key, x.text, x.trans, true, 0⟩ : Entry) = ⟨k, t, x.trans, true, 0⟩
      rw [w.1, w.2]
theorem released_is {g : List Entry} {l : List Kept} (ok : Ok1 g l) {k : Nat} {t : Text} (wt : t.length ≤ 8) :
    (released g l k t).key = k ∧ (released g l k t).text = t ∧ (released g l k t).trans.length ≤ 8 ∧ ((released g l k t).sure = true → (released g l k t).trans ≠ []) := by
  rw [← inRel_eq ok.keys]
  unfold inRel
  cases q : pick g l k t with
  | some e =>
    have m := List.mem_of_find?_eq_some q
    have w := List.find?_some q
    simp only [Bool.and_eq_true, beq_iff_eq] at w
    rcases List.mem_append.mp m with m | m
    · exact ⟨w.1, w.2, (ok.words e m).2, ok.sure e m⟩
    · obtain ⟨x, hx, rfl⟩ := List.mem_map.mp m
      exact ⟨w.1, w.2, (ok.kwords x hx).2.1, fun _ => (ok.kwords x hx).2.2⟩
  | none =>
    show (made (known g l) k t).key = k ∧ _
    unfold made
    cases q2 : best (known g l) k t with
    | none => exact ⟨rfl, rfl, Nat.zero_le _, fun h => by cases h⟩
    | some x =>
      have b := best_mem q2
      exact ⟨rfl, rfl, (ok.known b).2.1, fun h => by cases h⟩
theorem Ok1.release {g : List Entry} {l : List Kept} (ok : Ok1 g l) {n : List (Nat × Text)} (few : n.length ≤ 12) (short : ∀ x ∈ n, x.2.length ≤ 8) (nd : (n.map (·.1)).Nodup) (kf : (Ut06.release g l n).2.length ≤ 30) : Ok1 (Ut06.release g l n).1 (Ut06.release g l n).2 where
  few := by show (n.map _).length ≤ 12; rw [List.length_map]; exact few
  keptFew := kf
  keys := by
    show ((n.map _).map _).Nodup
    rw [List.map_map]
    have e : n.map ((fun x : Entry => x.key) ∘ fun x : Nat × Text => released g l x.1 x.2) = n.map (·.1) := List.map_congr_left fun x hx => (released_is ok (short x hx)).1
    rw [e]
    exact nd
  words := fun e he => by
    obtain ⟨x, hx, rfl⟩ := List.mem_map.mp he
    have r := released_is ok (k := x.1) (short x hx)
    exact ⟨by rw [r.2.1]; exact short x hx, r.2.2.1⟩
  sure := fun e he => by
    obtain ⟨x, hx, rfl⟩ := List.mem_map.mp he
    exact (released_is ok (k := x.1) (short x hx)).2.2.2
  kwords := fun x hx => ok.known (mem_unshown.mp hx).1
  hidden := fun x hx e he a b c => by
    have this : Rd.shown (Ut06.release g l n).1 x = false := (mem_unshown.mp hx).2
    rw [shown_iff.mpr ⟨e, he, a, b, c⟩] at this
    cases this
/-! ### together -/
def turnT (g0 : List Entry) (s : List Entry × List Kept) (x : Nat × Text × Text) : List Entry × List Kept := match entryOf g0 x.1 with
  | none => s
  | some e => if fate x.2.1 e.trans x.2.2 = 2 then (exch s.1 ⟨e.key, e.text, x.2.2, !x.2.2.isEmpty, 0⟩, unshown (exch s.1 ⟨e.key, e.text, x.2.2, !x.2.2.isEmpty, 0⟩) s.2) else s
structure Tg (g0 : List Entry) (l0 : List Kept) (l : List (Nat × Text × Text)) : Prop where
  same : l.foldl (turnT g0) (g0, l0) = (together g0 l, unshown (together g0 l) l0)
  keys : (together g0 l).map (·.key) = g0.map (·.key)
  old : ∀ e ∈ together g0 l, e.key ∉ l.map (·.1) → e ∈ g0
theorem tg_all {g0 : List Entry} {l0 : List Kept} (ok : Ok1 g0 l0) {n : List (Nat × Text × Text)} (nd : (n.map (·.1)).Nodup) (has : ∀ x ∈ n, (entryOf g0 x.1).isSome = true) : ∀ i, i ≤ n.length → Tg g0 l0 (n.take i) := by
  intro i
  induction i with
  | zero =>
    intro _
    exact ⟨by rw [List.take_zero]; exact congrArg (Prod.mk g0) (unshown_all fun x hx => ok.shown hx).symm, rfl, fun e he _ => he⟩
  | succ i ih =>
    intro hi
    have T := ih (by omega)
    obtain ⟨x, hx⟩ : ∃ x, n[i]? = some x := ⟨_, List.getElem?_eq_getElem (by omega)⟩
    have hm := List.mem_of_getElem? hx
    obtain ⟨e0, he0⟩ := Option.isSome_iff_exists.mp (has x hm)
    obtain ⟨m0, k0⟩ := entryOf_mem he0
    have new : x.1 ∉ (n.take i).map (·.1) := by
      intro q
      have cut : n = n.take i ++ n.drop i := (List.take_append_drop i n).symm
      rw [cut, List.map_append, List.nodup_append] at nd
      refine nd.2.2 _ q _ (List.mem_map.mpr ⟨x, ?_, rfl⟩) rfl
      rw [List.drop_eq_getElem_cons (by omega), (List.getElem?_eq_some_iff.mp hx).2]
      exact List.mem_cons_self
    have tk : n.take (i + 1) = n.take i ++ [x] := by rw [List.take_add_one, hx]; rfl
    have nd2 : ((together g0 (n.take i)).map (·.key)).Nodup := by rw [T.keys]; exact ok.keys
    -- the entry of that key is still the old one
    have stands : ∀ e ∈ together g0 (n.take i), e.key = x.1 → e = e0 := fun e he q => same_key ok.keys (T.old e he (q ▸ new)) m0 (q.trans k0.symm)
    have step : together g0 (n.take (i + 1)) = taken (together g0 (n.take i)) x := by
      rw [tk]
      unfold together
      rw [List.foldl_append]
      rfl
    have takenIs : taken (together g0 (n.take i)) x = if fate x.2.1 e0.trans x.2.2 = 2 then exch (together g0 (n.take i)) ⟨e0.key, e0.text, x.2.2, !x.2.2.isEmpty, 0⟩ else together g0 (n.take i) := by
      unfold taken
      by_cases c : fate x.2.1 e0.trans x.2.2 = 2
      · rw [if_pos c]
        refine List.map_congr_left fun e he => ?_
        show _ = if e.key = e0.key then _ else e
        rw [k0]
        by_cases ck : e.key = x.1
        · have := stands e he ck
          subst this
          rw [if_pos ⟨ck, c⟩, if_pos ck, k0]
        · rw [if_neg (fun z => ck z.1), if_neg ck]
      · rw [if_neg c]
        refine (List.map_congr_left fun e he => ?_).trans (List.map_id _)
        rw [if_neg]
        · rfl
        · intro z
          rw [stands e he z.1] at z
          exact c z.2
    have turn : turnT g0 (together g0 (n.take i), unshown (together g0 (n.take i)) l0) x = (taken (together g0 (n.take i)) x, unshown (taken (together g0 (n.take i)) x) l0) := by
      unfold turnT
      rw [he0, takenIs]
      by_cases c : fate x.2.1 e0.trans x.2.2 = 2
      · simp only [if_pos c]
        refine congrArg (Prod.mk _) ?_
        rw [unshown_eq, unshown_eq, unshown_eq, List.filter_filter]
        refine List.filter_congr fun y hy => ?_
        cases q : Rd.shown (exch (together g0 (n.take i)) ⟨e0.key, e0.text, x.2.2, !x.2.2.isEmpty, 0⟩) y with
        | true => rfl
        | false =>
          cases q2 : Rd.shown (together g0 (n.take i)) y with
          | false => rfl
          | true =>
            obtain ⟨e, he, a, b, d⟩ := shown_iff.mp q2
            by_cases ck : e.key = x.1
            · rw [stands e he ck] at a b d
              exact (ok.hidden y hy e0 m0 a b d).elim
            · have : Rd.shown (exch (together g0 (n.take i)) ⟨e0.key, e0.text, x.2.2, !x.2.2.isEmpty, 0⟩) y = true := shown_iff.mpr ⟨e, List.mem_map.mpr ⟨e, he, if_neg (by show ¬ e.key = e0.key; rw [k0]; exact ck)⟩, a, b, d⟩
              rw [this] at q
              cases q
      · simp only [if_neg c]
    refine ⟨?_, ?_, ?_⟩
    · rw [step, tk, List.foldl_append, T.same]
      exact turn
    · rw [step, takenIs]
      split
      · rw [exch_keys, T.keys]
      · exact T.keys
    · intro e he q
      rw [tk, List.map_append, List.mem_append] at q
      rw [step, takenIs] at he
      split at he
      · rcases mem_exch he with rfl | ⟨he, ne⟩
        · exact (q (.inr (by show e0.key ∈ [x.1]; rw [k0]; exact List.mem_singleton.mpr rfl))).elim
        · exact T.old e he fun z => q (.inl z)
      · exact T.old e he fun z => q (.inl z)
theorem Ok1.together {g0 : List Entry} {l0 : List Kept} (ok : Ok1 g0 l0) {n : List (Nat × Text × Text)} (nd : (n.map (·.1)).Nodup) (has : ∀ x ∈ n, (entryOf g0 x.1).isSome = true) (short : ∀ x ∈ n, x.2.2.length ≤ 8) : ∀ i, i ≤ n.length → Ok1 (together g0 (n.take i)) (unshown (together g0 (n.take i)) l0) := by
  intro i
  induction i with
  | zero =>
    intro _
    show Ok1 g0 (unshown g0 l0)
    rw [unshown_all fun x hx => ok.shown hx]
    exact ok
  | succ i ih =>
    intro hi
    have A := ih (by omega)
    have T := tg_all ok nd has i (by omega)
    have T1 := tg_all ok nd has (i + 1) hi
    obtain ⟨x, hx⟩ : ∃ x, n[i]? = some x := ⟨_, List.getElem?_eq_getElem (by omega)⟩
    have hm := List.mem_of_getElem? hx
    obtain ⟨e0, he0⟩ := Option.isSome_iff_exists.mp (has x hm)
    have tk : n.take (i + 1) = n.take i ++ [x] := by rw [List.take_add_one, hx]; rfl
    have s1 := T1.same
    rw [tk, List.foldl_append, T.same] at s1
    have s2 : turnT g0 (Ut06.together g0 (n.take i), unshown (Ut06.together g0 (n.take i)) l0) x = (Ut06.together g0 (n.take (i + 1)), unshown (Ut06.together g0 (n.take (i + 1))) l0) := s1.trans (by rw [tk])
    unfold turnT at s2
    rw [he0] at s2
    by_cases c : fate x.2.1 e0.trans x.2.2 = 2
    · simp only [if_pos c] at s2
      have e1 := (Prod.mk.inj s2).1
      have e2 := (Prod.mk.inj s2).2
      rw [← e1] at e2 ⊢
      rw [← e2]
      refine A.exch ⟨(ok.words e0 (entryOf_mem he0).1).1, short x hm⟩ fun q => ?_
      intro z
      have z : x.2.2 = [] := z
      rw [z] at q
      cases q
    · simp only [if_neg c] at s2
      have e1 := (Prod.mk.inj s2).1
      have e2 := (Prod.mk.inj s2).2
      rw [← e1] at e2 ⊢
      rw [← e2]
      exact A
end Rd
/-! How calls are told, and what each is to answer. -/
namespace Rd
open Ut06
open Ut06Neutral hiding Call step start
/-! ### texts, keys with texts -/
theorem textIn_some {l t r : List Nat} (h : textIn l = some (t, r)) : l = t.length :: (t ++ r) := by
  cases l with
  | nil => cases h
  | cons n l =>
    have h : (if l.length < n then none else some (l.take n, l.drop n)) = some (t, r) := h
    by_cases c : l.length < n
    · rw [if_pos c] at h
      cases h
    · rw [if_neg c] at h
      obtain ⟨rfl, rfl⟩ := Prod.mk.inj (Option.some.inj h)
      rw [List.length_take, List.take_append_drop, Nat.min_eq_left (by omega)]
def flatR (n : List (Nat × Text)) : List Nat := n.flatMap fun x => x.1 :: x.2.length :: x.2
def flatT (n : List (Nat × Text × Text)) : List Nat := n.flatMap fun x => x.1 :: x.2.1.length :: (x.2.1 ++ x.2.2.length :: x.2.2)
theorem keysIn_some : ∀ (f : Nat) (l : List Nat) (n : List (Nat × List Nat)), keysIn f l = some n → l = flatR n
  | 0, [], n, h => by cases h; rfl
  | f + 1, [], n, h => by cases h; rfl
  | 0, _ :: _, n, h => by cases h
  | f + 1, k :: l, n, h => by
    have h : (textIn l).bind (fun x => (keysIn f x.2).map fun y => (k, x.1) :: y) = some n := h
    cases q : textIn l with
    | none => rw [q] at h; cases h
    | some x =>
      rw [q] at h
      have h : (keysIn f x.2).map (fun y => (k, x.1) :: y) = some n := h
      cases q2 : keysIn f x.2 with
      | none => rw [q2] at h; cases h
      | some y =>
        rw [q2] at h
        cases h
        have e := textIn_some (t := x.1) (r := x.2) q
        have e2 := keysIn_some f x.2 y q2
        rw [e, e2]
        rfl
theorem threesIn_some : ∀ (m : Nat) (l : List Nat) (n : List (Nat × List Nat × List Nat)) (r : List Nat), threesIn m l = some (n, r) → l = flatT n ++ r ∧ n.length = m
  | 0, l, n, r, h => by cases h; exact ⟨rfl, rfl⟩
  | m + 1, [], n, r, h => by cases h
  | m + 1, k :: l, n, r, h => by
    have h : (textIn l).bind (fun x => (textIn x.2).bind fun y => (threesIn m y.2).map fun z => ((k, x.1, y.1) :: z.1, z.2)) = some (n, r) := h
    cases q : textIn l with
    | none => rw [q] at h; cases h
    | some x =>
      rw [q] at h
      have h : (textIn x.2).bind (fun y => (threesIn m y.2).map fun z => ((k, x.1, y.1) :: z.1, z.2)) = some (n, r) := h
      cases q2 : textIn x.2 with
      | none => rw [q2] at h; cases h
      | some y =>
        rw [q2] at h
        have h : (threesIn m y.2).map (fun z => ((k, x.1, y.1) :: z.1, z.2)) = some (n, r) := h
        cases q3 : threesIn m y.2 with
        | none => rw [q3] at h; cases h
        | some z =>
          rw [q3] at h
          cases h
          have e := textIn_some (t := x.1) (r := x.2) q
          have e2 := textIn_some (t := y.1) (r := y.2) q2
          obtain ⟨e3, e4⟩ := threesIn_some m y.2 z.1 z.2 q3
          refine ⟨?_, by rw [List.length_cons, e4]⟩
          rw [e, e2, e3]
          show k :: x.1.length :: (x.1 ++ y.1.length :: (y.1 ++ (flatT z.1 ++ z.2))) = (k :: x.1.length :: (x.1 ++ y.1.length :: y.1)) ++ flatT z.1 ++ z.2
          simp
/-- a call's place, its numbers, itself -/
inductive Told : Nat → List Nat → Call → Prop
  | release (n : List (Nat × Text)) : Told 0 (flatR n) (.release n)
  | put (k : Nat) (t : Text) : Told 1 (k :: t.length :: t) (.put k t)
  | doubt (k : Nat) : Told 2 [k] (.doubt k)
  | together (n : List (Nat × Text × Text)) : Told 3 (n.length :: flatT n) (.together n)
  | entry (k : Nat) : Told 4 [k] (.entry k)
  | shows : Told 5 [] .shows
  | kept : Told 6 [] .kept
  | would (k : Nat) (t : Text) : Told 7 (k :: t.length :: t) (.would k t)
  | undo : Told 8 [] .undo
  | far (a b : Text) : Told 9 (a.length :: (a ++ b.length :: b)) (.far a b)
theorem told_of {l : List Nat} {c : Call} (h : callIn l = some c) : ∃ p ns, l = p :: ns ∧ Told p ns c := by
  unfold callIn at h
  split at h
  · rename_i l
    cases q : keysIn (l.length + 1) l with
    | none => rw [q] at h; cases h
    | some n =>
      rw [q] at h
      cases h
      have e := keysIn_some _ _ _ q
      subst e
      exact ⟨0, _, rfl, .release n⟩
  · rename_i k l
    cases q : textIn l with
    | none => rw [q] at h; cases h
    | some x =>
      rw [q] at h
      have h : (if x.2 = [] then some (Ut06.Call.put k x.1) else none) = some c := h
      split at h
      · rename_i z
        cases h
        have e := textIn_some (t := x.1) (r := x.2) q
        rw [z, List.append_nil] at e
        exact ⟨1, _, rfl, e ▸ .put k x.1⟩
      · cases h
  · rename_i k
    cases h
    exact ⟨2, _, rfl, .doubt k⟩
  · rename_i n l
    split at h
    · cases h
    · cases q : threesIn n l with
      | none => rw [q] at h; cases h
      | some x =>
        rw [q] at h
        have h : (if x.2 = [] then some (Ut06.Call.together x.1) else none) = some c := h
        split at h
        · rename_i z
          cases h
          obtain ⟨e, e2⟩ := threesIn_some n l x.1 x.2 q
          rw [z, List.append_nil] at e
          subst e
          subst e2
          exact ⟨3, _, rfl, .together x.1⟩
        · cases h
  · rename_i k
    cases h
    exact ⟨4, _, rfl, .entry k⟩
  · cases h
    exact ⟨5, _, rfl, .shows⟩
  · cases h
    exact ⟨6, _, rfl, .kept⟩
  · rename_i k l
    cases q : textIn l with
    | none => rw [q] at h; cases h
    | some x =>
      rw [q] at h
      have h : (if x.2 = [] then some (Ut06.Call.would k x.1) else none) = some c := h
      split at h
      · rename_i z
        cases h
        have e := textIn_some (t := x.1) (r := x.2) q
        rw [z, List.append_nil] at e
        exact ⟨7, _, rfl, e ▸ .would k x.1⟩
      · cases h
  · cases h
    exact ⟨8, _, rfl, .undo⟩
  · rename_i l
    cases q : textIn l with
    | none => rw [q] at h; cases h
    | some x =>
      rw [q] at h
      have h : (textIn x.2).bind (fun y => if y.2 = [] then some (Ut06.Call.far x.1 y.1) else none) = some c := h
      cases q2 : textIn x.2 with
      | none => rw [q2] at h; cases h
      | some y =>
        rw [q2] at h
        have h : (if y.2 = [] then some (Ut06.Call.far x.1 y.1) else none) = some c := h
        split at h
        · rename_i z
          cases h
          have e := textIn_some (t := x.1) (r := x.2) q
          have e2 := textIn_some (t := y.1) (r := y.2) q2
          rw [z, List.append_nil] at e2
          rw [e2] at e
          exact ⟨9, _, rfl, e ▸ .far x.1 y.1⟩
        · cases h
  · cases h
/-! ### the whole list -/
abbrev Op := Nat × List Nat × Call
def cast (l : List Nat) : List Int := l.map fun n : Nat => (n : Int)
def flatC (ops : List Op) : List Nat := ops.flatMap fun x => x.1 :: x.2.1.length :: (x.2.1 ++ [0])
def play : St → List Op → List Int
  | _, [] => []
  | s, x :: r => (((Ut06.step s x.2.2).2.length : Int) :: (Ut06.step s x.2.2).2) ++ play (Ut06.step s x.2.2).1 r
theorem cast_toNat {l : List Int} (h : l.all nat = true) : cast (l.map Int.toNat) = l := by
  unfold cast
  rw [List.map_map]
  refine (List.map_congr_left fun z hz => ?_).trans (List.map_id _)
  have := List.all_eq_true.mp h z hz
  unfold nat at this
  simp only [Bool.and_eq_true, decide_eq_true_eq] at this
  show ((z.toNat : Nat) : Int) = z
  omega
theorem row_some {r x s : List Int} (h : PyFlat.row r = some (x, s)) : r = (x.length : Int) :: (x ++ s) := by
  cases r with
  | nil => cases h
  | cons n r =>
    have h : (if 0 ≤ n ∧ n.toNat ≤ r.length then some (r.take n.toNat, r.drop n.toNat) else none) = some (x, s) := h
    by_cases c : 0 ≤ n ∧ n.toNat ≤ r.length
    · rw [if_pos c] at h
      cases h
      rw [List.length_take, List.take_append_drop, Nat.min_eq_left c.2, Int.toNat_of_nonneg c.1]
    · rw [if_neg c] at h
      cases h
theorem rows_some : ∀ {k : Nat} {r : List Int} {xs : List (List Int)} {t : List Int}, PyFlat.rows k r = some (xs, t) → xs.length = k
  | 0, r, xs, t, h => by cases h; rfl
  | k + 1, r, xs, t, h => by
    unfold PyFlat.rows at h
    split at h
    · cases h
    · rename_i x s q
      split at h
      · cases h
      · rename_i ys u q2
        cases h
        rw [List.length_cons, rows_some q2]
theorem call_some {l : List Int} {c : List (List Int)} {t : List Int} (h : PyWide.call l = some (c, t)) (no : c.tail = []) : ∃ p ns, c = [p :: ns] ∧ l = p :: (ns.length : Int) :: (ns ++ 0 :: t) := by
  cases l with
  | nil => cases h
  | cons p r =>
    cases q : PyFlat.row r with
    | none => simp [PyWide.call, q] at h
    | some y =>
      obtain ⟨ns, u⟩ := y
      cases u with
      | nil => simp [PyWide.call, q] at h
      | cons k u =>
        by_cases pos : 0 ≤ k
        · cases q2 : PyFlat.rows k.toNat u with
          | none => simp [PyWide.call, q, pos, q2] at h
          | some z =>
          obtain ⟨xs, v⟩ := z
          simp only [PyWide.call, q, pos, q2, if_true] at h
          cases h
          have e := row_some q
          have n0 := rows_some q2
          have no : xs = [] := no
          subst no
          have k0 : k = 0 := by have : k.toNat = 0 := n0.symm; omega
          subst k0
          cases q2
          exact ⟨p, ns, rfl, by rw [e]⟩
        · simp [PyWide.call, q, pos] at h
theorem fits_tail {c : List (List Int)} (h : PyUt06.fits c = true) : c.tail = [] := by
  unfold PyUt06.fits at h
  split at h
  · rename_i p xs rows
    split at h
    · cases h
    · rename_i a m1 m2 lo hi r k n1 n2 llo lhi l1 l2 q
      have z : k = 0 ∧ n2 = 0 ∧ r = [] := by
        unfold PyUt06.form at q
        repeat' split at q
        all_goals first | exact ⟨(congrArg (fun y => y.2.2.2.1) (Option.some.inj q)).symm, (congrArg (fun y => y.2.2.2.2.2.1) (Option.some.inj q)).symm, (congrArg (fun y => y.2.2.1) (Option.some.inj q)).symm⟩ | cases q
      obtain ⟨rfl, rfl, rfl⟩ := z
      simp only [decide_eq_true_eq, Bool.and_eq_true] at h
      have := h.1.1.2
      simp at this
      exact this
  · cases h
theorem played_gen {f : St → List (List Int) → St × List Int} (enc : Op → List (List Int)) : ∀ (ops : List Op) (s : St), (∀ x ∈ ops, ∀ s, f s (enc x) = Ut06.step s x.2.2) → PyFlat.told (PyFlat.played f s (ops.map enc)) = play s ops := fun ops => by
  induction ops with
  | nil => exact fun _ _ => rfl
  | cons x r ih =>
    intro s h
    rw [List.map_cons, PyFlat.played, PyFlat.told, List.flatMap_cons, ← PyFlat.told, h x List.mem_cons_self s, ih _ fun y hy => h y (List.mem_cons_of_mem _ hy), play]
theorem step_of {s : St} {c : List Int} {x : Call} (h : callOf c = some x) : Ut06Neutral.step s c = Ut06.step s x := by
  unfold Ut06Neutral.step
  rw [h]
theorem calls_ops : ∀ (f : Nat) (l : List Int) (cs : List (List (List Int))), PyWide.calls f l = some cs → (∀ c ∈ cs, PyUt06.fits c = true) → (∀ c ∈ cs, asked1 (c.headD []) = true) →
    ∃ ops : List Op, cs = ops.map (fun x => [cast (x.1 :: x.2.1)]) ∧ l = cast (flatC ops) ∧ (∀ x ∈ ops, callOf (cast (x.1 :: x.2.1)) = some x.2.2 ∧ Told x.1 x.2.1 x.2.2)
  | 0, [], cs, h, _, _ => by cases h; exact ⟨[], rfl, rfl, by simp⟩
  | f + 1, [], cs, h, _, _ => by cases h; exact ⟨[], rfl, rfl, by simp⟩
  | 0, _ :: _, cs, h, _, _ => by cases h
  | f + 1, p :: r, cs, h, fit, ask => by
    unfold PyWide.calls at h
    split at h
    · cases h
    · rename_i c t q
      split at h
      · cases h
      · rename_i more q2
        cases h
        obtain ⟨ops, e1, e2, e3⟩ := calls_ops f t more q2 (fun c hc => fit c (List.mem_cons_of_mem _ hc)) fun c hc => ask c (List.mem_cons_of_mem _ hc)
        obtain ⟨p', ns, rfl, el⟩ := call_some q (fits_tail (fit _ List.mem_cons_self))
        have a1 := ask _ List.mem_cons_self
        obtain ⟨x, hx⟩ := Option.isSome_iff_exists.mp (show (callOf (p' :: ns)).isSome = true from a1)
        have hx0 := hx
        unfold callOf at hx
        split at hx
        · cases hx
        · rename_i z
          have z : (p' :: ns).all nat = true := by simpa using z
          obtain ⟨pn, nn, e4, td⟩ := told_of hx
          have e5 := cast_toNat z
          rw [show List.map Int.toNat (p' :: ns) = pn :: nn from e4] at e5
          have e6 : ns = cast nn := (List.cons.inj e5).2.symm
          have e7 : p' = (pn : Int) := (List.cons.inj e5).1.symm
          refine ⟨(pn, nn, x) :: ops, ?_, ?_, fun y hy => ?_⟩
          · rw [e1, List.map_cons, e5]
          · rw [el, e2, e6, e7]
            unfold cast flatC
            simp
          · obtain rfl | hy := List.mem_cons.mp hy
            · exact ⟨by show callOf (cast (pn :: nn)) = some x; rw [e5]; exact hx0, td⟩
            · exact e3 y hy
theorem asked_is {l : List Int} (h : PyUt06.answers_asked l = true) : ∃ ops : List Op, l = cast (flatC ops) ∧ ops.length ≤ 30 ∧ (∀ x ∈ ops, Told x.1 x.2.1 x.2.2) ∧ PyUt06.answers l = play init ops := by
  unfold PyUt06.answers_asked at h
  split at h
  · cases h
  · rename_i cs q
    simp only [Bool.and_eq_true, List.all_eq_true] at h
    obtain ⟨⟨⟨⟨h1, h2⟩, h3⟩, h4⟩, h5⟩ := h
    unfold Ut06Neutral.asked at h4
    simp only [Bool.and_eq_true, List.all_eq_true] at h4
    obtain ⟨ops, e1, e2, e3⟩ := calls_ops _ l cs q h2 fun c hc => h4.1 _ (List.mem_map_of_mem hc)
    refine ⟨ops, e2, ?_, fun x hx => (e3 x hx).2, ?_⟩
    · have := of_decide_eq_true (show decide (cs.length ≤ 30) = true from h3)
      rw [e1, List.length_map] at this
      exact this
    · unfold PyUt06.answers
      rw [q, e1]
      exact played_gen (fun x => [cast (x.1 :: x.2.1)]) ops _ fun x hx s => step_of (e3 x hx).1
/-! ### each call's answer -/
def textGood (fewest : Nat) (t : Text) : Prop := fewest ≤ t.length ∧ t.length ≤ 8 ∧ ∀ w ∈ t, w ≤ 99
instance (f : Nat) (t : Text) : Decidable (textGood f t) := inferInstanceAs (Decidable (_ ∧ _ ∧ ∀ w ∈ t, w ≤ 99))
theorem textOk_iff {t : Text} : textOk t = true ↔ textGood 0 t := by
  unfold textOk textGood
  simp
theorem textOk_iff1 {t : Text} : (textOk t && decide (1 ≤ t.length)) = true ↔ textGood 1 t := by
  rw [Bool.and_eq_true, textOk_iff]
  unfold textGood
  simp only [decide_eq_true_eq]
  exact ⟨fun h => ⟨h.2, h.1.2⟩, fun h => ⟨⟨Nat.zero_le _, h.2⟩, h.1⟩⟩
theorem textOk_put {t : Text} : ¬ (textOk t = false ∨ t = []) ↔ textGood 1 t := by
  unfold textGood
  cases q : textOk t with
  | false =>
    have : ¬ textGood 0 t := fun z => by rw [textOk_iff.mpr z] at q; cases q
    unfold textGood at this
    simp only [Nat.zero_le, true_and] at this
    simp only [true_or, not_true_eq_false, false_iff]
    exact fun z => this z.2
  | true =>
    have := textOk_iff.mp q
    unfold textGood at this
    cases t with
    | nil => simp
    | cons a b => simp only [List.length_cons]; simp at this; simp; omega
theorem eraseDups_len : ∀ (m : Nat) (l : List Nat), l.length ≤ m → l.eraseDups.length ≤ l.length ∧ (l.eraseDups.length = l.length ↔ l.Nodup)
  | _, [], _ => by simp
  | 0, _ :: _, h => absurd h (by simp)
  | m + 1, a :: r, h => by
    rw [List.eraseDups_cons]
    have fl := List.length_filter_le (fun b => !(b == a)) r
    have ih := eraseDups_len m (r.filter fun b => !(b == a)) (by simp only [List.length_cons] at h; omega)
    refine ⟨by simp only [List.length_cons]; omega, ?_⟩
    rw [List.nodup_cons, List.length_cons, List.length_cons, Nat.add_right_cancel_iff]
    constructor
    · intro e
      have full : (r.filter fun b => !(b == a)).length = r.length := by omega
      have eq := List.filter_eq_self.mpr (List.length_filter_eq_length_iff.mp full)
      refine ⟨fun q => ?_, ?_⟩
      · have := List.length_filter_eq_length_iff.mp full a q
        simp at this
      · rw [eq] at ih e
        exact ih.2.mp e
    · rintro ⟨n1, n2⟩
      have eq : r.filter (fun b => !(b == a)) = r := List.filter_eq_self.mpr fun b hb => by
        have : b ≠ a := fun z => n1 (z ▸ hb)
        simp [this]
      rw [eq] at ih ⊢
      exact ih.2.mpr n2
theorem eraseDups_iff (l : List Nat) : l.eraseDups.length = l.length ↔ l.Nodup := (eraseDups_len l.length l (Nat.le_refl _)).2
/-- what a release may be told -/
structure RelOk (n : List (Nat × Text)) : Prop where
  few : n.length ≤ 12
  texts : ∀ x ∈ n, textGood 1 x.2
  keys : ∀ x ∈ n, x.1 ≤ 99
  once : (n.map (·.1)).Nodup
theorem rel_all {n : List (Nat × Text)} : (n.all fun x => textOk x.2 && (decide (1 ≤ x.2.length) && decide (x.1 ≤ 99))) = true ↔ (∀ x ∈ n, textGood 1 x.2) ∧ ∀ x ∈ n, x.1 ≤ 99 := by
  rw [List.all_eq_true]
  constructor
  · intro h
    refine ⟨fun x hx => ?_, fun x hx => ?_⟩
    · have := h x hx
      rw [← Bool.and_assoc, Bool.and_eq_true] at this
      exact textOk_iff1.mp this.1
    · have := h x hx
      rw [← Bool.and_assoc, Bool.and_eq_true] at this
      exact of_decide_eq_true this.2
  · intro h x hx
    rw [← Bool.and_assoc, Bool.and_eq_true]
    exact ⟨textOk_iff1.mpr (h.1 x hx), decide_eq_true (h.2 x hx)⟩
theorem step_release_no {g : St} {n : List (Nat × Text)} (h : ¬ RelOk n) : step g (.release n) = (g, [-1]) := by
  refine if_pos ?_
  refine Decidable.byContradiction fun z => h ?_
  simp only [not_or, Bool.not_eq_false, Nat.not_lt, Decidable.not_not] at z
  have e := rel_all.mp z.2.1
  refine ⟨z.1, e.1, e.2, (eraseDups_iff _).mp ?_⟩
  rw [z.2.2, List.length_map]
theorem step_release {g : St} {n : List (Nat × Text)} (h : RelOk n) : step g (.release n) = if 30 < (Ut06.release g.entries g.kept n).2.length then (g, [-5]) else (becomes g (Ut06.release g.entries g.kept n).1 (Ut06.release g.entries g.kept n).2, Ut06.told (becomes g (Ut06.release g.entries g.kept n).1 (Ut06.release g.entries g.kept n).2)) := by
  refine if_neg ?_
  simp only [not_or, Bool.not_eq_false, Nat.not_lt, Decidable.not_not]
  refine ⟨h.few, rel_all.mpr ⟨h.texts, h.keys⟩, ?_⟩
  rw [(eraseDups_iff _).mpr h.once, List.length_map]
theorem step_put_no {g : St} {k : Nat} {t : Text} (h : ¬ textGood 1 t) : step g (.put k t) = (g, [-1]) := if_pos (Decidable.byContradiction fun z => h (textOk_put.mp z))
theorem step_put {g : St} {k : Nat} {t : Text} (h : textGood 1 t) : step g (.put k t) = (match entryOf g.entries k with
    | none => (g, [-2])
    | some _ => (becomes g (g.entries.map fun e => if e.key = k then { e with trans := t, sure := true, from_ := 0 } else e) (unshown (g.entries.map fun e => if e.key = k then { e with trans := t, sure := true, from_ := 0 } else e) g.kept),
      Ut06.told (becomes g (g.entries.map fun e => if e.key = k then { e with trans := t, sure := true, from_ := 0 } else e) (unshown (g.entries.map fun e => if e.key = k then { e with trans := t, sure := true, from_ := 0 } else e) g.kept)))) := if_neg (textOk_put.mpr h)
/-- what the two hands may tell -/
structure TogOk (n : List (Nat × Text × Text)) : Prop where
  few : n.length ≤ 12
  texts : ∀ x ∈ n, textGood 0 x.2.1 ∧ textGood 0 x.2.2
  once : (n.map (·.1)).Nodup
theorem tog_all {n : List (Nat × Text × Text)} : (n.all fun x => textOk x.2.1 && textOk x.2.2) = true ↔ ∀ x ∈ n, textGood 0 x.2.1 ∧ textGood 0 x.2.2 := by
  rw [List.all_eq_true]
  refine forall_congr' fun x => forall_congr' fun _ => ?_
  rw [Bool.and_eq_true, textOk_iff, textOk_iff]
theorem step_together_no {g : St} {n : List (Nat × Text × Text)} (h : ¬ TogOk n) : step g (.together n) = (g, [-1]) := by
  refine if_pos ?_
  refine Decidable.byContradiction fun z => h ?_
  simp only [not_or, Bool.not_eq_false, Nat.not_lt, Decidable.not_not] at z
  refine ⟨z.1, tog_all.mp z.2.1, (eraseDups_iff _).mp ?_⟩
  rw [z.2.2, List.length_map]
theorem tog_if {g : St} {n : List (Nat × Text × Text)} (h : TogOk n) : ¬ (12 < n.length ∨ (n.all fun x => textOk x.2.1 && textOk x.2.2) = false ∨ (n.map fun x => x.1).eraseDups.length ≠ n.length) := by
  simp only [not_or, Bool.not_eq_false, Nat.not_lt, Decidable.not_not]
  refine ⟨h.few, tog_all.mpr h.texts, ?_⟩
  rw [(eraseDups_iff _).mpr h.once, List.length_map]
theorem step_together_none {g : St} {n : List (Nat × Text × Text)} (h : TogOk n) {x : Nat × Text × Text} (hx : x ∈ n) (no : entryOf g.entries x.1 = none) : step g (.together n) = (g, [-2]) :=
  (if_neg (tog_if (g := g) h)).trans (if_pos (List.any_eq_true.mpr ⟨x, hx, by rw [no]; rfl⟩))
def fates (g : List Entry) (n : List (Nat × Text × Text)) : List Nat := n.map fun x => fate x.2.1 (((entryOf g x.1).map fun y => y.trans).getD []) x.2.2
theorem step_together {g : St} {n : List (Nat × Text × Text)} (h : TogOk n) (has : ∀ x ∈ n, (entryOf g.entries x.1).isSome = true) : step g (.together n) = (becomes g (Ut06.together g.entries n) (unshown (Ut06.together g.entries n) g.kept), Ut06.ints (((fates g.entries n).filter fun n => n == 2).length :: fates g.entries n)) := by
  refine (if_neg (tog_if (g := g) h)).trans (if_neg fun z => ?_)
  obtain ⟨x, hx, q⟩ := List.any_eq_true.mp z
  have := has x hx
  cases q2 : entryOf g.entries x.1 with
  | none => rw [q2] at this; cases this
  | some e => rw [q2] at q; cases q
theorem step_would_no {g : St} {k : Nat} {t : Text} (h : ¬ (textGood 1 t ∧ k ≤ 99)) : step g (.would k t) = (g, [-1]) := by
  refine congrArg (Prod.mk g) (if_pos (Decidable.byContradiction fun z => h ?_))
  have z1 : ¬ (textOk t = false ∨ t = []) := fun q => z (q.elim .inl fun q => .inr (.inl q))
  exact ⟨textOk_put.mp z1, Nat.not_lt.mp fun q => z (.inr (.inr q))⟩
theorem step_would {g : St} {k : Nat} {t : Text} (h : textGood 1 t) (hk : k ≤ 99) : step g (.would k t) = (g, Ut06.ints (entryRow (released g.entries g.kept k t))) := by
  refine congrArg (Prod.mk g) (if_neg fun z => ?_)
  have q := textOk_put.mpr h
  rcases z with z | z | z
  · exact q (.inl z)
  · exact q (.inr z)
  · omega
theorem step_far_no {g : St} {a b : Text} (h : ¬ (textGood 0 a ∧ textGood 0 b)) : step g (.far a b) = (g, [-1]) := by
  refine congrArg (Prod.mk g) (if_pos (Decidable.byContradiction fun z => h ?_))
  simp only [not_or, Bool.not_eq_false] at z
  exact ⟨textOk_iff.mp z.1, textOk_iff.mp z.2⟩
theorem step_far {g : St} {a b : Text} (ha : textGood 0 a) (hb : textGood 0 b) : step g (.far a b) = (g, Ut06.ints [distance a b]) := by
  refine congrArg (Prod.mk g) (if_neg fun z => ?_)
  rw [textOk_iff.mpr ha, textOk_iff.mpr hb] at z
  simp at z
end Rd
/-! The program's classes, and how its data lie in the heap. -/
namespace Rd
open PySem PySem.Spec PyProof.Rows L2 LamX NdefX
/-! ### small words -/
theorem upd_twice {H : Hp} {a : Addr} {o p : HO} : upd (upd H a o) a p = upd H a p := funext fun b => by
  by_cases c : b = a
  · rw [c, upd_same, upd_same]
  · rw [upd_ne c, upd_ne c, upd_ne c]
theorem upd_swap {H : Hp} {a b : Addr} {o p : HO} (ne : a ≠ b) : upd (upd H a o) b p = upd (upd H b p) a o := funext fun c => by
  by_cases ca : c = a
  · rw [ca, upd_ne ne, upd_same, upd_same]
  · by_cases cb : c = b
    · rw [cb, upd_same, upd_ne (Ne.symm ne), upd_same]
    · rw [upd_ne cb, upd_ne ca, upd_ne ca, upd_ne cb]
theorem look0 {k : Str} {v : V} {r : List (Str × V)} : List.lookup k ((k, v) :: r) = some v := List.lookup_cons_self
theorem lookN {k g : Str} {v : V} {r : List (Str × V)} (ne : (k == g) = false) : List.lookup k ((g, v) :: r) = List.lookup k r := by
  simp only [List.lookup, ne]
theorem put0 {k : Str} {v x : V} {r : List (Str × V)} : putF k v ((k, x) :: r) = (k, v) :: r := if_pos rfl
theorem putN {k g : Str} {v x : V} {r : List (Str × V)} (ne : ¬ g = k) : putF k v ((g, x) :: r) = (g, x) :: putF k v r := if_neg ne
/-- raise X() -/
theorem pmk_bare {X : Cx} {C : Addr} {bmB : List Value} {B newId initId : String} {x : Str} {p q : Pos} (F : ExcBaseFacts B newId initId bmB) (isX : PySem.W.excIn X.K C bmB newId = true) (at_ : X.mg x = some (.ref C)) (keep : PySem.W.keepIn X.K (.ref C) = true) (r : Raises X (.ref C)) (gl : Gl X x)
    (nd : (x == ("__debug__" : Str)) = false := by decide) : PMk X (.Call (.Name x p) [] [] q) (fun _ H Q => Q (.ref C) none H) := by
  intro pins z σ H Q I want
  refine wpAny_Call_Name_kw (ld_glob I gl at_ (PySem.W.callWith_K0 I.kIn keep ?_) nd)
  show wpAny _ _ (call (.ref C) []) _ _ _
  obtain ⟨_, _, _, _, _, _, _, _, _, _, _, _, _, _, _, _, _, o1, o2, o3, tt⟩ := exc_obj I.kIn isX
  exact wpAny_call_exc_subT F tt o1 o2 o3 (fun h' e made => mk_of I made r want (I.hok.gone made.new)) (Nat.zero_le _)
/-! ### the text's classes -/
structure Ad where
  cR : Addr
  cE : Addr
  cC : Addr
  xL : Addr
  xN : Addr
  xM : Addr
  xS : Addr
  xU : Addr
/-- an own exception -/
structure XTxt (K : PySem.W.Frag) (mg : Str → Option Value) (x : Str) (C : Addr) : Prop where
  at_ : mg x = some (.ref C)
  is : PySem.W.excIn K C [.type "Exception", .type "BaseException", .type "object"] "Exception.__new__" = true
  keep : PySem.W.keepIn K (.ref C) = true
  sub : PySem.W.subIn K (.ref C) (.type "BaseException") = some true
  ty : PySem.W.typeIn K (.ref C) = some (.type "type")
structure Txt (K : PySem.W.Frag) (mg : Str → Option Value) (A : Ad) : Prop where
  blt : Blt mg
  reader : Cls K A.cR
  rNumbers : NoAttr K A.cR "numbers"
  rPlace : NoAttr K A.cR "place"
  rAt : mg "Reader" = some (.ref A.cR)
  entry : Cls K A.cE
  eKey : NoAttr K A.cE "key"
  eText : NoAttr K A.cE "text"
  eTrans : NoAttr K A.cE "translation"
  eSure : NoAttr K A.cE "sure"
  eSource : NoAttr K A.cE "source"
  eAt : mg "Entry" = some (.ref A.cE)
  cat : Cls K A.cC
  cEntries : NoAttr K A.cC "entries"
  cKept : NoAttr K A.cC "kept"
  cPast : NoAttr K A.cC "past"
  cAt : mg "Catalogue" = some (.ref A.cC)
  notLet : XTxt K mg "NotLet" A.xL
  noEntry : XTxt K mg "NoEntry" A.xN
  tooMuch : XTxt K mg "TooMuchKept" A.xM
  notSure : XTxt K mg "NotSure" A.xS
  nothing : XTxt K mg "NothingToUndo" A.xU
  mostWords : ∃ t, mg "MOST_WORDS" = some (.int 8 t)
  highWord : ∃ t, mg "HIGHEST_WORD" = some (.int 99 t)
  mostKeys : ∃ t, mg "MOST_KEYS" = some (.int 12 t)
  highKey : ∃ t, mg "HIGHEST_KEY" = some (.int 99 t)
  mostKept : ∃ t, mg "MOST_KEPT" = some (.int 30 t)
  same : ∃ t, mg "SAME" = some (.int 0 t)
  ours : ∃ t, mg "OURS_ALONE" = some (.int 1 t)
  theirs : ∃ t, mg "THEIRS_ALONE" = some (.int 2 t)
  both : ∃ t, mg "BOTH" = some (.int 3 t)
/-- raise of such a one -/
theorem XTxt.raises {X : Cx} {x : Str} {C : Addr} {p q : Pos} (T : XTxt X.K X.mg x C) (gl : Gl X x) (nd : (x == ("__debug__" : Str)) = false := by decide) : PMk X (.Call (.Name x p) [] [] q) (fun _ H Q => Q (.ref C) none H) :=
  pmk_bare PySem.F.excBase_Exception T.is T.at_ T.keep (raises_own T.sub T.ty) gl nd
/-! ### what may be changed, and what not -/
/-- what stands outside S -/
def Off (S : List Addr) (H : Hp) : Hp := fun b => if b ∈ S then none else H b
theorem Off.out {S : List Addr} {H : Hp} {b : Addr} {o : HO} (h : Off S H b = some o) : b ∉ S ∧ H b = some o := by
  unfold Off at h
  split at h
  · cases h
  · rename_i n
    exact ⟨n, h⟩
theorem Off.in_ {S : List Addr} {H : Hp} {b : Addr} {o : HO} (n : b ∉ S) (h : H b = some o) : Off S H b = some o := (if_neg n).trans h
/-- all but the things of S and the tables stays -/
def Mt (S : List Addr) (H H' : Hp) : Prop := ∀ b o, H b = some o → b ∉ S → (∀ ps, o ≠ .tbl ps) → H' b = some o
theorem Mt.rfl {S : List Addr} {H : Hp} : Mt S H H := fun _ _ e _ _ => e
theorem Mt.trans {S : List Addr} {H H1 H2 : Hp} (a : Mt S H H1) (b : Mt S H1 H2) : Mt S H H2 := fun c o e n t => b c o (a c o e n t) n t
theorem Mt.more {S R : List Addr} {H H' : Hp} (a : Mt S H H') (s : ∀ b ∈ S, b ∈ R) : Mt R H H' := fun c o e n t => a c o e (fun q => n (s c q)) t
theorem Mo.mt {S : List Addr} {H H' : Hp} (a : Mo S H H') : Mt S H H' := fun b o e n _ => a b o e n
theorem Mt.of {H H' : Hp} (a : ExtN H H') : Mt [] H H' := fun b o e _ t => a b o e t
theorem Mt.new {S : List Addr} {H : Hp} {p : Addr} {o : HO} (n : H p = none) : Mt S H (upd H p o) := (Mo.new n).mt
theorem Mt.put {S : List Addr} {H : Hp} {p : Addr} {o : HO} (m : p ∈ S) : Mt S H (upd H p o) := (Mo.put m).mt
/-- S changes and what is new in it -/
theorem Mt.cut {S : List Addr} {H H' : Hp} {p : Addr} (a : Mt (p :: S) H H') (n : H p = none) : Mt S H H' := fun b o e nb t => a b o e (fun q => (List.mem_cons.mp q).elim (fun q => by rw [q, n] at e; cases e) nb) t
theorem Mt.off {S : List Addr} {H H' : Hp} (a : Mt S H H') : ExtN (Off S H) (Off S H') := fun b o e t => Off.in_ (Off.out e).1 (a b o (Off.out e).2 (Off.out e).1 t)
theorem Off.sub {S : List Addr} {H : Hp} : ExtN (Off S H) H := fun b o e _ => (Off.out e).2
/-- one more to be left out, which is new -/
theorem Off.add {S : List Addr} {H : Hp} {p : Addr} {o : HO} (n : H p = none) : ExtN (Off S H) (Off (p :: S) (upd H p o)) := fun b x e _ => by
  have ne : b ≠ p := ne_of_none (Off.out e).2 n
  exact Off.in_ (fun q => (List.mem_cons.mp q).elim ne (Off.out e).1) ((upd_ne ne).trans (Off.out e).2)
theorem Off.less {S R : List Addr} {H : Hp} (s : ∀ b ∈ S, b ∈ R) : ExtN (Off R H) (Off S H) := fun b x e _ => Off.in_ (fun q => (Off.out e).1 (s b q)) (Off.out e).2
/-- all of S is there, and no table -/
def Trk (S : List Addr) (H : Hp) : Prop := ∀ b ∈ S, ∃ o, H b = some o ∧ ∀ ps, o ≠ .tbl ps
theorem Trk.new {S : List Addr} {H : Hp} {p : Addr} (t : Trk S H) (n : H p = none) : p ∉ S := fun q => by
  obtain ⟨o, e, _⟩ := t p q
  rw [n] at e
  cases e
theorem Trk.mt {S : List Addr} {H H' : Hp} (t : Trk S H) (m : Mt [] H H') : Trk S H' := fun b q => by
  obtain ⟨o, e, nt⟩ := t b q
  exact ⟨o, m b o e List.not_mem_nil nt, nt⟩
theorem Trk.add {S : List Addr} {H : Hp} {p : Addr} {o : HO} (t : Trk S H) (n : H p = none) (nt : ∀ ps, o ≠ .tbl ps) : Trk (p :: S) (upd H p o) := fun b q => by
  rcases List.mem_cons.mp q with rfl | q
  · exact ⟨o, upd_same, nt⟩
  · exact t.mt (Mt.new n) b q
theorem Trk.put {S : List Addr} {H : Hp} {p : Addr} {o : HO} (t : Trk S H) (nt : ∀ ps, o ≠ .tbl ps) : Trk S (upd H p o) := fun b q => by
  by_cases c : b = p
  · exact ⟨o, c ▸ upd_same, nt⟩
  · obtain ⟨x, e, r⟩ := t b q
    exact ⟨x, (upd_ne c).trans e, r⟩
theorem Trk.less {S R : List Addr} {H : Hp} (t : Trk R H) (s : ∀ b ∈ S, b ∈ R) : Trk S H := fun b q => t b (s b q)
theorem Off.new {S : List Addr} {H : Hp} {p : Addr} {o : HO} (t : Trk S H) (n : H p = none) : Off S (upd H p o) p = some o := Off.in_ (t.new n) upd_same
/-! ### entries -/
def srcV (e : Ut06.Entry) : V := if e.trans = [] ∨ e.sure = true then .non else .int (e.from_ : Nat)
def eF (e : Ut06.Entry) (a b : Addr) : List (Str × V) := [("key", .int (e.key : Nat)), ("text", .ref a), ("translation", .ref b), ("sure", .bl e.sure), ("source", srcV e)]
/-- the entry e lies at p -/
def EntAt (A : Ad) (G : Hp) (p : Addr) (e : Ut06.Entry) : Prop := ∃ dx a b, G p = some (.ins A.cE dx (eF e a b)) ∧ G a = some (.lst (iv e.text)) ∧ G b = some (.lst (iv e.trans))
theorem EntAt.ext {A : Ad} {G G' : Hp} {p : Addr} {e : Ut06.Entry} (x : ExtN G G') : EntAt A G p e → EntAt A G' p e := fun ⟨dx, a, b, h1, h2, h3⟩ => ⟨dx, a, b, x _ _ h1 (fun _ q => by cases q), x _ _ h2 (fun _ q => by cases q), x _ _ h3 (fun _ q => by cases q)⟩
abbrev AE := Addr × Ut06.Entry
def rf (z : AE) : V := .ref z.1
/-- the entries zs lie at their places -/
def Ents (A : Ad) (G : Hp) (zs : List AE) : Prop := ∀ z ∈ zs, EntAt A G z.1 z.2
theorem Ents.ext {A : Ad} {G G' : Hp} {zs : List AE} (x : ExtN G G') (h : Ents A G zs) : Ents A G' zs := fun z hz => (h z hz).ext x
/-- a list of the entries es lies at l -/
def ListAt (A : Ad) (G : Hp) (l : Addr) (es : List Ut06.Entry) : Prop := ∃ zs : List AE, zs.map (·.2) = es ∧ G l = some (.lst (zs.map rf)) ∧ Ents A G zs
theorem ListAt.ext {A : Ad} {G G' : Hp} {l : Addr} {es : List Ut06.Entry} (x : ExtN G G') : ListAt A G l es → ListAt A G' l es := fun ⟨zs, h1, h2, h3⟩ => ⟨zs, h1, x _ _ h2 (fun _ q => by cases q), h3.ext x⟩
theorem eF_key (e : Ut06.Entry) (a b : Addr) : (eF e a b).lookup ("key" : Str) = some (.int (e.key : Nat)) := look0
theorem eF_text (e : Ut06.Entry) (a b : Addr) : (eF e a b).lookup ("text" : Str) = some (.ref a) := (lookN (by decide +kernel)).trans look0
theorem eF_trans (e : Ut06.Entry) (a b : Addr) : (eF e a b).lookup ("translation" : Str) = some (.ref b) := (lookN (by decide +kernel)).trans ((lookN (by decide +kernel)).trans look0)
theorem eF_sure (e : Ut06.Entry) (a b : Addr) : (eF e a b).lookup ("sure" : Str) = some (.bl e.sure) := (lookN (by decide +kernel)).trans ((lookN (by decide +kernel)).trans ((lookN (by decide +kernel)).trans look0))
theorem eF_source (e : Ut06.Entry) (a b : Addr) : (eF e a b).lookup ("source" : Str) = some (srcV e) := (lookN (by decide +kernel)).trans ((lookN (by decide +kernel)).trans ((lookN (by decide +kernel)).trans ((lookN (by decide +kernel)).trans look0)))
/-! ### == of texts -/
theorem dp_text {K : PySem.W.Frag} {H : Hp} {a : Addr} {t : List Nat} (h : H a = some (.lst (iv t))) : Dp K H (.ref a) (.list ((cast t).map PyData.int)) := by
  refine .lst (SqL.of h) ?_
  unfold iv cast
  rw [List.map_map]
  have all : ∀ r : List Nat, DpAll K H (r.map fun n : Nat => V.int (n : Int)) (r.map (PyData.int ∘ fun n : Nat => (n : Int))) := fun r => by
    induction r with
    | nil => exact .nil
    | cons m r ih => exact .cons (.int _) ih
  exact all t
theorem shaped_text (t : List Nat) : SeqAt.shaped (.list ((cast t).map PyData.int)) = true := by
  exact PySem.W.shaped_ints _
theorem cast_inj {t u : List Nat} (h : cast t = cast u) : t = u := by
  unfold cast at h
  induction t generalizing u with
  | nil => cases u with
    | nil => rfl
    | cons _ _ => cases h
  | cons n r ih => cases u with
    | nil => cases h
    | cons m s =>
      obtain ⟨e, h⟩ := List.cons.inj h
      rw [ih h, Int.ofNat.inj e]
theorem eqv_text (t u : List Nat) : PyData.eqv (.list ((cast t).map PyData.int)) (.list ((cast u).map PyData.int)) = decide (t = u) := by
  have all : ∀ l m : List Int, PyData.eqvAll (l.map PyData.int) (m.map PyData.int) = decide (l = m) := fun l => by
    induction l with
    | nil => intro m; cases m with
      | nil => rfl
      | cons _ _ => rfl
    | cons n r ih => intro m; cases m with
      | nil => rfl
      | cons k s =>
        show (PyData.eqv (.int n) (.int k) && PyData.eqvAll (r.map PyData.int) (s.map PyData.int)) = _
        rw [ih]
        show (n == k && decide (r = s)) = _
        by_cases c1 : n = k <;> by_cases c2 : r = s <;> simp [c1, c2]
  show PyData.eqvAll _ _ = _
  rw [all]
  refine decide_eq_decide.mpr ⟨cast_inj, fun h => by rw [h]⟩
end Rd
/-! Reader. -/
namespace Rd
open PySem PySem.Spec PyProof.Rows L2 LamX NdefX
section
variable {mg : Str → Option Value} {P : Program} {base : Heap} {w : World} {K : PySem.W.Frag} {A : Ad}
abbrev sRInit : Stmt := inClass sReader 0
abbrev sRMore : Stmt := inClass sReader 1
abbrev sRNum : Stmt := inClass sReader 2
abbrev sRSev : Stmt := inClass sReader 3
abbrev sRText : Stmt := inClass sReader 4
def rF (n : Addr) (i : Nat) : List (Str × V) := [("numbers", .ref n), ("place", .int (i : Nat))]
theorem rF_n (n : Addr) (i : Nat) : (rF n i).lookup ("numbers" : Str) = some (.ref n) := look0
theorem rF_p (n : Addr) (i : Nat) : (rF n i).lookup ("place" : Str) = some (.int (i : Nat)) := (lookN (by decide +kernel)).trans look0
theorem rF_no {m : Str} (n : Addr) (i : Nat) (h1 : (m == ("numbers" : Str)) = false) (h2 : (m == ("place" : Str)) = false) : (rF n i).lookup m = none := (lookN h1).trans ((lookN h2).trans rfl)
theorem rF_put (n : Addr) (i j : Nat) {z : Int} (e : z = (j : Nat)) : putF "place" (.int z) (rF n i) = rF n j := by
  rw [e]
  exact (putN (by decide +kernel)).trans (congrArg _ put0)
theorem rF_new (n : Addr) : putF "place" (.int 0) (putF "numbers" (.ref n) []) = rF n 0 := (putN (by decide +kernel)).trans rfl
/-- what reads the numbers ns of the list at n, the next being at i, lies at r -/
abbrev RdAt (A : Ad) (H : Hp) (r dx n : Addr) (i : Nat) : Prop := H r = some (.ins A.cR dx (rF n i))
abbrev rO (A : Ad) (dx n : Addr) (i : Nat) : HO := .ins A.cR dx (rF n i)
def spRInit (A : Ad) : Sp := fun vs H Q _ => ∃ (r dx n : Addr), vs = [.ref r, .ref n] ∧ H r = some (.ins A.cR dx []) ∧ Q .non (upd H r (rO A dx n 0))
theorem scRInit : FnScope ["self", "numbers"] ["self", "numbers"] (defScope sRInit) := ⟨rfl, rfl, rfl, by decide +kernel, rfl, by decide +kernel, by decide +kernel⟩
theorem ok_rinit {f : Addr} {fd : FuncData} (F : Fun K "__init__" "Reader.__init__" sRInit f fd) (T : Txt K mg A) : FnOk P w K mg base CX0 1 f fd ["self", "numbers"] (spRInit A) := by
  refine F.ok scRInit (fun vs H Q E ⟨r, dx, n, e, _⟩ => by rw [e]; rfl) fun cdv B outer s H vs Q E hr ⟨r, dx, n, e, hr1, q⟩ => ?_
  subst e
  refine ⟨_, pss_cons (ps_fld (pv 0) (pv 1) rfl) (pss_one (ps_fld (pv 0) pe_int rfl)), ?_⟩
  refine ⟨_, rfl, _, rfl, r, A.cR, dx, _, rfl, hr1, T.reader, T.rNumbers, (by show 0 < 1000; decide), _, rfl, r, A.cR, dx, _, rfl, upd_same, T.reader, T.rPlace, (by show 1 < 1000; decide), ?_⟩
  rw [upd_twice, rF_new]
  exact q
def spRMore (A : Ad) (K : PySem.W.Frag) : Sp := fun vs H Q _ => ∃ (r dx n : Addr) (i : Nat) (ns : List Nat), vs = [.ref r] ∧ RdAt A H r dx n i ∧ SqL K H n (iv ns) ∧ Q (.bl (decide (i < ns.length))) H
theorem scRMore : FnScope ["self"] ["self"] (defScope sRMore) := ⟨rfl, rfl, rfl, by decide +kernel, rfl, by decide +kernel, by decide +kernel⟩
theorem ok_rmore {f : Addr} {fd : FuncData} (F : Fun K "has_more" "Reader.has_more" sRMore f fd) (T : Txt K mg A) : FnOk P w K mg base CX0 1 f fd ["self"] (spRMore A K) := by
  refine F.ok scRMore (fun vs H Q E ⟨r, dx, n, i, ns, e, _⟩ => by rw [e]; rfl) fun cdv B outer s H vs Q E hr ⟨r, dx, n, i, ns, e, hr1, hn, q⟩ => ?_
  subst e
  refine ⟨_, pss_one (ps_ret (pe_cmpR op_lt (pe_fld (pv 0) rfl) (pe_callB call_len_seq (by rfl) T.blt.len PySem.boot_len (pa_cons (pe_fld (pv 0) rfl) pa_nil)) (nomark _))), ?_⟩
  refine ⟨_, rfl, r, A.cR, dx, _, _, rfl, hr1, T.reader, T.rPlace, rF_p n i, _, rfl, r, A.cR, dx, _, _, rfl, hr1, T.reader, T.rNumbers, rF_n n i, n, _, rfl, .inl hn, _, _, rfl, rfl, ?_⟩
  have e : decide ((i : Int) < ((iv ns).length : Int)) = decide (i < ns.length) := by
    rw [iv_len]
    refine decide_eq_decide.mpr ?_
    omega
  exact (congrArg (fun z => Q (V.bl z) H) e).mpr q
def spRNum (A : Ad) (K : PySem.W.Frag) : Sp := fun vs H Q _ => ∃ (r dx n : Addr) (i : Nat) (ns : List Nat) (z : Nat), vs = [.ref r] ∧ RdAt A H r dx n i ∧ SqL K H n (iv ns) ∧ ns[i]? = some z ∧ Q (.int (z : Nat)) (upd H r (rO A dx n (i + 1)))
theorem scRNum : FnScope ["self", "number"] ["self"] (defScope sRNum) := ⟨rfl, rfl, rfl, by decide +kernel, rfl, by decide +kernel, by decide +kernel⟩
theorem ok_rnum {f : Addr} {fd : FuncData} (F : Fun K "read_number" "Reader.read_number" sRNum f fd) (T : Txt K mg A) : FnOk P w K mg base CX0 1 f fd ["self"] (spRNum A K) := by
  refine F.ok scRNum (fun vs H Q E ⟨r, dx, n, i, ns, z, e, _⟩ => by rw [e]; rfl) fun cdv B outer s H vs Q E hr ⟨r, dx, n, i, ns, z, e, hr1, hn, hz, q⟩ => ?_
  subst e
  refine ⟨_, pss_cons (ps_set (i := 1) scRNum.nd rfl (.inl rfl) (pe_ix ix_list (pe_fld (pv 0) rfl) (pe_fld (pv 0) rfl) (fun _ _ => rfl)))
    (pss_cons (ps_fldaug (pv 0) pe_int in_add) (pss_one (ps_ret (pv 1)))), ?_⟩
  refine ⟨_, rfl, r, A.cR, dx, _, _, rfl, hr1, T.reader, T.rNumbers, rF_n n i, _, rfl, r, A.cR, dx, _, _, rfl, hr1, T.reader, T.rPlace, rF_p n i, n, _, _, _, rfl, rfl, hn, atI_nat (iv_get hz), ?_⟩
  refine ⟨_, rfl, r, A.cR, dx, _, _, rfl, hr1, T.reader, T.rPlace, rF_p n i, _, _, rfl, rfl, _, _, hr1, (by show 2 < 1000; decide), _, rfl, ?_⟩
  rw [rF_put n i (i + 1) (by omega)]
  exact q
theorem cut_is (ns : List Nat) (i m : Nat) (h : i + m ≤ ns.length) {z : Int} (ez : z = (i : Int) + (m : Int)) : cutV (iv ns) (some (i : Int)) (some z) = iv ((ns.drop i).take m) := by
  rw [ez, show (i : Int) + (m : Int) = ((i + m : Nat) : Int) by omega]
  unfold cutV
  rw [HT.sIx_nat, HT.sIx_nat, iv_len, Nat.min_eq_left h, Nat.min_eq_left (show i ≤ ns.length by omega), Nat.add_sub_cancel_left]
  unfold iv
  rw [← List.map_drop, ← List.map_take]
def spRSev (A : Ad) (K : PySem.W.Frag) : Sp := fun vs H Q _ => ∃ (r dx n : Addr) (i : Nat) (ns : List Nat) (m : Nat), vs = [.ref r, .int (m : Nat)] ∧ RdAt A H r dx n i ∧ SqL K H n (iv ns) ∧ i + m ≤ ns.length ∧ ∀ p, H p = none → Q (.ref p) (upd (upd H p (.lst (iv ((ns.drop i).take m)))) r (rO A dx n (i + m)))
theorem scRSev : FnScope ["self", "many", "several"] ["self", "many"] (defScope sRSev) := ⟨rfl, rfl, rfl, by decide +kernel, rfl, by decide +kernel, by decide +kernel⟩
theorem ok_rsev {f : Addr} {fd : FuncData} (F : Fun K "read_several" "Reader.read_several" sRSev f fd) (T : Txt K mg A) : FnOk P w K mg base CX0 1 f fd ["self", "many"] (spRSev A K) := by
  refine F.ok scRSev (fun vs H Q E ⟨r, dx, n, i, ns, z, e, _⟩ => by rw [e]; rfl) fun cdv B outer s H vs Q E hr ⟨r, dx, n, i, ns, m, e, hr1, hn, hm, q⟩ => ?_
  subst e
  refine ⟨_, pss_cons (ps_set (i := 2) scRSev.nd rfl (.inl rfl) (pe_slice sl_list (pe_fld (pv 0) rfl) (po_some (pe_fld (pv 0) rfl)) (po_some (pe_op op_add (pe_fld (pv 0) rfl) (pv 1)))))
    (pss_cons (ps_fldaug (pv 0) (pv 1) in_add) (pss_one (ps_ret (pv 2)))), ?_⟩
  refine ⟨_, rfl, r, A.cR, dx, _, _, rfl, hr1, T.reader, T.rNumbers, rF_n n i, _, rfl, r, A.cR, dx, _, _, rfl, hr1, T.reader, T.rPlace, rF_p n i, _, rfl, _, rfl, r, A.cR, dx, _, _, rfl, hr1, T.reader, T.rPlace, rF_p n i, _, rfl, _, _, rfl, rfl, _, rfl, n, _, rfl, hn, fun p np => ?_⟩
  have hr2 : ∀ o, upd H p o r = some (rO A dx n i) := fun o => (upd_ne (ne_of_none hr1 np)).trans hr1
  refine ⟨_, rfl, r, A.cR, dx, _, _, rfl, hr2 _, T.reader, T.rPlace, rF_p n i, _, rfl, _, _, rfl, rfl, _, _, hr2 _, (by show 2 < 1000; decide), _, rfl, ?_⟩
  rw [rF_put n i (i + m) (by omega), cut_is ns i m hm rfl]
  exact q p np
/-! ### max(.., default=0) -/
def maxN (t : List Nat) : Nat := t.foldl max 0
theorem maxN_cons (n : Nat) (r : List Nat) : maxN (n :: r) = r.foldl max n := by
  show r.foldl max (max 0 n) = _
  rw [Nat.zero_max]
theorem maxN_le (t : List Nat) (b : Nat) : maxN t ≤ b ↔ ∀ x ∈ t, x ≤ b := by
  have gen : ∀ (t : List Nat) (m : Nat), t.foldl max m ≤ b ↔ m ≤ b ∧ ∀ x ∈ t, x ≤ b := fun t => by
    induction t with
    | nil => intro m; simp
    | cons n r ih =>
      intro m
      rw [List.foldl_cons, ih, Nat.max_le, List.forall_mem_cons, and_assoc]
  rw [maxN, gen]
  simp
theorem maxd_nil {t : List Nat} (e : t.map (fun n : Nat => (n : Int)) = []) : (0 : Int) = (maxN t : Nat) := by
  obtain rfl := List.map_eq_nil_iff.mp e
  rfl
theorem maxd_cons {t : List Nat} {n : Int} {r : List Int} (e : t.map (fun n : Nat => (n : Int)) = n :: r) : r.foldl max n = (maxN t : Nat) := by
  cases t with
  | nil => cases e
  | cons m s =>
    obtain ⟨rfl, rfl⟩ := List.cons.inj e
    have gen : ∀ (s : List Nat) (m : Nat), (s.map fun n : Nat => (n : Int)).foldl max (m : Int) = ((s.foldl max m : Nat) : Int) := fun s => by
      induction s with
      | nil => intro m; rfl
      | cons x s ih =>
        intro m
        rw [List.map_cons, List.foldl_cons]
        rw [List.foldl_cons, ← ih]
        congr 1
        omega
    rw [maxN_cons, gen]
/-! ### read_text -/
def spRText (A : Ad) (K : PySem.W.Frag) : Sp := fun vs H Q E => ∃ (r dx n : Addr) (i fw : Nat) (ns t rest : List Nat), vs = [.ref r, .int (fw : Nat)] ∧ RdAt A H r dx n i ∧ SqL K H n (iv ns) ∧ ns.drop i = t.length :: (t ++ rest) ∧
  (textGood fw t → ∀ p, H p = none → Q (.ref p) (upd (upd H p (.lst (iv t))) r (rO A dx n (i + 1 + t.length)))) ∧
  (¬ textGood fw t → ∀ H', Mo [r] H H' → E (.ref A.xL) none H')
theorem scRText : FnScope ["self", "fewest", "many", "words"] ["self", "fewest"] (defScope sRText) := ⟨rfl, rfl, rfl, by decide +kernel, rfl, by decide +kernel, by decide +kernel⟩
theorem drop_facts {ns t rest : List Nat} {i z : Nat} (h : ns.drop i = z :: (t ++ rest)) : ns[i]? = some z ∧ i + 1 + t.length ≤ ns.length ∧ (ns.drop (i + 1)).take t.length = t ∧ ns.drop (i + 1 + t.length) = rest := by
  have e1 : ns[i]? = some z := by
    have := congrArg (fun l => l[0]?) h
    simpa using this
  have e2 : ns.drop (i + 1) = t ++ rest := by
    have := congrArg List.tail h
    rw [List.tail_drop] at this
    exact this
  have e3 := congrArg List.length e2
  rw [List.length_drop, List.length_append] at e3
  have lt : i < ns.length := (List.getElem?_eq_some_iff.mp e1).1
  refine ⟨e1, by omega, by rw [e2]; simp, ?_⟩
  rw [← List.drop_drop, e2]
  simp
/-- a list is no instance: it stands where an instance alone is changed -/
theorem Mo.seqI {H H' : Hp} {n r C dx : Addr} {xs : List V} {fs : List (Str × V)} (a : Mo [r] H H') (hr : H r = some (.ins C dx fs)) (h : SqL K H n xs) : SqL K H' n xs := by
  have ne : ∀ o, H n = some o → (∀ C dx fs, o ≠ .ins C dx fs) → n ∉ [r] := fun o e no q => by
    rw [List.mem_singleton.mp q, hr] at e
    exact no _ _ _ (Option.some.inj e).symm
  rcases h with (e | ⟨o, e⟩) | e
  · exact .inl (.inl (a n _ e (ne _ e fun _ _ _ q => by cases q)))
  · exact .inl (.inr ⟨o, a n _ e (ne _ e fun _ _ _ q => by cases q)⟩)
  · exact .inr e
structure Rds (P : Program) (w : World) (K : PySem.W.Frag) (mg : Str → Option Value) (base : Heap) (A : Ad) : Prop where
  init : HeldC P w K mg base 1 A.cR ["self", "numbers"] (spRInit A)
  more : HeldM P w K mg base CX0 1 A.cR "has_more" ["self"] (spRMore A K)
  num : HeldM P w K mg base CX0 1 A.cR "read_number" ["self"] (spRNum A K)
  sev : HeldM P w K mg base CX0 1 A.cR "read_several" ["self", "many"] (spRSev A K)
theorem ok_rtext {f : Addr} {fd : FuncData} (F : Fun K "read_text" "Reader.read_text" sRText f fd) (T : Txt K mg A) (R : Rds P w K mg base A) : FnOk P w K mg base (L2.CX P w) 2 f fd ["self", "fewest"] (spRText A K) := by
  obtain ⟨fN, fdN, mN, bN, GN⟩ := R.num.ok
  obtain ⟨fS, fdS, mS, bS, GS⟩ := R.sev.ok
  obtain ⟨t8, h8⟩ := T.mostWords
  obtain ⟨t9, h9⟩ := T.highWord
  refine F.okX scRText (fun vs H Q E ⟨r, dx, n, i, fw, ns, t, rest, e, _⟩ => by rw [e]; rfl) fun cdv B outer s H vs Q E hr ⟨r, dx, n, i, fw, ns, t, rest, e, hr1, hn, hd, qT, qF⟩ => ?_
  subst e
  refine ⟨_, pss_cons (ps_set (i := 2) scRText.nd rfl (.inl rfl) (pe_meth0 (pv 0) T.reader mN GN hr bN .nil pass0))
    (pss_cons (ps_if (PW.pt (pw_or (pt_cmpR op_lt (pv 2) (pv 1) (nomark _)) (pw_or1 (pt_cmpR op_gt (pv 2) (pe_glob (v := .int 8) (by rfl) h8 ⟨_, rfl⟩) (nomark _))))) (pss_one (ps_raise rfl (takes_of rfl rfl rfl rfl) (T.notLet.raises (by rfl)))) pss_nil)
    (pss_cons (ps_set (i := 3) scRText.nd rfl (.inl rfl) (pe_meth (pv 0) T.reader mS GS hr bS .nil pass0 (pa_cons (pv 2) pa_nil)))
    (pss_cons (ps_if (pt_cmpR op_gt (pe_callBK (cr_maxd rfl hr) (by rfl) T.blt.max (by decide +kernel) (pa_cons (pv 3) pa_nil) (pk_cons pe_int pk_nil)) (pe_glob (v := .int 99) (by rfl) h9 ⟨_, rfl⟩) (nomark _)) (pss_one (ps_raise rfl (takes_of rfl rfl rfl rfl) (T.notLet.raises (by rfl)))) pss_nil)
    (pss_one (ps_ret (pv 3)))))), ?_⟩
  obtain ⟨d1, d2, d3, d4⟩ := drop_facts hd
  refine ⟨_, rfl, r, dx, _, rfl, hr1, rF_no n i (by decide +kernel) (by decide +kernel), r, dx, n, i, ns, _, rfl, hr1, hn, d1, ?_⟩
  have m1 : Mo [r] H (upd H r (rO A dx n (i + 1))) := Mo.put (List.mem_singleton.mpr rfl)
  have hn1 := m1.seqI hr1 hn
  refine ⟨_, rfl, _, rfl, _, _, rfl, rfl, _, rfl, ?_⟩
  by_cases c1 : t.length < fw
  · refine ifT (decide_eq_true (by omega)) ?_
    refine ifT rfl ?_
    exact qF (fun g => by have := g.1; omega) _ m1
  refine ifF (decide_eq_false (by omega)) ?_
  refine ⟨_, rfl, _, _, rfl, rfl, _, rfl, ?_⟩
  by_cases c2 : 8 < t.length
  · refine ifT (decide_eq_true (by omega)) ?_
    exact qF (fun g => by have := g.2.1; omega) _ m1
  refine ifF (decide_eq_false (by omega)) ?_
  refine ⟨_, rfl, r, dx, _, rfl, upd_same, rF_no n (i + 1) (by decide +kernel) (by decide +kernel), _, rfl, r, dx, n, i + 1, ns, t.length, rfl, upd_same, hn1, by omega, fun p np => ?_⟩
  rw [d3]
  have np1 : H p = none := by
    cases e : H p with
    | none => rfl
    | some o =>
      have ne : p ≠ r := fun q => by rw [q, upd_same] at np; cases np
      rw [upd_ne ne, e] at np
      cases np
  have ne : p ≠ r := Ne.symm (ne_of_none hr1 np1)
  have e2 : upd (upd (upd H r (rO A dx n (i + 1))) p (.lst (iv t))) r (rO A dx n (i + 1 + t.length)) = upd (upd H p (.lst (iv t))) r (rO A dx n (i + 1 + t.length)) := by
    rw [upd_swap (Ne.symm ne), upd_twice]
  rw [e2]
  have fin : ∀ M : Int, M = (maxN t : Nat) → ∃ x y, V.int M = .int x ∧ V.int 99 = .int y ∧ ∃ k, V.bl (decide (y < x)) = .bl k ∧ if k = true then E (.ref A.xL) none (upd (upd H p (.lst (iv t))) r (rO A dx n (i + 1 + t.length))) else ∃ v, some (some (V.ref p)) = some (some v) ∧ Q v (upd (upd H p (.lst (iv t))) r (rO A dx n (i + 1 + t.length))) := fun M hM => by
    refine ⟨_, _, rfl, rfl, _, rfl, ?_⟩
    by_cases c3 : maxN t ≤ 99
    · refine ifF (decide_eq_false (by omega)) ?_
      exact ⟨_, rfl, qT ⟨by omega, by omega, (maxN_le t 99).mp c3⟩ p np1⟩
    · refine ifT (decide_eq_true (by omega)) ?_
      exact qF (fun g => c3 ((maxN_le t 99).mpr g.2.2)) _ (Mo.trans (Mo.new np1) (Mo.put (List.mem_singleton.mpr rfl)))
  refine ⟨_, rfl, p, t.map (fun n : Nat => (n : Int)), .int 0, rfl, rfl, by rw [← iv_ints]; exact SqL.of ((upd_ne ne).trans upd_same), fun e => fin _ (maxd_nil e), fun a l e => fin _ (maxd_cons e)⟩
end
end Rd
/-! Entry, Catalogue. -/
namespace Rd
open PySem PySem.Spec PyProof.Rows L2 LamX NdefX
section
variable {mg : Str → Option Value} {P : Program} {base : Heap} {w : World} {K : PySem.W.Frag} {A : Ad}
abbrev sEInit : Stmt := inClass (top 20) 0
abbrev sCInit : Stmt := inClass (top 21) 0
abbrev sCRem : Stmt := inClass (top 21) 1
abbrev sCBack : Stmt := inClass (top 21) 2
abbrev sCKnown : Stmt := inClass (top 21) 3
abbrev sCOf : Stmt := inClass (top 21) 4
abbrev sCExch : Stmt := inClass (top 21) 5
abbrev sCIn : Stmt := inClass (top 21) 6
abbrev sCStands : Stmt := inClass (top 21) 7
/-! ### Entry(..) -/
def eV (k t tr s so : V) : List (Str × V) := [("key", k), ("text", t), ("translation", tr), ("sure", s), ("source", so)]
theorem eV1 (k : V) : putF "key" k [] = [(("key" : Str), k)] := rfl
theorem eV2 (k t : V) : putF "text" t [(("key" : Str), k)] = [(("key" : Str), k), ("text", t)] := (putN (by decide +kernel)).trans rfl
theorem eV3 (k t tr : V) : putF "translation" tr [(("key" : Str), k), ("text", t)] = [(("key" : Str), k), ("text", t), ("translation", tr)] := (putN (by decide +kernel)).trans (congrArg _ ((putN (by decide +kernel)).trans rfl))
theorem eV4 (k t tr s : V) : putF "sure" s [(("key" : Str), k), ("text", t), ("translation", tr)] = [(("key" : Str), k), ("text", t), ("translation", tr), ("sure", s)] := (putN (by decide +kernel)).trans (congrArg _ ((putN (by decide +kernel)).trans (congrArg _ ((putN (by decide +kernel)).trans rfl))))
theorem eV5 (k t tr s so : V) : putF "source" so [(("key" : Str), k), ("text", t), ("translation", tr), ("sure", s)] = eV k t tr s so := (putN (by decide +kernel)).trans (congrArg _ ((putN (by decide +kernel)).trans (congrArg _ ((putN (by decide +kernel)).trans (congrArg _ ((putN (by decide +kernel)).trans rfl))))))
def spEInit (A : Ad) : Sp := fun vs H Q _ => ∃ (r dx : Addr) (k t tr s so : V), vs = [.ref r, k, t, tr, s, so] ∧ H r = some (.ins A.cE dx []) ∧ Q .non (upd H r (.ins A.cE dx (eV k t tr s so)))
abbrev nE : List Str := ["self", "key", "text", "translation", "sure", "source"]
theorem scEInit : FnScope nE nE (defScope sEInit) := ⟨rfl, rfl, rfl, by decide +kernel, rfl, by decide +kernel, by decide +kernel⟩
theorem ok_einit {f : Addr} {fd : FuncData} (F : Fun K "__init__" "Entry.__init__" sEInit f fd) (T : Txt K mg A) : FnOk P w K mg base CX0 1 f fd nE (spEInit A) := by
  refine F.ok scEInit (fun vs H Q E ⟨r, dx, k, t, tr, s, so, e, _⟩ => by rw [e]; rfl) fun cdv B outer z H vs Q E hr ⟨r, dx, k, t, tr, s, so, e, hr1, q⟩ => ?_
  subst e
  refine ⟨_, pss_cons (ps_fld (pv 0) (pv 1) rfl) (pss_cons (ps_fld (pv 0) (pv 2) rfl) (pss_cons (ps_fld (pv 0) (pv 3) rfl) (pss_cons (ps_fld (pv 0) (pv 4) rfl) (pss_one (ps_fld (pv 0) (pv 5) rfl))))), ?_⟩
  refine ⟨_, rfl, _, rfl, r, A.cE, dx, _, rfl, hr1, T.entry, T.eKey, (by show 0 < 1000; decide), ?_⟩
  rw [eV1]
  refine ⟨_, rfl, _, rfl, r, A.cE, dx, _, rfl, upd_same, T.entry, T.eText, (by show 1 < 1000; decide), ?_⟩
  rw [eV2, upd_twice]
  refine ⟨_, rfl, _, rfl, r, A.cE, dx, _, rfl, upd_same, T.entry, T.eTrans, (by show 2 < 1000; decide), ?_⟩
  rw [eV3, upd_twice]
  refine ⟨_, rfl, _, rfl, r, A.cE, dx, _, rfl, upd_same, T.entry, T.eSure, (by show 3 < 1000; decide), ?_⟩
  rw [eV4, upd_twice]
  refine ⟨_, rfl, _, rfl, r, A.cE, dx, _, rfl, upd_same, T.entry, T.eSource, (by show 4 < 1000; decide), ?_⟩
  rw [eV5, upd_twice]
  exact q
/-- an entry newly made -/
theorem made_entry {S : List Addr} {H : Hp} {x dx ta tb : Addr} {e : Ut06.Entry} (t : Trk S H) (h1 : Off S H ta = some (.lst (iv e.text))) (h2 : Off S H tb = some (.lst (iv e.trans))) (nx : H x = none) (nd : H dx = none) (ne : dx ≠ x) {k tt tr s so : V} (hk : eV k tt tr s so = eF e ta tb) :
    Mo [] H (upd (upd (upd H dx (.own x)) x (.ins A.cE dx [])) x (.ins A.cE dx (eV k tt tr s so))) ∧ EntAt A (Off S (upd (upd (upd H dx (.own x)) x (.ins A.cE dx [])) x (.ins A.cE dx (eV k tt tr s so)))) x e := by
  rw [upd_twice, hk]
  have nx1 : upd H dx (.own x) x = none := (upd_ne (Ne.symm ne)).trans nx
  have m : Mo [] H (upd (upd H dx (.own x)) x (.ins A.cE dx (eF e ta tb))) := Mo.trans (Mo.new nd) (Mo.new nx1)
  have m2 := (m.more (T := S) (fun _ q => absurd q List.not_mem_nil)).mt.off
  exact ⟨m, dx, ta, tb, Off.in_ (t.new nx) upd_same, m2 _ _ h1 (fun _ q => by cases q), m2 _ _ h2 (fun _ q => by cases q)⟩
/-! ### Catalogue -/
def cF (e k p : Addr) : List (Str × V) := [("entries", .ref e), ("kept", .ref k), ("past", .ref p)]
theorem cF_e (e k p : Addr) : (cF e k p).lookup ("entries" : Str) = some (.ref e) := look0
theorem cF_k (e k p : Addr) : (cF e k p).lookup ("kept" : Str) = some (.ref k) := (lookN (by decide +kernel)).trans look0
theorem cF_p (e k p : Addr) : (cF e k p).lookup ("past" : Str) = some (.ref p) := (lookN (by decide +kernel)).trans ((lookN (by decide +kernel)).trans look0)
theorem cF_no {m : Str} (e k p : Addr) (h1 : (m == ("entries" : Str)) = false) (h2 : (m == ("kept" : Str)) = false) (h3 : (m == ("past" : Str)) = false) : (cF e k p).lookup m = none := (lookN h1).trans ((lookN h2).trans ((lookN h3).trans rfl))
theorem cF_pe (e k p e' : Addr) : putF "entries" (.ref e') (cF e k p) = cF e' k p := put0
theorem cF_pk (e k p k' : Addr) : putF "kept" (.ref k') (cF e k p) = cF e k' p := (putN (by decide +kernel)).trans (congrArg _ put0)
abbrev cO (A : Ad) (dx e k p : Addr) : HO := .ins A.cC dx (cF e k p)
theorem cF1 (e : V) : putF "entries" e [] = [(("entries" : Str), e)] := rfl
theorem cF2 (e k : V) : putF "kept" k [(("entries" : Str), e)] = [(("entries" : Str), e), ("kept", k)] := (putN (by decide +kernel)).trans rfl
theorem cF3 (e k p : Addr) : putF "past" (.ref p) [(("entries" : Str), .ref e), ("kept", .ref k)] = cF e k p := (putN (by decide +kernel)).trans (congrArg _ ((putN (by decide +kernel)).trans rfl))
def spCInit (A : Ad) : Sp := fun vs H Q _ => ∃ (c dx : Addr), vs = [.ref c] ∧ H c = some (.ins A.cC dx []) ∧ ∀ e k p H', Mo [c] H H' → H' c = some (cO A dx e k p) → H e = none → H k = none → H p = none → e ≠ p → k ≠ p → H' e = some (.lst []) → H' k = some (.lst []) → H' p = some (.lst []) → Q .non H'
theorem scCInit : FnScope ["self"] ["self"] (defScope sCInit) := ⟨rfl, rfl, rfl, by decide +kernel, rfl, by decide +kernel, by decide +kernel⟩
theorem ok_cinit {f : Addr} {fd : FuncData} (F : Fun K "__init__" "Catalogue.__init__" sCInit f fd) (T : Txt K mg A) : FnOk P w K mg base CX0 1 f fd ["self"] (spCInit A) := by
  refine F.ok scCInit (fun vs H Q E ⟨c, dx, e, _⟩ => by rw [e]; rfl) fun cdv B outer s H vs Q E hr ⟨c, dx, e, hc, q⟩ => ?_
  subst e
  refine ⟨_, pss_cons (ps_fld (pv 0) (pe_lst pa_nil) rfl) (pss_cons (ps_fld (pv 0) (pe_lst pa_nil) rfl) (pss_one (ps_fld (pv 0) (pe_lst pa_nil) rfl))), ?_⟩
  refine ⟨(show 0 ≤ sizeLine by decide), fun l1 n1 => ⟨_, rfl, c, A.cC, dx, _, rfl, (upd_ne (ne_of_none hc n1)).trans hc, T.cat, T.cEntries, (by show 0 < 1000; decide), ?_⟩⟩
  rw [cF1]
  have c1 : c ≠ l1 := ne_of_none hc n1
  refine ⟨(show 0 ≤ sizeLine by decide), fun l2 n2 => ⟨_, rfl, c, A.cC, dx, _, rfl, (upd_ne (ne_of_none upd_same n2)).trans upd_same, T.cat, T.cKept, (by show 1 < 1000; decide), ?_⟩⟩
  rw [cF2]
  have c2 : c ≠ l2 := ne_of_none upd_same n2
  rw [upd_ne (Ne.symm c2)] at n2
  have l12 : l1 ≠ l2 := ne_of_none upd_same n2
  rw [upd_ne (Ne.symm l12)] at n2
  refine ⟨(show 0 ≤ sizeLine by decide), fun l3 n3 => ⟨_, rfl, c, A.cC, dx, _, rfl, (upd_ne (ne_of_none upd_same n3)).trans upd_same, T.cat, T.cPast, (by show 2 < 1000; decide), ?_⟩⟩
  rw [cF3]
  have c3 : c ≠ l3 := ne_of_none upd_same n3
  rw [upd_ne (Ne.symm c3)] at n3
  have l23 : l2 ≠ l3 := ne_of_none upd_same n3
  rw [upd_ne (Ne.symm l23), upd_ne (Ne.symm c3)] at n3
  have l13 : l1 ≠ l3 := ne_of_none upd_same n3
  rw [upd_ne (Ne.symm l13)] at n3
  refine q l1 l2 l3 _ (fun b o e nb => ?_) upd_same n1 n2 n3 l13 l23 ?_ ?_ ?_
  · have bc : b ≠ c := fun z => nb (z ▸ List.mem_singleton.mpr rfl)
    rw [upd_ne bc, upd_ne (ne_of_none e n3), upd_ne bc, upd_ne (ne_of_none e n2), upd_ne bc, upd_ne (ne_of_none e n1)]
    exact e
  · rw [upd_ne (Ne.symm c1), upd_ne l13, upd_ne (Ne.symm c1), upd_ne l12, upd_ne (Ne.symm c1), upd_same]
  · rw [upd_ne (Ne.symm c2), upd_ne l23, upd_ne (Ne.symm c2), upd_same]
  · rw [upd_ne (Ne.symm c3), upd_same]
/-! ### remember, go_back -/
def spCRem (A : Ad) : Sp := fun vs H Q _ => ∃ (c dx e k p : Addr) (ps : List V), vs = [.ref c] ∧ H c = some (cO A dx e k p) ∧ H p = some (.lst ps) ∧ ps.length ≤ 1000 ∧ ∀ t, H t = none → Q .non (upd (upd H t (.tup [.ref e, .ref k])) p (.lst (ps ++ [.ref t])))
theorem scCRem : FnScope ["self"] ["self"] (defScope sCRem) := ⟨rfl, rfl, rfl, by decide +kernel, rfl, by decide +kernel, by decide +kernel⟩
theorem ok_crem {f : Addr} {fd : FuncData} (F : Fun K "remember" "Catalogue.remember" sCRem f fd) (T : Txt K mg A) : FnOk P w K mg base CX0 1 f fd ["self"] (spCRem A) := by
  refine F.ok scCRem (fun vs H Q E ⟨c, dx, e, k, p, ps, eq, _⟩ => by rw [eq]; rfl) fun cdv B outer s H vs Q E hr ⟨c, dx, e, k, p, ps, eq, hc, hp, small, q⟩ => ?_
  subst eq
  refine ⟨_, pss_one (ps_expr (pe_bm PySem.F.plainAttrs_list PySem.F.slot_list_append PySem.F.type_list_append mt_append (pe_fld (pv 0) rfl) (pa_cons (pe_tup (pa_cons (pe_fld (pv 0) rfl) (pa_cons (pe_fld (pv 0) rfl) pa_nil))) pa_nil))), ?_⟩
  refine ⟨_, rfl, c, A.cC, dx, _, _, rfl, hc, T.cat, T.cPast, cF_p e k p, .inl ⟨rfl, _, SqL.of hp⟩, _, rfl, c, A.cC, dx, _, _, rfl, hc, T.cat, T.cEntries, cF_e e k p, _, rfl, c, A.cC, dx, _, _, rfl, hc, T.cat, T.cKept, cF_k e k p, (show 2 ≤ sizeLine by decide), fun t nt => ?_⟩
  exact ⟨p, _, _, rfl, rfl, (upd_ne (ne_of_none hp nt)).trans hp, line (by omega), q t nt⟩
def spCBack (A : Ad) : Sp := fun vs H Q E => ∃ (c dx e k p : Addr) (ps : List V), vs = [.ref c] ∧ H c = some (cO A dx e k p) ∧ H p = some (.lst ps) ∧
  ((ps = [] ∧ E (.ref A.xU) none H) ∨ ∃ (l : List V) (t e' k' : Addr), ps = l ++ [.ref t] ∧ H t = some (.tup [.ref e', .ref k']) ∧ Q .non (upd (upd H p (.lst l)) c (cO A dx e' k' p)))
theorem scCBack : FnScope ["self", "before"] ["self"] (defScope sCBack) := ⟨rfl, rfl, rfl, by decide +kernel, rfl, by decide +kernel, by decide +kernel⟩
theorem ok_cback {f : Addr} {fd : FuncData} (F : Fun K "go_back" "Catalogue.go_back" sCBack f fd) (T : Txt K mg A) : FnOk P w K mg base (L2.CX P w) 1 f fd ["self"] (spCBack A) := by
  refine F.okX scCBack (fun vs H Q E ⟨c, dx, e, k, p, ps, eq, _⟩ => by rw [eq]; rfl) fun cdv B outer s H vs Q E hr ⟨c, dx, e, k, p, ps, eq, hc, hp, q⟩ => ?_
  subst eq
  refine ⟨_, pss_cons (ps_if (pt_not (pt_truth (pe_fld (pv 0) rfl) (by intro _; rfl))) (pss_one (ps_raise rfl (takes_of rfl rfl rfl rfl) (T.nothing.raises (by rfl)))) pss_nil)
    (pss_cons (ps_set (i := 1) scCBack.nd rfl (.inl rfl) (pe_bm0 PySem.F.plainAttrs_list PySem.F.slot_list_pop PySem.F.type_list_pop mt_pop (pe_fld (pv 0) rfl)))
    (pss_cons (ps_fld (pv 0) (pe_ix ix_tup (pv 1) pe_int (fun _ _ => rfl)) rfl) (pss_one (ps_fld (pv 0) (pe_ix ix_tup (pv 1) pe_int (fun _ _ => rfl)) rfl)))), ?_⟩
  refine ⟨_, rfl, c, A.cC, dx, _, _, rfl, hc, T.cat, T.cPast, cF_p e k p, _, .inl ⟨_, SqL.of hp, rfl⟩, ?_⟩
  rcases q with ⟨rfl, q⟩ | ⟨l, t, e', k', rfl, ht, q⟩
  · exact q
  · refine ifF (by rw [show (l ++ [V.ref t]).isEmpty = false by simp]; rfl) ?_
    have cp : c ≠ p := ne_of hc hp (by intro z; cases z)
    have tp : t ≠ p := ne_of ht hp (by intro z; cases z)
    have tc : t ≠ c := ne_of ht hc (by intro z; cases z)
    refine ⟨_, rfl, c, A.cC, dx, _, _, rfl, hc, T.cat, T.cPast, cF_p e k p, .inl ⟨rfl, _, SqL.of hp⟩, p, _, .ref t, rfl, rfl, hp, by simp, ?_⟩
    rw [List.dropLast_concat]
    refine ⟨_, rfl, t, _, _, _, rfl, rfl, SqT.of ((upd_ne tp).trans ht), atI_nat (j := 0) rfl, _, rfl, c, A.cC, dx, _, rfl, (upd_ne cp).trans hc, T.cat, T.cEntries, (by show 3 < 1000; decide), ?_⟩
    rw [cF_pe]
    refine ⟨_, rfl, t, _, _, _, rfl, rfl, SqT.of ((upd_ne tc).trans ((upd_ne tp).trans ht)), atI_nat (j := 1) rfl, _, rfl, c, A.cC, dx, _, rfl, upd_same, T.cat, T.cKept, (by show 3 < 1000; decide), ?_⟩
    rw [cF_pk, upd_twice]
    exact q
/-! ### known -/
theorem rf_get {zs : List AE} {i : Nat} {v : V} (h : (zs.map rf)[i]? = some v) : ∃ z, zs[i]? = some z ∧ v = rf z ∧ z ∈ zs := by
  rw [List.getElem?_map] at h
  cases e : zs[i]? with
  | none =>
    rw [e] at h
    cases h
  | some z => rw [e] at h; exact ⟨z, rfl, (Option.some.inj h).symm, List.mem_of_getElem? e⟩
theorem take_next {β : Type} {m : List β} {j : Nat} {y : β} (at_ : m[j]? = some y) : m.take (j + 1) = m.take j ++ [y] := by
  rw [List.take_add_one, at_]
  rfl
def spCKnown (A : Ad) : Sp := fun vs H Q _ => ∃ (c dx e k p : Addr) (zs : List AE) (ks : List V), vs = [.ref c] ∧ H c = some (cO A dx e k p) ∧ H e = some (.lst (zs.map rf)) ∧ Ents A H zs ∧ H k = some (.lst ks) ∧ zs.length ≤ 1000 ∧ ks.length ≤ 1000 ∧
  ∀ l H', Mo [] H H' → H l = none → H' l = some (.lst ((zs.filter fun z => z.2.sure).map rf ++ ks)) → Q (.ref l) H'
theorem scCKnown : FnScope ["self", "entry"] ["self"] (defScope sCKnown) := ⟨rfl, rfl, rfl, by decide +kernel, rfl, by decide +kernel, by decide +kernel⟩
theorem ok_cknown {f : Addr} {fd : FuncData} (F : Fun K "known" "Catalogue.known" sCKnown f fd) (T : Txt K mg A) : FnOk P w K mg base CX0 1 f fd ["self"] (spCKnown A) := by
  refine F.ok scCKnown (fun vs H Q E ⟨c, dx, e, k, p, zs, ks, eq, _⟩ => by rw [eq]; rfl) fun cdv B outer s H vs Q E hr ⟨c, dx, e, k, p, zs, ks, eq, hc, he, ents, hk, l1, l2, q⟩ => ?_
  subst eq
  refine ⟨_, pss_one (ps_ret (pe_op op_cat (pe_lc (own := [("entry", 1)]) (g := gName 1) (tt := tB (tFld K (tVar 1) "sure")) (te := tVar 1) rfl scCKnown.nd (pi_list (pe_fld (pv 0) rfl)) (blkOk_by (N := ["self", "entry"]) (sc := defScope sCKnown) (by decide +kernel))
    (fun _ _ _ _ _ => pg_name (i := 1) scCKnown.nd rfl (Or.inl rfl)) (fun _ _ _ _ _ => pts_one (pt_val (pe_fld (pv 1) rfl))) (fun _ _ _ _ _ => pv 1)) (pe_fld (pv 0) rfl))), ?_⟩
  refine ⟨_, rfl, c, A.cC, dx, _, _, rfl, hc, T.cat, T.cEntries, cF_e e k p, e, rfl, ⟨_, SqL.of he⟩, fun D nD => lc_list (K := K) (a := e) (xs := zs.map rf) (fun i G => G = upd H D (.lst (((zs.take i).filter fun z => z.2.sure).map rf))) rfl (fun i G _ eG => by rw [eG]; exact SqL.of ((upd_ne (ne_of_none he nD)).trans he)) ?_ ?_⟩
  · rintro i v G hv rfl
    obtain ⟨z, hz, rfl, mz⟩ := rf_get hv
    obtain ⟨dz, ta, tb, hz1, _, _⟩ := ents z mz
    refine ⟨rfl, _, rfl, z.1, A.cE, dz, _, _, rfl, (upd_ne (ne_of_none hz1 nD)).trans hz1, T.entry, T.eSure, eF_sure z.2 ta tb, _, rfl, ?_⟩
    cases sz : z.2.sure with
    | true =>
      refine ifT rfl ⟨_, rfl, _, upd_same, ?_, ?_⟩
      · have := List.length_filter_le (fun z : AE => z.2.sure) (zs.take i)
        rw [List.length_take] at this
        exact line (by rw [List.length_map]; omega)
      · rw [upd_twice, take_next hz, List.filter_append, List.map_append, List.filter_cons_of_pos (by simpa using sz)]
        rfl
    | false =>
      refine ifF rfl ?_
      rw [take_next hz, List.filter_append, List.filter_cons_of_neg (by simpa using sz)]
      simp
  · rintro G rfl
    rw [List.length_map, List.take_length]
    have cD := ne_of_none hc nD
    have kD := ne_of_none hk nD
    refine ⟨_, rfl, c, A.cC, dx, _, _, rfl, (upd_ne cD).trans hc, T.cat, T.cKept, cF_k e k p, D, k, _, _, rfl, rfl, upd_same, (upd_ne kD).trans hk, ?_, fun l nl => ?_⟩
    · have := List.length_filter_le (fun z : AE => z.2.sure) zs
      have := (show (2000000 : Nat) ≤ sizeLine by decide +kernel)
      rw [List.length_map]
      omega
    · exact q l _ (Mo.trans (Mo.new nD) (Mo.new nl)) ((Mo.new (S := []) nD).free nl) upd_same
end
end Rd
/-! entry_of, is_shown, not_shown, exchange, stands. -/
namespace Rd
open PySem PySem.Spec PyProof.Rows L2 LamX NdefX
section
variable {mg : Str → Option Value} {P : Program} {base : Heap} {w : World} {K : PySem.W.Frag} {A : Ad}
theorem int_nat {a b : Nat} : (V.int (a : Int) = V.int (b : Int)) ↔ a = b := ⟨fun h => by injection h with h; omega, fun h => by rw [h]⟩
theorem find_take {α : Type} {p : α → Bool} {l : List α} {i : Nat} {x : α} (h : l[i]? = some x) (no : ∀ y ∈ l.take i, p y = false) (yes : p x = true) : l.find? p = some x := by
  have cut : l = l.take i ++ x :: l.drop (i + 1) := by
    have e : l.drop i = x :: l.drop (i + 1) := by
      obtain ⟨lt, e⟩ := List.getElem?_eq_some_iff.mp h
      rw [List.drop_eq_getElem_cons lt, e]
    rw [← e, List.take_append_drop]
  rw [cut, List.find?_append, List.find?_eq_none.mpr (fun y hy => by rw [no y hy]; exact Bool.false_ne_true), List.find?_cons_of_pos yes]
  rfl
theorem find_mapS {zs : List AE} {p : Ut06.Entry → Bool} {e : Ut06.Entry} (h : (zs.map (·.2)).find? p = some e) : ∃ a, zs.find? (fun z => p z.2) = some (a, e) ∧ (a, e) ∈ zs := by
  rw [List.find?_map] at h
  cases q : zs.find? (p ∘ fun x => x.2) with
  | none => rw [q] at h; cases h
  | some z =>
    rw [q] at h
    cases h
    exact ⟨z.1, q, List.mem_of_find?_eq_some q⟩
/-! ### entry_of -/
def spCOf (A : Ad) : Sp := fun vs H Q E => ∃ (c dx e k p : Addr) (zs : List AE) (n : Nat), vs = [.ref c, .int (n : Nat)] ∧ H c = some (cO A dx e k p) ∧ H e = some (.lst (zs.map rf)) ∧ Ents A H zs ∧
  (Ut06.entryOf (zs.map (·.2)) n = none → E (.ref A.xN) none H) ∧ ∀ a x, Ut06.entryOf (zs.map (·.2)) n = some x → (a, x) ∈ zs → Q (.ref a) H
theorem scCOf : FnScope ["self", "key", "entry"] ["self", "key"] (defScope sCOf) := ⟨rfl, rfl, rfl, by decide +kernel, rfl, by decide +kernel, by decide +kernel⟩
theorem ok_cof {f : Addr} {fd : FuncData} (F : Fun K "entry_of" "Catalogue.entry_of" sCOf f fd) (T : Txt K mg A) : FnOk P w K mg base (L2.CX P w) 1 f fd ["self", "key"] (spCOf A) := by
  refine F.okX scCOf (fun vs H Q E ⟨c, dx, e, k, p, zs, n, eq, _⟩ => by rw [eq]; rfl) fun cdv B outer s H vs Q E hr ⟨c, dx, e, k, p, zs, n, eq, hc, he, ents, qN, qS⟩ => ?_
  subst eq
  refine ⟨_, pss_cons (ps_for (passes_of rfl) rfl (pi_list (pe_fld (pv 0) rfl)) (pg_name (i := 2) scCOf.nd rfl (.inl rfl)) (pss_one (ps_if (pt_cmpR op_eq (pe_fld (pv 2) rfl) (pv 1) (nomark _)) (pss_one (ps_ret (pv 2))) pss_nil)))
    (pss_one (ps_raise rfl (takes_of rfl rfl rfl rfl) (T.noEntry.raises (by rfl)))), ?_⟩
  refine ⟨_, rfl, c, A.cC, dx, _, _, rfl, hc, T.cat, T.cEntries, cF_e e k p, e, rfl, ⟨_, SqL.of he⟩, for_list (K := K) (a := e) (xs := zs.map rf) (fun i σ G => G = H ∧ (∃ v, σ = [some (.ref c), some (.int (n : Nat)), v]) ∧ ∀ z ∈ zs.take i, z.2.key ≠ n) ⟨rfl, ⟨none, rfl⟩, by simp⟩
    (fun i σ G _ ⟨eG, _⟩ => by rw [eG]; exact SqL.of he) ?_ ?_⟩
  · rintro i v σ G hv ⟨rfl, ⟨o, rfl⟩, no⟩
    obtain ⟨z, hz, rfl, mz⟩ := rf_get hv
    obtain ⟨dz, ta, tb, hz1, _, _⟩ := ents z mz
    refine ⟨_, rfl, z.1, A.cE, dz, _, _, rfl, hz1, T.entry, T.eKey, eF_key z.2 ta tb, _, rfl, rfl, _, rfl, ?_⟩
    by_cases cz : z.2.key = n
    · refine ifT (decide_eq_true (int_nat.mpr cz)) ⟨_, rfl, ?_⟩
      refine qS z.1 z.2 ?_ mz
      have : zs.find? (fun z => z.2.key == n) = some z := find_take hz (fun y hy => by simpa using no y hy) (by simpa using cz)
      unfold Ut06.entryOf
      rw [List.find?_map, show ((fun e : Ut06.Entry => e.key == n) ∘ fun x : AE => x.2) = fun z => z.2.key == n from rfl, this]
      rfl
    · refine ifF (decide_eq_false fun q => cz (int_nat.mp q)) ?_
      refine ⟨rfl, ⟨_, rfl⟩, fun y hy => ?_⟩
      rw [take_next hz, List.mem_append] at hy
      rcases hy with hy | hy
      · exact no y hy
      · rw [List.mem_singleton.mp hy]; exact cz
  · rintro σ G ⟨rfl, _, no⟩
    rw [List.length_map, List.take_length] at no
    refine qN ?_
    unfold Ut06.entryOf
    rw [List.find?_eq_none]
    intro x hx
    obtain ⟨z, hz, rfl⟩ := List.mem_map.mp hx
    simpa using no z hz
/-! ### is_shown -/
abbrev sShown : Stmt := top 22
abbrev sNotShown : Stmt := top 23
def spShown (A : Ad) : Sp := fun vs H Q _ => ∃ (o l : Addr) (x : Ut06.Entry) (zs : List AE), vs = [.ref o, .ref l] ∧ EntAt A H o x ∧ H l = some (.lst (zs.map rf)) ∧ Ents A H zs ∧ Q (.bl (shown (zs.map (·.2)) (toK x))) H
theorem scShown : FnScope ["one", "entries", "entry"] ["one", "entries"] (defScope sShown) := ⟨rfl, rfl, rfl, by decide +kernel, rfl, by decide +kernel, by decide +kernel⟩
theorem ok_shown {f : Addr} {fd : FuncData} (F : Fun K "is_shown" "is_shown" sShown f fd) (T : Txt K mg A) : FnOk P w K mg base CX0 1 f fd ["one", "entries"] (spShown A) := by
  refine F.ok scShown (fun vs H Q E ⟨o, l, x, zs, eq, _⟩ => by rw [eq]; rfl) fun cdv B outer s H vs Q E hr ⟨o, l, x, zs, eq, ⟨do_, oa, ob, ho, hoa, hob⟩, hl, ents, q⟩ => ?_
  subst eq
  refine ⟨_, pss_cons (ps_for PassesOwn.never rfl (pi_list (pv 1)) (pg_name (i := 2) scShown.nd rfl (.inl rfl)) (pss_one (ps_if (PW.pt (pw_and (pt_val (pe_fld (pv 2) rfl)) (pw_and (pt_cmpR op_eq (pe_fld (pv 2) rfl) (pe_fld (pv 0) rfl) (nomark _)) (pw_and1 (pt_cmpR (op_eqD hr.units) (pe_fld (pv 2) rfl) (pe_fld (pv 0) rfl) (nomark _)))))) (pss_one (ps_ret pe_bl)) pss_nil)))
    (pss_one (ps_ret pe_bl)), ?_⟩
  refine ⟨_, rfl, l, rfl, ⟨_, SqL.of hl⟩, for_list (K := K) (a := l) (xs := zs.map rf) (fun i σ G => G = H ∧ (∃ v, σ = [some (.ref o), some (.ref l), v]) ∧ shown ((zs.take i).map (·.2)) (toK x) = false) ⟨rfl, ⟨none, rfl⟩, rfl⟩
    (fun i σ G _ ⟨eG, _⟩ => by rw [eG]; exact SqL.of hl) ?_ ?_⟩
  · rintro i v σ G hv ⟨rfl, ⟨v, rfl⟩, no⟩
    obtain ⟨z, hz, rfl, mz⟩ := rf_get hv
    obtain ⟨dz, ta, tb, hz1, hza, hzb⟩ := ents z mz
    have yes : z.2.sure = true → z.2.key = x.key → z.2.text = x.text → Q (.bl true) G := fun a b c => by
      have : shown (zs.map (·.2)) (toK x) = true := shown_iff.mpr ⟨z.2, List.mem_map.mpr ⟨z, mz, rfl⟩, a, b, c⟩
      rw [this] at q
      exact q
    have nope : ¬ (z.2.sure = true ∧ z.2.key = x.key ∧ z.2.text = x.text) → G = G ∧ (∃ v, [some (V.ref o), some (V.ref l), some (rf z)] = [some (V.ref o), some (V.ref l), v]) ∧ shown ((zs.take (i + 1)).map (·.2)) (toK x) = false := fun h => by
      refine ⟨rfl, ⟨_, rfl⟩, ?_⟩
      rw [take_next hz, List.map_append]
      unfold shown at no ⊢
      rw [List.any_append, no]
      show (z.2.sure && (z.2.key == x.key && z.2.text == x.text) || false) = false
      cases q1 : (z.2.sure && (z.2.key == x.key && z.2.text == x.text)) with
      | false => rfl
      | true =>
        simp only [Bool.and_eq_true, beq_iff_eq] at q1
        exact (h q1).elim
    refine ⟨_, rfl, z.1, A.cE, dz, _, _, rfl, hz1, T.entry, T.eSure, eF_sure z.2 ta tb, _, rfl, ?_⟩
    cases cs : z.2.sure with
    | false => exact ifF rfl (ifF rfl (nope fun h => by rw [cs] at h; cases h.1))
    | true =>
      refine ifT rfl ?_
      refine ⟨_, rfl, z.1, A.cE, dz, _, _, rfl, hz1, T.entry, T.eKey, eF_key z.2 ta tb, _, rfl, o, A.cE, do_, _, _, rfl, ho, T.entry, T.eKey, eF_key x oa ob, rfl, _, rfl, ?_⟩
      by_cases ck : z.2.key = x.key
      · refine ifT (decide_eq_true (int_nat.mpr ck)) ?_
        refine ⟨_, rfl, z.1, A.cE, dz, _, _, rfl, hz1, T.entry, T.eText, eF_text z.2 ta tb, _, rfl, o, A.cE, do_, _, _, rfl, ho, T.entry, T.eText, eF_text x oa ob, _, _, dp_text hza, dp_text hoa, shaped_text _, shaped_text _, _, rfl, ?_⟩
        rw [eqv_text]
        by_cases ct : z.2.text = x.text
        · exact ifT (decide_eq_true ct) (yes cs ck ct)
        · exact ifF (decide_eq_false ct) (nope fun h => ct h.2.2)
      · exact ifF (decide_eq_false fun q => ck (int_nat.mp q)) (ifF rfl (nope fun h => ck h.2.1))
  · rintro σ G ⟨rfl, _, no⟩
    rw [List.length_map, List.take_length] at no
    rw [no] at q
    exact q
/-! ### not_shown -/
abbrev hid (zs : List AE) (y : AE) : Bool := !shown (zs.map (·.2)) (toK y.2)
def spNotShown (A : Ad) : Sp := fun vs H Q _ => ∃ (m l : Addr) (ys zs : List AE), vs = [.ref m, .ref l] ∧ H m = some (.lst (ys.map rf)) ∧ Ents A H ys ∧ ys.length ≤ 1000 ∧ H l = some (.lst (zs.map rf)) ∧ Ents A H zs ∧ ∀ p, H p = none → Q (.ref p) (upd H p (.lst ((ys.filter (hid zs)).map rf)))
abbrev n3 : List Str := ["several", "entries", "one"]
theorem scNotShown : FnScope n3 ["several", "entries"] (defScope sNotShown) := ⟨rfl, rfl, rfl, by decide +kernel, rfl, by decide +kernel, by decide +kernel⟩
theorem Ents.upd {H : Hp} {zs : List AE} {p : Addr} {o : HO} (h : Ents A H zs) (n : H p = none) : Ents A (upd H p o) zs := h.ext (fun b x e _ => (upd_ne (ne_of_none e n)).trans e)
theorem EntAt.upd {H : Hp} {a p : Addr} {o : HO} {e : Ut06.Entry} (h : EntAt A H a e) (n : H p = none) : EntAt A (L2.upd H p o) a e := h.ext (fun b x q _ => (upd_ne (ne_of_none q n)).trans q)
theorem ok_notshown {f : Addr} {fd : FuncData} (F : Fun K "not_shown" "not_shown" sNotShown f fd) (T : Txt K mg A) (GS : Held P w K mg base CX0 1 "is_shown" ["one", "entries"] (spShown A)) : FnOk P w K mg base CX0 2 f fd ["several", "entries"] (spNotShown A) := by
  obtain ⟨fS, fdS, mS, kS, bS, GS⟩ := GS
  refine F.ok scNotShown (fun vs H Q E ⟨m, l, ys, zs, eq, _⟩ => by rw [eq]; rfl) fun cdv B outer s H vs Q E hr ⟨m, l, ys, zs, eq, hm, eys, small, hl, ezs, q⟩ => ?_
  subst eq
  refine ⟨_, pss_one (ps_ret (pe_lc (own := [("one", 2)]) (g := gName 2) (tt := tNot (tB (tCall (spShown A) [] E0 (tCons (tVar 2) (tCons (tVar 1) tNil))))) (te := tVar 2) rfl scNotShown.nd (pi_list (pv 0)) (blkOk_by (N := n3) (sc := defScope sNotShown) (by decide +kernel))
    (fun _ _ _ _ _ => pg_name (i := 2) scNotShown.nd rfl (Or.inl rfl)) (fun _ _ _ _ _ => pts_one (pt_not (pt_val (pe_call GS hr (by rfl) mS kS bS .nil pass0 (pa_cons (pv 2) (pa_cons (pv 1) pa_nil)))))) (fun _ _ _ _ _ => pv 2))), ?_⟩
  refine ⟨_, rfl, m, rfl, ⟨_, SqL.of hm⟩, fun D nD => lc_list (K := K) (a := m) (xs := ys.map rf) (fun i G => G = upd H D (.lst (((ys.take i).filter (hid zs)).map rf))) rfl (fun i G _ eG => by rw [eG]; exact SqL.of ((upd_ne (ne_of_none hm nD)).trans hm)) ?_ ?_⟩
  · rintro i v G hv rfl
    obtain ⟨z, hz, rfl, mz⟩ := rf_get hv
    refine ⟨rfl, _, rfl, _, rfl, z.1, l, z.2, zs, rfl, (eys z mz).upd nD, (upd_ne (ne_of_none hl nD)).trans hl, ezs.upd nD, _, rfl, ?_⟩
    cases sz : shown (zs.map (·.2)) (toK z.2) with
    | false =>
      refine ifT rfl ⟨_, rfl, _, upd_same, ?_, ?_⟩
      · have := List.length_filter_le (hid zs) (ys.take i)
        rw [List.length_take] at this
        exact line (by rw [List.length_map]; omega)
      · rw [upd_twice, take_next hz, List.filter_append, List.map_append, List.filter_cons_of_pos (by show (!shown _ _) = true; rw [sz]; rfl)]
        rfl
    | true =>
      refine ifF rfl ?_
      rw [take_next hz, List.filter_append, List.filter_cons_of_neg (by show ¬ (!shown _ _) = true; rw [sz]; exact Bool.false_ne_true)]
      simp
  · rintro G rfl
    rw [List.length_map, List.take_length]
    exact q D nD
/-! ### exchange -/
/-- the entry x at a in the place of the one with its key -/
def exchZ (zs : List AE) (a : Addr) (x : Ut06.Entry) : List AE := zs.map fun z => if z.2.key = x.key then (a, x) else z
theorem exchZ_snd (zs : List AE) (a : Addr) (x : Ut06.Entry) : (exchZ zs a x).map (·.2) = exch (zs.map (·.2)) x := by
  unfold exchZ exch
  rw [List.map_map]
  rw [List.map_map]
  refine List.map_congr_left fun z _ => ?_
  show (if z.2.key = x.key then (a, x) else z).2 = if z.2.key = x.key then x else z.2
  split <;> rfl
theorem exchZ_ents {G : Hp} {zs : List AE} {a : Addr} {x : Ut06.Entry} (h : Ents A G zs) (hx : EntAt A G a x) : Ents A G (exchZ zs a x) := fun z hz => by
  obtain ⟨y, hy, rfl⟩ := List.mem_map.mp hz
  by_cases c : y.2.key = x.key
  · rw [if_pos c]; exact hx
  · rw [if_neg c]; exact h y hy
def spCExch (A : Ad) : Sp := fun vs H Q _ => ∃ (c dx e k p o : Addr) (zs ys : List AE) (x : Ut06.Entry), vs = [.ref c, .ref o] ∧ H c = some (cO A dx e k p) ∧ H e = some (.lst (zs.map rf)) ∧ Ents A H zs ∧ zs.length ≤ 1000 ∧ H k = some (.lst (ys.map rf)) ∧ Ents A H ys ∧ ys.length ≤ 1000 ∧ EntAt A H o x ∧
  ∀ e' k', H e' = none → H k' = none → e' ≠ k' → Q .non (upd (upd (upd H e' (.lst ((exchZ zs o x).map rf))) k' (.lst ((ys.filter (hid (exchZ zs o x))).map rf))) c (cO A dx e' k' p))
abbrev nX : List Str := ["self", "changed", "entry"]
theorem scCExch : FnScope nX ["self", "changed"] (defScope sCExch) := ⟨rfl, rfl, rfl, by decide +kernel, rfl, by decide +kernel, by decide +kernel⟩
theorem ok_cexch {f : Addr} {fd : FuncData} (F : Fun K "exchange" "Catalogue.exchange" sCExch f fd) (T : Txt K mg A) (GN : Held P w K mg base CX0 2 "not_shown" ["several", "entries"] (spNotShown A)) : FnOk P w K mg base CX0 3 f fd ["self", "changed"] (spCExch A) := by
  obtain ⟨fN, fdN, mN, kN, bN, GN⟩ := GN
  refine F.ok scCExch (fun vs H Q E ⟨c, dx, e, k, p, o, zs, ys, x, eq, _⟩ => by rw [eq]; rfl) fun cdv B outer s H vs Q E hr ⟨c, dx, e, k, p, o, zs, ys, x, eq, hc, he, ezs, lz, hk, eys, ly, hx, q⟩ => ?_
  subst eq
  refine ⟨_, pss_cons (ps_fld (pv 0) (pe_lc (own := [("entry", 2)]) (g := gName 2) (tt := tYes) (te := tIf (tTest (tOp rEq (tFld K (tVar 2) "key") (tFld K (tVar 1) "key"))) (tVar 1) (tVar 2)) rfl scCExch.nd (pi_list (pe_fld (pv 0) rfl)) (blkOk_by (N := nX) (sc := defScope sCExch) (by decide +kernel))
    (fun _ _ _ _ _ => pg_name (i := 2) scCExch.nd rfl (Or.inl rfl)) (fun _ _ _ _ _ => pts_nil) (fun _ _ _ _ _ => pe_ifExp (pt_cmpR op_eq (pe_fld (pv 2) rfl) (pe_fld (pv 1) rfl) (nomark _)) (pv 1) (pv 2))) rfl)
    (pss_one (ps_fld (pv 0) (pe_call GN hr (by rfl) mN kN bN .nil pass0 (pa_cons (pe_fld (pv 0) rfl) (pa_cons (pe_fld (pv 0) rfl) pa_nil))) rfl)), ?_⟩
  refine ⟨_, rfl, c, A.cC, dx, _, _, rfl, hc, T.cat, T.cEntries, cF_e e k p, e, rfl, ⟨_, SqL.of he⟩, fun D nD => lc_list (K := K) (a := e) (xs := zs.map rf) (fun i G => G = upd H D (.lst ((exchZ (zs.take i) o x).map rf))) rfl (fun i G _ eG => by rw [eG]; exact SqL.of ((upd_ne (ne_of_none he nD)).trans he)) ?_ ?_⟩
  · rintro i v G hv rfl
    obtain ⟨z, hz, rfl, mz⟩ := rf_get hv
    obtain ⟨dz, ta, tb, hz1, _, _⟩ := (ezs z mz).upd (o := .lst ((exchZ (zs.take i) o x).map rf)) nD
    obtain ⟨dO, oa, ob, ho1, _, _⟩ := hx.upd (o := .lst ((exchZ (zs.take i) o x).map rf)) nD
    have fin : ∀ v : V, v = rf (if z.2.key = x.key then (o, x) else z) → ∃ acc, upd H D (.lst ((exchZ (zs.take i) o x).map rf)) D = some (.lst acc) ∧ acc.length < sizeLine ∧ upd (upd H D (.lst ((exchZ (zs.take i) o x).map rf))) D (.lst (acc ++ [v])) = upd H D (.lst ((exchZ (zs.take (i + 1)) o x).map rf)) := fun v hv => by
      refine ⟨_, upd_same, line ?_, ?_⟩
      · unfold exchZ
        rw [List.length_map, List.length_map, List.length_take]
        omega
      · rw [upd_twice, take_next hz, hv]
        unfold exchZ
        rw [List.map_append, List.map_append]
        rfl
    refine ⟨rfl, _, rfl, z.1, A.cE, dz, _, _, rfl, hz1, T.entry, T.eKey, eF_key z.2 ta tb, _, rfl, o, A.cE, dO, _, _, rfl, ho1, T.entry, T.eKey, eF_key x oa ob, rfl, _, rfl, ?_⟩
    by_cases ck : z.2.key = x.key
    · refine ifT (decide_eq_true (int_nat.mpr ck)) ⟨_, rfl, fin _ ?_⟩
      rw [if_pos ck]
      rfl
    · refine ifF (decide_eq_false fun q => ck (int_nat.mp q)) ⟨_, rfl, fin _ ?_⟩
      rw [if_neg ck]
  · rintro G rfl
    rw [List.length_map, List.take_length]
    have cD := ne_of_none hc nD
    refine ⟨_, rfl, c, A.cC, dx, _, rfl, (upd_ne cD).trans hc, T.cat, T.cEntries, (by show 3 < 1000; decide), ?_⟩
    rw [cF_pe]
    have kD := ne_of_none hk nD
    have ck : k ≠ c := ne_of hk hc (by intro z; cases z)
    have gc : ∀ {a : Addr} {y : Ut06.Entry}, EntAt A H a y → EntAt A (upd (upd H D (.lst ((exchZ zs o x).map rf))) c (cO A dx D k p)) a y := fun {a y} ⟨d1, t1, t2, h1, h2, h3⟩ => by
      refine ⟨d1, t1, t2, ?_, ?_, ?_⟩
      · refine (upd_ne fun q => ?_).trans ((upd_ne (ne_of_none h1 nD)).trans h1)
        rw [q, hc] at h1
        have := Option.some.inj h1
        injection this with e1 e2 e3
        exact absurd (congrArg List.length e3) (by show ¬ 3 = 5; decide)
      · exact (upd_ne (ne_of h2 hc (by intro z; cases z))).trans ((upd_ne (ne_of_none h2 nD)).trans h2)
      · exact (upd_ne (ne_of h3 hc (by intro z; cases z))).trans ((upd_ne (ne_of_none h3 nD)).trans h3)
    have eD : Ents A (upd (upd H D (.lst ((exchZ zs o x).map rf))) c (cO A dx D k p)) (exchZ zs o x) := exchZ_ents (fun z hz => gc (ezs z hz)) (gc hx)
    refine ⟨_, rfl, c, A.cC, dx, _, _, rfl, upd_same, T.cat, T.cKept, cF_k D k p, _, rfl, c, A.cC, dx, _, _, rfl, upd_same, T.cat, T.cEntries, cF_e D k p, k, D, ys, exchZ zs o x, rfl, (upd_ne ck).trans ((upd_ne kD).trans hk), fun y hy => gc (eys y hy), ly, (upd_ne (Ne.symm cD)).trans upd_same, eD, fun k' nk => ?_⟩
    have kc : k' ≠ c := Ne.symm (ne_of_none upd_same nk)
    rw [upd_ne kc] at nk
    have kD2 : D ≠ k' := ne_of_none upd_same nk
    rw [upd_ne (Ne.symm kD2)] at nk
    refine ⟨_, rfl, c, A.cC, dx, _, rfl, (upd_ne (Ne.symm kc)).trans upd_same, T.cat, T.cKept, (by show 3 < 1000; decide), ?_⟩
    rw [cF_pk, upd_swap (Ne.symm kc), upd_twice]
    exact q D k' nD nk kD2
end
end Rd
/-! stands. -/
namespace Rd
open PySem PySem.Spec PyProof.Rows L2 LamX NdefX
section
variable {mg : Str → Option Value} {P : Program} {base : Heap} {w : World} {K : PySem.W.Frag} {A : Ad}
/-- the list of those of zs that pass t, as a comprehension leaves it -/
theorem filter_step {H : Hp} {D : Addr} {zs : List AE} {t : AE → Bool} {i : Nat} {z : AE} (small : zs.length ≤ 1000) (hz : zs[i]? = some z) :
    (t z = true → ∃ acc, upd H D (.lst (((zs.take i).filter t).map rf)) D = some (.lst acc) ∧ acc.length < sizeLine ∧ upd (upd H D (.lst (((zs.take i).filter t).map rf))) D (.lst (acc ++ [rf z])) = upd H D (.lst (((zs.take (i + 1)).filter t).map rf))) ∧
    (t z = false → upd H D (.lst (((zs.take i).filter t).map rf)) = upd H D (.lst (((zs.take (i + 1)).filter t).map rf))) := by
  constructor
  · intro h
    refine ⟨_, upd_same, line ?_, ?_⟩
    · have := List.length_filter_le t (zs.take i)
      rw [List.length_take] at this
      rw [List.length_map]
      omega
    · rw [upd_twice, take_next hz, List.filter_append, List.map_append, List.filter_cons_of_pos h]
      rfl
  · intro h
    rw [take_next hz, List.filter_append, List.filter_cons_of_neg (by rw [h]; exact Bool.false_ne_true)]
    simp
abbrev unsure (z : AE) : Bool := !z.2.sure && !z.2.trans.isEmpty
def toldV (zs : List AE) (n : Nat) : List V := [.int (zs.length : Nat), .int ((zs.filter fun z => z.2.sure).length : Nat), .int ((zs.filter unsure).length : Nat), .int (n : Nat)]
def spCStands (A : Ad) : Sp := fun vs H Q _ => ∃ (c dx e k p : Addr) (zs : List AE) (ks : List V), vs = [.ref c] ∧ H c = some (cO A dx e k p) ∧ H e = some (.lst (zs.map rf)) ∧ Ents A H zs ∧ H k = some (.lst ks) ∧ zs.length ≤ 1000 ∧ ks.length ≤ 1000 ∧
  ∀ l H', Mo [] H H' → H l = none → H' l = some (.lst (toldV zs ks.length)) → Q (.ref l) H'
abbrev nS : List Str := ["self", "sure", "unsure", "entry"]
theorem scCStands : FnScope nS ["self"] (defScope sCStands) := ⟨rfl, rfl, rfl, by decide +kernel, rfl, by decide +kernel, by decide +kernel⟩
theorem ok_cstands {f : Addr} {fd : FuncData} (F : Fun K "stands" "Catalogue.stands" sCStands f fd) (T : Txt K mg A) : FnOk P w K mg base CX0 1 f fd ["self"] (spCStands A) := by
  refine F.ok scCStands (fun vs H Q E ⟨c, dx, e, k, p, zs, ks, eq, _⟩ => by rw [eq]; rfl) fun cdv B outer s H vs Q E hr ⟨c, dx, e, k, p, zs, ks, eq, hc, he, ents, hk, l1, l2, q⟩ => ?_
  subst eq
  refine ⟨_, pss_cons (ps_setLc (i := 1) (own := [("entry", 3)]) (g := gName 3) (tt := tB (tFld K (tVar 3) "sure")) (te := tVar 3) rfl scCStands.nd rfl rfl (sw_true rfl rfl rfl (by decide +kernel)) (pi_list (pe_fld (pv 0) rfl)) (blkOk_by (N := nS) (sc := defScope sCStands) (by decide +kernel))
      (fun _ _ _ _ _ => pg_name (i := 3) scCStands.nd rfl (Or.inl rfl)) (fun _ _ _ _ _ => pts_one (pt_val (pe_fld (pv 3) rfl))) (fun _ _ _ _ _ => pv 3))
    (pss_cons (ps_setLc (i := 2) (own := [("entry", 3)]) (g := gName 3) (tt := tAnd (tNot (tB (tFld K (tVar 3) "sure"))) (fun σ H Q => tFld K (tVar 3) "translation" σ H fun x H' => ∃ k, TruV K x H' k ∧ Q k H')) (te := tVar 3) rfl scCStands.nd rfl rfl (sw_true rfl rfl rfl (by decide +kernel)) (pi_list (pe_fld (pv 0) rfl)) (blkOk_by (N := nS) (sc := defScope sCStands) (by decide +kernel))
      (fun _ _ _ _ _ => pg_name (i := 3) scCStands.nd rfl (Or.inl rfl)) (fun _ _ _ _ _ => pts_one (PW.pt (pw_and (pt_not (pt_val (pe_fld (pv 3) rfl))) (pw_and1 (pt_truth (pe_fld (pv 3) rfl) (by intro _; rfl)))))) (fun _ _ _ _ _ => pv 3))
    (pss_one (ps_ret (pe_lst (pa_cons (pe_callB call_len_seq (by rfl) T.blt.len PySem.boot_len (pa_cons (pe_fld (pv 0) rfl) pa_nil)) (pa_cons (pe_callB call_len_seq (by rfl) T.blt.len PySem.boot_len (pa_cons (pv 1) pa_nil)) (pa_cons (pe_callB call_len_seq (by rfl) T.blt.len PySem.boot_len (pa_cons (pv 2) pa_nil)) (pa_cons (pe_callB call_len_seq (by rfl) T.blt.len PySem.boot_len (pa_cons (pe_fld (pv 0) rfl) pa_nil)) pa_nil)))))))), ?_⟩
  refine ⟨_, rfl, c, A.cC, dx, _, _, rfl, hc, T.cat, T.cEntries, cF_e e k p, e, rfl, ⟨_, SqL.of he⟩, fun D nD => lc_list (K := K) (a := e) (xs := zs.map rf) (fun i G => G = upd H D (.lst (((zs.take i).filter fun z => z.2.sure).map rf))) rfl (fun i G _ eG => by rw [eG]; exact SqL.of ((upd_ne (ne_of_none he nD)).trans he)) ?_ ?_⟩
  · rintro i v G hv rfl
    obtain ⟨z, hz, rfl, mz⟩ := rf_get hv
    obtain ⟨dz, ta, tb, hz1, _, _⟩ := ents z mz
    have st := filter_step (H := H) (D := D) (t := fun z => z.2.sure) l1 hz
    refine ⟨rfl, _, rfl, z.1, A.cE, dz, _, _, rfl, (upd_ne (ne_of_none hz1 nD)).trans hz1, T.entry, T.eSure, eF_sure z.2 ta tb, _, rfl, ?_⟩
    cases sz : z.2.sure with
    | true => exact ifT rfl ⟨_, rfl, st.1 sz⟩
    | false => exact ifF rfl (st.2 sz)
  rintro G rfl
  rw [List.length_map, List.take_length]
  have m1 : Mo [] H (upd H D (.lst ((zs.filter fun z => z.2.sure).map rf))) := Mo.new nD
  have hc1 := m1.at hc
  have he1 := m1.at he
  have hD1 : upd H D (.lst ((zs.filter fun z => z.2.sure).map rf)) D = some (.lst ((zs.filter fun z => z.2.sure).map rf)) := upd_same
  have ents1 : Ents A (upd H D (.lst ((zs.filter fun z => z.2.sure).map rf))) zs := ents.upd nD
  generalize upd H D (.lst ((zs.filter fun z => z.2.sure).map rf)) = H1 at m1 hc1 he1 hD1 ents1 ⊢
  refine ⟨_, rfl, c, A.cC, dx, _, _, rfl, hc1, T.cat, T.cEntries, cF_e e k p, e, rfl, ⟨_, SqL.of he1⟩, fun D2 nD2 => lc_list (K := K) (a := e) (xs := zs.map rf) (fun i G => G = upd H1 D2 (.lst (((zs.take i).filter unsure).map rf))) rfl (fun i G _ eG => by rw [eG]; exact SqL.of ((upd_ne (ne_of_none he1 nD2)).trans he1)) ?_ ?_⟩
  · rintro i v G hv rfl
    obtain ⟨z, hz, rfl, mz⟩ := rf_get hv
    obtain ⟨dz, ta, tb, hz1, hza, hzb⟩ := ents1 z mz
    have st := filter_step (H := H1) (D := D2) (t := unsure) l1 hz
    refine ⟨rfl, _, rfl, z.1, A.cE, dz, _, _, rfl, (upd_ne (ne_of_none hz1 nD2)).trans hz1, T.entry, T.eSure, eF_sure z.2 ta tb, _, rfl, ?_⟩
    cases sz : z.2.sure with
    | true => exact ifF rfl (ifF rfl (st.2 (by show (!z.2.sure && _) = false; rw [sz]; rfl)))
    | false =>
      refine ifT rfl ?_
      refine ⟨_, rfl, z.1, A.cE, dz, _, _, rfl, (upd_ne (ne_of_none hz1 nD2)).trans hz1, T.entry, T.eTrans, eF_trans z.2 ta tb, !z.2.trans.isEmpty, .inl ⟨_, SqL.of ((upd_ne (ne_of_none hzb nD2)).trans hzb), ?_⟩, ?_⟩
      · unfold iv
        rw [List.isEmpty_map]
      · cases cz : z.2.trans.isEmpty with
        | true => exact ifF rfl (st.2 (by show (!z.2.sure && !z.2.trans.isEmpty) = false; rw [sz, cz]; rfl))
        | false => exact ifT rfl ⟨_, rfl, st.1 (by show (!z.2.sure && !z.2.trans.isEmpty) = true; rw [sz, cz]; rfl)⟩
  rintro G rfl
  rw [List.length_map, List.take_length]
  have m2 : Mo [] H1 (upd H1 D2 (.lst ((zs.filter unsure).map rf))) := Mo.new nD2
  have m := m1.trans m2
  refine ⟨_, rfl, c, A.cC, dx, _, _, rfl, m2.at hc1, T.cat, T.cEntries, cF_e e k p, e, _, rfl, .inl (SqL.of (m2.at he1)), _, rfl, D, _, rfl, .inl (SqL.of (m2.at hD1)), _, rfl, D2, _, rfl, .inl (SqL.of upd_same), _, rfl, c, A.cC, dx, _, _, rfl, m2.at hc1, T.cat, T.cKept, cF_k e k p, k, _, rfl, .inl (SqL.of (m.at hk)), (show 4 ≤ sizeLine by decide), fun l nl => ?_⟩
  refine q l _ (m.trans (Mo.new nl)) (m.free nl) (upd_same.trans ?_)
  rw [List.length_map, List.length_map, List.length_map]
  rfl
end
end Rd
/-! best_known. -/
namespace Rd
open PySem PySem.Spec PyProof.Rows L2 LamX NdefX
section
variable {mg : Str → Option Value} {P : Program} {base : Heap} {w : World} {K : PySem.W.Frag} {A : Ad}
abbrev sBest : Stmt := top 24
abbrev nB : List Str := ["several", "key", "text", "same_text", "same_key", "near", "one"]
theorem scBest : FnScope nB ["several", "key", "text"] (defScope sBest) := ⟨rfl, rfl, rfl, by decide +kernel, rfl, by decide +kernel, by decide +kernel⟩
/-- as Fun.ok, the code object known -/
theorem okCode {x qual : Str} {st : Stmt} {f : Addr} {fd : FuncData} {N ps : List Str} {k : Nat} {sp : Sp} (F : Fun K x qual st f fd) (S : FnScope N ps (defScope st)) (len : ∀ vs H Q E, sp vs H Q E → vs.length = ps.length)
    (body : ∀ (B : Around) (outer : List Env) (z : Shared) (H : Hp) (vs : List V) (Q : VK) (E : XK), Room k (B.deeper (envOfC qual (defScope st) z.heap.objs.size f fd.code)) → sp vs H Q E →
      ∃ t, PSs (cxOf CX0 P w K mg base N qual (defScope st) f fd.code B outer z H E).nox (defBody st) t ∧ t { nx := fun _ G => Q .non G, rt := Q } (start N vs) H) : FnOk P w K mg base CX0 (k + 1) f fd ps sp := by
  obtain ⟨_, _, _, _, _, _, cdv, _, _, rfl, at_, code⟩ := F.ex
  refine fn_of at_ code S len fun B outer z H vs Q E room want => ?_
  obtain ⟨t, text, read⟩ := body B outer z H vs Q E room want
  exact ⟨t, text.nox, read⟩
/-! ### the least of a row -/
abbrev kOf (z : AE) : Ut06.Kept := toK z.2
theorem least_next {f : Ut06.Kept → Ut06.Kept → Bool} {l : List Ut06.Kept} {j : Nat} {x y : Ut06.Kept} (h : leastBy f (l.take (j + 1)) = some y) (hx : l[j + 1]? = some x) : leastBy f (l.take (j + 2)) = some (if f x y = true then x else y) := by
  rw [take_next hx]
  cases e : l.take (j + 1) with
  | nil => rw [e] at h; cases h
  | cons m r =>
    rw [e] at h
    have h := Option.some.inj h
    show some ((r ++ [x]).foldl _ m) = _
    rw [List.foldl_append, h]
    rfl
theorem least_first {f : Ut06.Kept → Ut06.Kept → Bool} {l : List Ut06.Kept} {x : Ut06.Kept} (h : l[0]? = some x) : leastBy f (l.take 1) = some x := by
  cases l with
  | nil => cases h
  | cons m r =>
    cases h
    rfl
/-! ### the two keys -/
def spKey1 (A : Ad) : List (Option V) → Sp := fun ws vs H Q _ => ∃ (a : Addr) (e : Ut06.Entry), vs = [.ref a] ∧ EntAt A H a e ∧ Q (.int (e.key : Nat)) H
def spKey2 (A : Ad) : List (Option V) → Sp := fun ws vs H Q _ => ∃ (a b : Addr) (e : Ut06.Entry) (t : List Nat), ws = [some (.ref b)] ∧ vs = [.ref a] ∧ EntAt A H a e ∧ H b = some (.lst (iv t)) ∧ e.text.length ≤ 8 ∧ t.length ≤ 8 ∧
  ∀ p G, Mo [] H G → H p = none → G p = some (.tup [.int (Ut06.distance e.text t : Nat), .int (e.key : Nat)]) → Q (.ref p) G
/-- what best_known is told, what it gives -/
def spBest (A : Ad) (TT : List (Addr × Str)) : Sp := fun vs H Q _ => ∃ (m b : Addr) (zs : List AE) (k : Nat) (t : List Nat), vs = [.ref m, .int (k : Nat), .ref b] ∧ H m = some (.lst (zs.map rf)) ∧ Ents A H zs ∧ zs.length ≤ 1000 ∧ (∀ z ∈ zs, z.2.text.length ≤ 8) ∧ H b = some (.lst (iv t)) ∧ t.length ≤ 8 ∧ Tabs TT H ∧
  ∀ G, Mt [] H G → Tabs TT G → (best (zs.map kOf) k t = none → Q .non G) ∧ ∀ z ∈ zs, best (zs.map kOf) k t = some (kOf z) → Q (rf z) G
def qLam : Str := (envOfC "best_known" (defScope sBest) 0 0 .none).qual ++ "<lambda>"
theorem Mt.at {H G : Hp} (m : Mt [] H G) {b : Addr} {o : HO} (e : H b = some o) (nt : ∀ ps, o ≠ .tbl ps) : G b = some o := m b o e List.not_mem_nil nt
theorem Mt.lst {H G : Hp} (m : Mt [] H G) {b : Addr} {xs : List V} (e : H b = some (.lst xs)) : G b = some (.lst xs) := m.at e (fun _ q => by cases q)
theorem Mt.ents {H G : Hp} (m : Mt [] H G) {zs : List AE} (h : Ents A H zs) : Ents A G zs := h.ext fun b o e t => m.at e t
theorem Mt.ent {H G : Hp} (m : Mt [] H G) {a : Addr} {e : Ut06.Entry} (h : EntAt A H a e) : EntAt A G a e := h.ext fun b o e t => m.at e t
theorem Mt.code {H G : Hp} (m : Mt [] H G) {c : Addr} {q : Str} (h : H c = some (CodeO c q)) : G c = some (CodeO c q) := m.at h (fun _ z => by unfold CodeO at z; cases z)
theorem Mo.tabs {H G : Hp} (m : Mo [] H G) {TT : List (Addr × Str)} (t : Tabs TT H) : Tabs TT G := t.ext fun b o e => m.at e
abbrev ltKey (x y : Ut06.Kept) : Bool := decide (x.key < y.key)
/-- min by the key alone -/
theorem min1 {X : Cx} {mk : Addr → NF} {c a : Addr} {σ : L2.St} {H : Hp} {Q : VK} {fz : List AE} {TT : List (Addr × Str)} (hX : X.K = K) (qm : (mk c).qual = qLam) (code : H c = some (CodeO c qLam)) (hl : H a = some (.lst (fz.map rf))) (ents : Ents A H fz) (tabs : Tabs TT H)
    (q : ∀ z ∈ fz, leastBy ltKey (fz.map kOf) = some (kOf z) → Q (rf z) H) :
    ∃ W, MinW X (tKey mk [] (spKey1 A) c σ) a (fz.map rf) Q W ∧ ∀ y, (fz.map rf)[0]? = some y → tKey mk [] (spKey1 A) c σ y H fun ky H' => W 0 H' y ky := by
  refine ⟨fun j G b kb => G = H ∧ ∃ z ∈ fz, b = rf z ∧ kb = .int (z.2.key : Nat) ∧ leastBy ltKey ((fz.map kOf).take (j + 1)) = some (kOf z), ⟨fun {j G b kb} ⟨eG, _⟩ => by rw [eG]; exact SqL.of hl, fun {j G b kb} ⟨eG, z, mz, eb, _, le⟩ big => ?_, fun {j G b kb y} ⟨eG, z, mz, eb, ek, le⟩ hy => ?_⟩, fun y hy => ?_⟩
  · rw [eb, eG]
    rw [List.length_map] at big
    rw [List.take_of_length_le (by rw [List.length_map]; exact big)] at le
    exact q z mz le
  · subst eG
    obtain ⟨x, hx, rfl, mx⟩ := rf_get hy
    have nx := least_next le (show (fz.map kOf)[j + 1]? = some (kOf x) by rw [List.getElem?_map, hx]; rfl)
    refine ⟨by rw [qm]; exact code, x.1, x.2, rfl, ents x mx, _, .inl ⟨_, _, rfl, ek, rfl⟩, fun h => ?_, fun h => ?_⟩
    · have lt := of_decide_eq_true h
      rw [if_pos (decide_eq_true (by show x.2.key < z.2.key; omega))] at nx
      exact ⟨rfl, x, mx, rfl, rfl, nx⟩
    · have lt := of_decide_eq_false h
      rw [if_neg (by show ¬ decide (x.2.key < z.2.key) = true; rw [decide_eq_true_eq]; omega)] at nx
      exact ⟨rfl, z, mz, eb, ek, nx⟩
  · obtain ⟨x, hx, rfl, mx⟩ := rf_get hy
    exact ⟨by rw [qm]; exact code, x.1, x.2, rfl, ents x mx, rfl, x, mx, rfl, rfl, least_first (by rw [List.getElem?_map, hx]; rfl)⟩
theorem lex_pair (a b c d : Nat) : HT.lexLt [(a : Int), (b : Int)] [(c : Int), (d : Int)] = decide (a < c ∨ (a = c ∧ b < d)) := by
  rw [HT.lexLt_cons, HT.lexLt_cons, HT.lexLt_nil_nil]
  by_cases h2 : a = c
  · subst h2
    rw [if_pos rfl]
    by_cases h3 : b = d
    · subst h3
      rw [if_pos rfl]
      exact Eq.symm (decide_eq_false (by omega))
    · rw [if_neg (by omega)]
      refine decide_eq_decide.mpr ?_
      omega
  · rw [if_neg (by omega)]
    refine decide_eq_decide.mpr ?_
    omega
/-- min by how far, then by the key -/
theorem min2 {X : Cx} {mk : Addr → NF} {c a b : Addr} {σ : L2.St} {H : Hp} {Q : VK} {fz : List AE} {t : List Nat} (hX : X.K = K) (qm : (mk c).qual = qLam) (code : H c = some (CodeO c qLam)) (hl : H a = some (.lst (fz.map rf))) (ents : Ents A H fz) (short : ∀ z ∈ fz, z.2.text.length ≤ 8) (sl : slotAt σ 2 = some (.ref b)) (hb : H b = some (.lst (iv t))) (st : t.length ≤ 8)
    (q : ∀ z ∈ fz, leastBy (nearer t) (fz.map kOf) = some (kOf z) → ∀ G, Mo [] H G → Q (rf z) G) :
    ∃ W, MinW X (tKey mk [2] (spKey2 A) c σ) a (fz.map rf) Q W ∧ ∀ y, (fz.map rf)[0]? = some y → tKey mk [2] (spKey2 A) c σ y H fun ky H' => W 0 H' y ky := by
  refine ⟨fun j G v kb => Mo [] H G ∧ ∃ z ∈ fz, v = rf z ∧ (∃ tp, kb = .ref tp ∧ G tp = some (.tup [.int (Ut06.distance z.2.text t : Nat), .int (z.2.key : Nat)])) ∧ leastBy (nearer t) ((fz.map kOf).take (j + 1)) = some (kOf z), ⟨fun {j G v kb} ⟨m, _⟩ => SqL.of (m.at hl), fun {j G v kb} ⟨m, z, mz, eb, _, le⟩ big => ?_, fun {j G v kb y} ⟨m, z, mz, eb, ⟨tp, ek, htp⟩, le⟩ hy => ?_⟩, fun y hy => ?_⟩
  · rw [eb]
    rw [List.length_map] at big
    rw [List.take_of_length_le (by rw [List.length_map]; exact big)] at le
    exact q z mz le G m
  · obtain ⟨x, hx, rfl, mx⟩ := rf_get hy
    have nx := least_next le (show (fz.map kOf)[j + 1]? = some (kOf x) by rw [List.getElem?_map, hx]; rfl)
    refine ⟨by rw [qm]; exact m.at code, x.1, b, x.2, t, by show [slotAt σ 2] = _; rw [sl], rfl, m.mt.ent (ents x mx), m.at hb, short x mx, st, fun p G2 m2 np hp => ?_⟩
    refine ⟨_, .inr ⟨p, tp, [(Ut06.distance x.2.text t : Int), (x.2.key : Int)], [(Ut06.distance z.2.text t : Int), (z.2.key : Int)], rfl, ek, SqT.of hp, SqT.of (m2.at htp), rfl⟩, fun h => ?_, fun h => ?_⟩
    · rw [lex_pair] at h
      rw [if_pos (show nearer t (kOf x) (kOf z) = true from h)] at nx
      exact ⟨m.trans m2, x, mx, rfl, ⟨p, rfl, hp⟩, nx⟩
    · rw [lex_pair] at h
      rw [if_neg (show ¬ nearer t (kOf x) (kOf z) = true from fun y => by rw [show nearer t (kOf x) (kOf z) = false from h] at y; cases y)] at nx
      exact ⟨m.trans m2, z, mz, eb, ⟨tp, ek, m2.at htp⟩, nx⟩
  · obtain ⟨x, hx, rfl, mx⟩ := rf_get hy
    exact ⟨by rw [qm]; exact code, x.1, b, x.2, t, by show [slotAt σ 2] = _; rw [sl], rfl, ents x mx, hb, short x mx, st, fun p G2 m2 np hp => ⟨m2, x, mx, rfl, ⟨p, rfl, hp⟩, least_first (by rw [List.getElem?_map, hx]; rfl)⟩⟩
/-- filters of a row and of what it shows -/
theorem kOf_filter (zs : List AE) (p : Ut06.Kept → Bool) : (zs.map kOf).filter p = (zs.filter fun z => p (kOf z)).map kOf := List.filter_map
theorem use_min {X : Cx} {mk : Addr → NF} {js : List Nat} {sp : List (Option V) → Sp} {c a : Addr} {σ : L2.St} {H : Hp} {Q : VK} {xs : List V} {dflt : Bool} (hl : SqL K H a xs) (no : xs = [] → dflt = true ∧ Q .non H) (h : ∃ W, MinW X (tKey mk js sp c σ) a xs Q W ∧ ∀ y, xs[0]? = some y → tKey mk js sp c σ y H fun ky H' => W 0 H' y ky) :
    ∃ (a' : Addr) (xs' : List V) (W : Nat → Hp → V → V → Prop), V.ref a = .ref a' ∧ SqL K H a' xs' ∧ (xs' = [] → dflt = true ∧ Q .non H) ∧ MinW X (tKey mk js sp c σ) a' xs' Q W ∧ ∀ y, xs'[0]? = some y → tKey mk js sp c σ y H fun ky H' => W 0 H' y ky := by
  obtain ⟨W, h1, h2⟩ := h
  exact ⟨a, xs, W, rfl, hl, no, h1, h2⟩
theorem best_text {zs : List AE} {k : Nat} {t : List Nat} {x : Ut06.Kept} (h : leastBy ltKey ((zs.filter fun z => z.2.text == t).map kOf) = some x) : best (zs.map kOf) k t = some x := by
  unfold best
  rw [kOf_filter, lowest_eq, show leastBy _ ((zs.filter fun z => (kOf z).text == t).map kOf) = some x from h]
theorem best_key {zs : List AE} {k : Nat} {t : List Nat} (h : zs.filter (fun z => z.2.text == t) = []) {z : AE} {r : List AE} (h2 : zs.filter (fun z => z.2.key == k) = z :: r) : best (zs.map kOf) k t = some (kOf z) := by
  unfold best
  rw [kOf_filter, show (zs.filter fun z => (kOf z).text == t) = [] from h, kOf_filter, show (zs.filter fun z => (kOf z).key == k) = z :: r from h2]
  rfl
theorem best_near {zs : List AE} {k : Nat} {t : List Nat} (h : zs.filter (fun z => z.2.text == t) = []) (h2 : zs.filter (fun z => z.2.key == k) = []) : best (zs.map kOf) k t = leastBy (nearer t) ((zs.filter fun z => nearBy t (kOf z)).map kOf) := by
  unfold best
  rw [kOf_filter, show (zs.filter fun z => (kOf z).text == t) = [] from h, kOf_filter, show (zs.filter fun z => (kOf z).key == k) = [] from h2, nearest_eq, kOf_filter]
  rfl
theorem free_by {sc scope : Scope} (h : (scope.names.all fun y => decide (y.2 = .free → sc.names.lookup y.1 = some .cell ∨ sc.names.lookup y.1 = some .free)) = true) : ∀ y ∈ scope.names, y.2 = .free → sc.names.lookup y.1 = some .cell ∨ sc.names.lookup y.1 = some .free :=
  fun y hy => of_decide_eq_true (List.all_eq_true.mp h y hy)
theorem nscope_lam {X : Cx} {params : Arguments} {scope : Scope} {c : Addr} {N ps fr : List Str} (h : nscB N ps fr scope = true) : NScope N ps fr (lamNF X params scope c).scope := nscope_by h
theorem ok_best {f c Pt : Addr} {fd : FuncData} (F : Fun K "best_known" "best_known" sBest f fd) (T : Txt K mg A) (code : fd.code = .ref c) (TB : TabB base mg c Pt) (GA : Held P w K mg base CX0 1 "apart" ["one", "other"] spApart) (GN : Held P w K mg base CX0 2 "near_enough" ["one", "other"] spNear) :
    FnOk P w K mg base CX0 4 f fd ["several", "key", "text"] (spBest A [(Pt, qLam)]) := by
  obtain ⟨fA, fdA, mA, kA, bA, GA⟩ := GA
  obtain ⟨fN, fdN, mN, kN, bN, GN⟩ := GN
  refine okCode F scBest (fun vs H Q E ⟨m, b, zs, k, t, eq, _⟩ => by rw [eq]; rfl) fun B outer s H vs Q E hr ⟨m, b, zs, k, t, eq, hm, ents, lz, short, hb, st, tabs, q⟩ => ?_
  subst eq
  have hr2 : Room 2 _ := hr.mono (by decide)
  refine ⟨_, pss_cons (ps_setLc (i := 3) (own := [("one", 6)]) (g := gName 6) (tt := tTest (tOp (rEqD K) (tFld K (tVar 6) "text") (tVar 2))) (te := tVar 6) rfl scBest.nd rfl rfl (sw_true rfl rfl rfl (by decide +kernel)) (pi_list (pv 0)) (blkOk_by (N := nB) (sc := defScope sBest) (by decide +kernel))
      (fun _ _ _ _ _ => pg_name (i := 6) scBest.nd rfl (Or.inl rfl)) (fun _ _ _ _ _ => pts_one (pt_cmpR (op_eqD hr.units) (pe_fld (pv 6) rfl) (pv 2) (nomark _))) (fun _ _ _ _ _ => pv 6))
    (pss_cons (ps_if (pt_truth (pv 3) (by intro _; rfl)) (pss_one (ps_ret (pe_min (T := [(Pt, qLam)]) (js := []) (ar := ["one"]) (fr := []) (sp := spKey1 A) (n := 1) rfl TB code (List.mem_singleton.mpr rfl) (fun x hx _ => by rw [List.mem_singleton.mp hx]; rfl) rfl .no (free_by (sc := defScope sBest) (by decide +kernel))
        (fun c => lok_by (N := ["one"]) (nscope_lam (by decide +kernel)) (fun pm ctv us hl => match us, hl with | [_], _ => rfl) (fun ws vs H Q E ⟨a, e, eq, _⟩ => by rw [eq]; rfl) fun f B fs z H vs ws Q room code len ⟨a, e, eq, ⟨dx, ta, tb, h1, _, _⟩, want⟩ => by
          subst eq
          exact ⟨_, pe_fld (pv 0) rfl, _, rfl, a, A.cE, dx, _, _, rfl, h1, T.entry, T.eKey, eF_key e ta tb, want⟩)
        (fun c ok => Caps.made ok (free_by (sc := defScope sBest) (by decide +kernel)) (by decide +kernel) rfl) hr2 (by rfl) T.blt.min (pv 3)))) pss_nil)
    (pss_cons (ps_setLc (i := 4) (own := [("one", 6)]) (g := gName 6) (tt := tTest (tOp rEq (tFld K (tVar 6) "key") (tVar 1))) (te := tVar 6) rfl scBest.nd rfl rfl (sw_true rfl rfl rfl (by decide +kernel)) (pi_list (pv 0)) (blkOk_by (N := nB) (sc := defScope sBest) (by decide +kernel))
      (fun _ _ _ _ _ => pg_name (i := 6) scBest.nd rfl (Or.inl rfl)) (fun _ _ _ _ _ => pts_one (pt_cmpR op_eq (pe_fld (pv 6) rfl) (pv 1) (nomark _))) (fun _ _ _ _ _ => pv 6))
    (pss_cons (ps_if (pt_truth (pv 4) (by intro _; rfl)) (pss_one (ps_ret (pe_ix ix_list (pv 4) pe_int (fun _ _ => rfl)))) pss_nil)
    (pss_cons (ps_setLc (i := 5) (own := [("one", 6)]) (g := gName 6) (tt := tB (tCall spNear [] E0 (tCons (tFld K (tVar 6) "text") (tCons (tVar 2) tNil)))) (te := tVar 6) rfl scBest.nd rfl rfl (sw_true rfl rfl rfl (by decide +kernel)) (pi_list (pv 0)) (blkOk_by (N := nB) (sc := defScope sBest) (by decide +kernel))
      (fun _ _ _ _ _ => pg_name (i := 6) scBest.nd rfl (Or.inl rfl)) (fun _ _ _ _ _ => pts_one (pt_val (pe_call GN hr2 (by rfl) mN kN bN .nil pass0 (pa_cons (pe_fld (pv 6) rfl) (pa_cons (pv 2) pa_nil))))) (fun _ _ _ _ _ => pv 6))
    (pss_one (ps_ret (pe_min (T := [(Pt, qLam)]) (js := [2]) (ar := ["one"]) (fr := ["text"]) (sp := spKey2 A) (n := 2) rfl TB code (List.mem_singleton.mpr rfl) (fun x hx _ => by rw [List.mem_singleton.mp hx]; rfl) rfl .yes (free_by (sc := defScope sBest) (by decide +kernel))
        (fun c => lok_by (N := ["one", "text"]) (nscope_lam (by decide +kernel)) (fun pm ctv us hl => match us, hl with | [_], _ => rfl) (fun ws vs H Q E ⟨a, b, e, t, _, eq, _⟩ => by rw [eq]; rfl) fun f B fs z H vs ws Q room code len ⟨a, b, e, t, ew, eq, ⟨dx, ta, tb, h1, h2, _⟩, hb, l1, l2, want⟩ => by
          subst eq ew
          exact ⟨_, pe_tup (pa_cons (pe_call GA room (by rfl) mA kA bA .nil pass0 (pa_cons (pe_fld (pv 0) rfl) (pa_cons (pv 1) pa_nil))) (pa_cons (pe_fld (pv 0) rfl) pa_nil)), _, rfl, a, A.cE, dx, _, _, rfl, h1, T.entry, T.eText, eF_text e ta tb, _, rfl, ta, b, e.text, t, rfl, h2, hb, by omega, by omega, fun G m =>
            ⟨_, rfl, a, A.cE, dx, _, _, rfl, m.at h1, T.entry, T.eKey, eF_key e ta tb, (show 2 ≤ sizeLine by decide), fun p np => want p _ (m.trans (Mo.new np)) (m.free np) upd_same⟩⟩)
        (fun c ok => Caps.made ok (free_by (sc := defScope sBest) (by decide +kernel)) (by decide +kernel) rfl) hr (by rfl) T.blt.min (pv 5)))))))), ?_⟩
  -- those with just that text
  refine ⟨_, rfl, m, rfl, ⟨_, SqL.of hm⟩, fun D nD => lc_list (K := K) (a := m) (xs := zs.map rf) (fun i G => G = upd H D (.lst (((zs.take i).filter fun z => z.2.text == t).map rf))) rfl (fun i G _ eG => by rw [eG]; exact SqL.of ((upd_ne (ne_of_none hm nD)).trans hm)) ?_ ?_⟩
  · rintro i v G hv rfl
    obtain ⟨z, hz, rfl, mz⟩ := rf_get hv
    obtain ⟨dz, ta, tb, hz1, hza, _⟩ := (ents z mz).upd (o := .lst (((zs.take i).filter fun z => z.2.text == t).map rf)) nD
    have stp := filter_step (H := H) (D := D) (t := fun z => z.2.text == t) lz hz
    refine ⟨rfl, _, rfl, z.1, A.cE, dz, _, _, rfl, hz1, T.entry, T.eText, eF_text z.2 ta tb, _, rfl, _, _, dp_text hza, dp_text ((upd_ne (ne_of_none hb nD)).trans hb), shaped_text _, shaped_text _, _, rfl, ?_⟩
    rw [eqv_text]
    by_cases ct : z.2.text = t
    · exact ifT (decide_eq_true ct) ⟨_, rfl, stp.1 (by simpa using ct)⟩
    · exact ifF (decide_eq_false ct) (stp.2 (by simpa using ct))
  rintro G rfl
  rw [List.length_map, List.take_length]
  have m1 : Mo [] H (upd H D (.lst ((zs.filter fun z => z.2.text == t).map rf))) := Mo.new nD
  have hD1 : upd H D (.lst ((zs.filter fun z => z.2.text == t).map rf)) D = some (.lst ((zs.filter fun z => z.2.text == t).map rf)) := upd_same
  generalize upd H D (.lst ((zs.filter fun z => z.2.text == t).map rf)) = H1 at m1 hD1 ⊢
  refine ⟨_, rfl, _, .inl ⟨_, SqL.of hD1, rfl⟩, ?_⟩
  cases e1 : zs.filter (fun z => z.2.text == t) with
  | cons z0 r0 =>
    refine ifT rfl ?_
    refine ⟨_, rfl, m1.tabs tabs, fun c2 H2 x2 tabs2 cod => ?_⟩
    have m2 : Mt [] H H2 := m1.mt.trans (Mt.of x2)
    have hD2 := x2 D _ hD1 (fun _ z => by cases z)
    refine use_min (K := K) (SqL.of hD2) (fun e => by rw [e1] at e; cases e) ?_
    exact min1 (K := K) (TT := [(Pt, qLam)]) rfl rfl cod hD2 (m2.ents fun z hz => ents z (List.mem_filter.mp hz).1) tabs2 (fun z hz le => (q H2 m2 tabs2).2 z (List.mem_filter.mp hz).1 (best_text le))
  | nil =>
    refine ifF rfl ?_
    -- those with that key
    refine ⟨_, rfl, m, rfl, ⟨_, SqL.of (m1.at hm)⟩, fun D2 nD2 => lc_list (K := K) (a := m) (xs := zs.map rf) (fun i G => G = upd H1 D2 (.lst (((zs.take i).filter fun z => z.2.key == k).map rf))) rfl (fun i G _ eG => by rw [eG]; exact SqL.of ((upd_ne (ne_of_none (m1.at hm) nD2)).trans (m1.at hm))) ?_ ?_⟩
    · rintro i v G hv rfl
      obtain ⟨z, hz, rfl, mz⟩ := rf_get hv
      obtain ⟨dz, ta, tb, hz1, hza, _⟩ := (m1.mt.ent (ents z mz)).upd (o := .lst (((zs.take i).filter fun z => z.2.key == k).map rf)) nD2
      have stp := filter_step (H := H1) (D := D2) (t := fun z => z.2.key == k) lz hz
      refine ⟨rfl, _, rfl, z.1, A.cE, dz, _, _, rfl, hz1, T.entry, T.eKey, eF_key z.2 ta tb, _, rfl, rfl, _, rfl, ?_⟩
      by_cases ct : z.2.key = k
      · exact ifT (decide_eq_true (int_nat.mpr ct)) ⟨_, rfl, stp.1 (by simpa using ct)⟩
      · exact ifF (decide_eq_false fun y => ct (int_nat.mp y)) (stp.2 (by simpa using ct))
    rintro G rfl
    rw [List.length_map, List.take_length]
    have m2 : Mo [] H (upd H1 D2 (.lst ((zs.filter fun z => z.2.key == k).map rf))) := m1.trans (Mo.new nD2)
    have hD2 : upd H1 D2 (.lst ((zs.filter fun z => z.2.key == k).map rf)) D2 = some (.lst ((zs.filter fun z => z.2.key == k).map rf)) := upd_same
    generalize upd H1 D2 (.lst ((zs.filter fun z => z.2.key == k).map rf)) = H2 at m2 hD2 ⊢
    refine ⟨_, rfl, _, .inl ⟨_, SqL.of hD2, rfl⟩, ?_⟩
    cases e2 : zs.filter (fun z => z.2.key == k) with
    | cons z0 r0 =>
      refine ifT rfl ?_
      rw [e2] at hD2
      have mem : z0 ∈ zs := (List.mem_filter.mp (show z0 ∈ zs.filter (fun z => z.2.key == k) by rw [e2]; exact List.mem_cons_self)).1
      exact ⟨_, rfl, D2, _, _, _, rfl, rfl, SqL.of hD2, atI_nat (j := 0) rfl, (q H2 m2.mt (m2.tabs tabs)).2 z0 mem (best_key e1 e2)⟩
    | nil =>
      refine ifF rfl ?_
      -- those that are near enough
      refine ⟨_, rfl, m, rfl, ⟨_, SqL.of (m2.at hm)⟩, fun D3 nD3 => lc_list (K := K) (a := m) (xs := zs.map rf) (fun i G => Mo [] H G ∧ G D3 = some (.lst (((zs.take i).filter fun z => nearBy t (kOf z)).map rf))) ⟨m2.trans (Mo.new nD3), upd_same⟩ (fun i G _ hG => SqL.of (hG.1.at hm)) ?_ ?_⟩
      · rintro i v G hv ⟨mG, hG⟩
        obtain ⟨z, hz, rfl, mz⟩ := rf_get hv
        obtain ⟨dz, ta, tb, hz1, hza, _⟩ := mG.mt.ent (ents z mz)
        refine ⟨rfl, _, rfl, z.1, A.cE, dz, _, _, rfl, hz1, T.entry, T.eText, eF_text z.2 ta tb, _, rfl, ta, b, z.2.text, t, rfl, hza, mG.at hb, by have := short z mz; omega, by omega, fun G2 m4 => ⟨_, rfl, ?_⟩⟩
        have nD : H D3 = none := m2.free nD3
        have take1 : nearBy t (kOf z) = true → (zs.take (i + 1)).filter (fun z => nearBy t (kOf z)) = (zs.take i).filter (fun z => nearBy t (kOf z)) ++ [z] := fun h => by
          rw [take_next hz, List.filter_append, List.filter_cons_of_pos (p := fun z => nearBy t (kOf z)) h]
          rfl
        have take0 : nearBy t (kOf z) = false → (zs.take (i + 1)).filter (fun z => nearBy t (kOf z)) = (zs.take i).filter (fun z => nearBy t (kOf z)) := fun h => by
          rw [take_next hz, List.filter_append, List.filter_cons_of_neg (p := fun z => nearBy t (kOf z)) (by rw [h]; exact Bool.false_ne_true)]
          simp
        show if nearBy t (kOf z) = true then _ else _
        cases nz : nearBy t (kOf z) with
        | true =>
          refine ifT rfl ⟨_, rfl, _, m4.at hG, line ?_, (mG.trans m4).later nD, ?_⟩
          · have := List.length_filter_le (fun z => nearBy t (kOf z)) (zs.take i)
            rw [List.length_take] at this
            rw [List.length_map]
            omega
          · rw [take1 nz, List.map_append]
            exact upd_same
        | false =>
          refine ifF rfl ⟨mG.trans m4, ?_⟩
          rw [take0 nz]
          exact m4.at hG
      rintro G ⟨mG, hG⟩
      rw [List.length_map, List.take_length] at hG
      refine ⟨_, rfl, mG.tabs tabs, fun c2 H3 x3 tabs3 cod => ?_⟩
      have m3 : Mt [] H H3 := mG.mt.trans (Mt.of x3)
      have hD3 := x3 D3 _ hG (fun _ z => by cases z)
      refine use_min (K := K) (SqL.of hD3) (fun e => ⟨rfl, (q H3 m3 tabs3).1 ?_⟩) ?_
      · rw [best_near e1 e2, List.map_eq_nil_iff.mp e]
        rfl
      · exact min2 (K := K) (t := t) rfl rfl cod hD3 (m3.ents fun z hz => ents z (List.mem_filter.mp hz).1) (fun z hz => short z (List.mem_filter.mp hz).1) rfl (m3.lst hb) st (fun z hz le G4 m4 => (q G4 (m3.trans m4.mt) (m4.tabs tabs3)).2 z (List.mem_filter.mp hz).1 ((best_near e1 e2).trans le))
end
end Rd
/-! in_release. -/
namespace Rd
open PySem PySem.Spec PyProof.Rows L2 LamX NdefX
section
variable {mg : Str → Option Value} {P : Program} {base : Heap} {w : World} {K : PySem.W.Frag} {A : Ad}
/-- the entries zs, what is kept ys, of a catalogue -/
structure Rows (g : List Ut06.Entry) (l : List Ut06.Kept) (zs ys : List AE) : Prop where
  ents : zs.map (·.2) = g
  kept : ys.map (·.2) = l.map asE
theorem Rows.known {g : List Ut06.Entry} {l : List Ut06.Kept} {zs ys : List AE} (r : Rows g l zs ys) : (zs.filter (fun z => z.2.sure) ++ ys).map kOf = Ut06.known g l := by
  rw [← known_toK, knownE, ← r.ents, ← r.kept, List.filter_map, ← List.map_append, List.map_map]
  rfl
theorem Rows.lens {g : List Ut06.Entry} {l : List Ut06.Kept} {zs ys : List AE} (r : Rows g l zs ys) (ok : Ok1 g l) : zs.length ≤ 12 ∧ ys.length ≤ 30 := by
  have h1 := congrArg List.length r.ents
  have h2 := congrArg List.length r.kept
  rw [List.length_map] at h1
  rw [List.length_map, List.length_map] at h2
  exact ⟨h1 ▸ ok.few, h2 ▸ ok.keptFew⟩
def spIn (A : Ad) (TT : List (Addr × Str)) : Sp := fun vs H Q _ => ∃ (S : List Addr) (c dx e k p ta : Addr) (zs ys : List AE) (g : List Ut06.Entry) (l : List Ut06.Kept) (n : Nat) (t : List Nat), vs = [.ref c, .int (n : Nat), .ref ta] ∧ Trk S H ∧ H c = some (cO A dx e k p) ∧ H e = some (.lst (zs.map rf)) ∧ H k = some (.lst (ys.map rf)) ∧
  Ents A (Off S H) zs ∧ Ents A (Off S H) ys ∧ Rows g l zs ys ∧ Ok1 g l ∧ Off S H ta = some (.lst (iv t)) ∧ t.length ≤ 8 ∧ Tabs TT H ∧
  ∀ a G, Mt [] H G → Tabs TT G → EntAt A (Off S G) a (inRel g l n t) → Q (.ref a) G
abbrev nI : List Str := ["self", "key", "text", "entry", "best"]
theorem scCIn : FnScope nI ["self", "key", "text"] (defScope sCIn) := ⟨rfl, rfl, rfl, by decide +kernel, rfl, by decide +kernel, by decide +kernel⟩
theorem Mt.offX {S : List Addr} {H G : Hp} (m : Mt [] H G) : ExtN (Off S H) (Off S G) := (m.more (R := S) fun _ q => absurd q List.not_mem_nil).off
theorem ok_in {f : Addr} {fd : FuncData} {TT : List (Addr × Str)} (F : Fun K "in_release" "Catalogue.in_release" sCIn f fd) (T : Txt K mg A) (GB : Held P w K mg base CX0 4 "best_known" ["several", "key", "text"] (spBest A TT)) (GK : HeldM P w K mg base CX0 1 A.cC "known" ["self"] (spCKnown A)) (GE : HeldC P w K mg base 1 A.cE nE (spEInit A)) :
    FnOk P w K mg base CX0 5 f fd ["self", "key", "text"] (spIn A TT) := by
  obtain ⟨fB, fdB, mB, kB, bB, GB⟩ := GB
  obtain ⟨fK, fdK, mK, bK, GK⟩ := GK
  obtain ⟨fE, fdE, mE, bE, GE⟩ := GE
  refine F.ok scCIn (fun vs H Q E ⟨_, _, _, _, _, _, _, _, _, _, _, _, _, eq, _⟩ => by rw [eq]; rfl) fun cdv B outer s H vs Q E hr ⟨S, c, dx, e, k, p, ta, zs, ys, g, l, n, t, eq, trk, hc, he, hk, ezs, eys, rows, ok, hta, st, tabs, q⟩ => ?_
  subst eq
  have hr1 : Room 1 _ := hr.mono (by decide)
  have hr2 : Room 2 _ := hr.mono (by decide)
  refine ⟨_, pss_cons (ps_for PassesOwn.never rfl (pi_list (pe_op op_cat (pe_fld (pv 0) rfl) (pe_fld (pv 0) rfl))) (pg_name (i := 3) scCIn.nd rfl (.inl rfl)) (pss_one (ps_if (PW.pt (pw_and (pt_cmpR op_eq (pe_fld (pv 3) rfl) (pv 1) (nomark _)) (pw_and1 (pt_cmpR (op_eqD hr.units) (pe_fld (pv 3) rfl) (pv 2) (nomark _))))) (pss_one (ps_ret (pv 3))) pss_nil)))
    (pss_cons (ps_set (i := 4) scCIn.nd rfl (.inl rfl) (pe_call GB hr (by rfl) mB kB bB .nil pass0 (pa_cons (pe_meth0 (pv 0) T.cat mK GK hr1 bK .nil pass0) (pa_cons (pv 1) (pa_cons (pv 2) pa_nil)))))
    (pss_cons (ps_if (pt_cmpR op_isN (pv 4) pe_non (nomark _)) (pss_one (ps_ret (pe_make mE GE hr2 (by rfl) T.eAt bE .nil pass0 (pa_cons (pv 1) (pa_cons (pv 2) (pa_cons (pe_lst pa_nil) (pa_cons pe_bl (pa_cons pe_non pa_nil)))))))) pss_nil)
    (pss_one (ps_ret (pe_make mE GE hr2 (by rfl) T.eAt bE .nil pass0 (pa_cons (pv 1) (pa_cons (pv 2) (pa_cons (pe_fld (pv 4) rfl) (pa_cons pe_bl (pa_cons (pe_fld (pv 4) rfl) pa_nil)))))))))), ?_⟩
  obtain ⟨lz, ly⟩ := rows.lens ok
  refine ⟨_, rfl, c, A.cC, dx, _, _, rfl, hc, T.cat, T.cEntries, cF_e e k p, _, rfl, c, A.cC, dx, _, _, rfl, hc, T.cat, T.cKept, cF_k e k p, e, k, _, _, rfl, rfl, he, hk, ?_, fun L nL => ?_⟩
  · have := (show (2000000 : Nat) ≤ sizeLine by decide +kernel)
    rw [List.length_map, List.length_map]
    omega
  rw [← List.map_append]
  have m0 : Mo [] H (upd H L (.lst ((zs ++ ys).map rf))) := Mo.new nL
  have hL : upd H L (.lst ((zs ++ ys).map rf)) L = some (.lst ((zs ++ ys).map rf)) := upd_same
  generalize upd H L (.lst ((zs ++ ys).map rf)) = H1 at m0 hL ⊢
  have eall : Ents A (Off S H) (zs ++ ys) := fun z hz => (List.mem_append.mp hz).elim (ezs z) (eys z)
  have eall1 : Ents A (Off S H1) (zs ++ ys) := eall.ext m0.mt.offX
  have pk : pick g l n t = ((zs ++ ys).find? fun z => z.2.key == n && z.2.text == t).map (·.2) := by
    unfold pick
    rw [← rows.ents, ← rows.kept, ← List.map_append, List.find?_map]
    rfl
  refine ⟨L, rfl, ⟨_, SqL.of hL⟩, for_list (K := K) (a := L) (xs := (zs ++ ys).map rf) (fun i σ G => G = H1 ∧ (∃ v, σ = [some (.ref c), some (.int (n : Nat)), some (.ref ta), v, none]) ∧ ∀ z ∈ (zs ++ ys).take i, (z.2.key == n && z.2.text == t) = false) ⟨rfl, ⟨none, rfl⟩, by simp⟩
    (fun i σ G _ ⟨eG, _⟩ => by rw [eG]; exact SqL.of hL) ?_ ?_⟩
  · rintro i v σ G hv ⟨rfl, ⟨o, rfl⟩, no⟩
    obtain ⟨z, hz, rfl, mz⟩ := rf_get hv
    obtain ⟨dz, za, zb, hz1, hza, hzb⟩ := (eall1 z mz).ext Off.sub
    have nope : (z.2.key == n && z.2.text == t) = false → G = G ∧ (∃ v, [some (V.ref c), some (V.int (n : Nat)), some (V.ref ta), some (rf z), none] = [some (V.ref c), some (V.int (n : Nat)), some (V.ref ta), v, none]) ∧ ∀ y ∈ (zs ++ ys).take (i + 1), (y.2.key == n && y.2.text == t) = false := fun h => by
      refine ⟨rfl, ⟨_, rfl⟩, fun y hy => ?_⟩
      rw [take_next hz, List.mem_append] at hy
      rcases hy with hy | hy
      · exact no y hy
      · rw [List.mem_singleton.mp hy]; exact h
    refine ⟨_, rfl, z.1, A.cE, dz, _, _, rfl, hz1, T.entry, T.eKey, eF_key z.2 za zb, _, rfl, rfl, _, rfl, ?_⟩
    by_cases ck : z.2.key = n
    · refine ifT (decide_eq_true (int_nat.mpr ck)) ?_
      refine ⟨_, rfl, z.1, A.cE, dz, _, _, rfl, hz1, T.entry, T.eText, eF_text z.2 za zb, _, rfl, _, _, dp_text hza, dp_text (m0.at (Off.out hta).2), shaped_text _, shaped_text _, _, rfl, ?_⟩
      rw [eqv_text]
      by_cases ct : z.2.text = t
      · refine ifT (decide_eq_true ct) ⟨_, rfl, q z.1 G m0.mt (m0.tabs tabs) ?_⟩
        have fd := find_take hz no (by rw [ck, ct]; simp)
        rw [fd] at pk
        unfold inRel
        rw [pk]
        exact eall1 z mz
      · exact ifF (decide_eq_false ct) (nope (by simp [ct]))
    · exact ifF (decide_eq_false fun y => ck (int_nat.mp y)) (ifF rfl (nope (by simp [ck])))
  · rintro σ G ⟨rfl, ⟨o, rfl⟩, no⟩
    rw [List.length_map, List.take_length] at no
    have isMade : inRel g l n t = made (Ut06.known g l) n t := by
      unfold inRel
      rw [pk, List.find?_eq_none.mpr (fun y hy => by rw [no y hy]; exact Bool.false_ne_true)]
      rfl
    have hc1 := m0.at hc
    refine ⟨_, rfl, c, dx, _, rfl, hc1, cF_no e k p (by decide +kernel) (by decide +kernel) (by decide +kernel), c, dx, e, k, p, zs, ys.map rf, rfl, hc1, m0.at he, (ezs.ext m0.mt.offX).ext Off.sub, m0.at hk, by omega, by rw [List.length_map]; omega, fun Lk H2 m1 nk hLk => ?_⟩
    rw [← List.map_append] at hLk
    have m2 : Mo [] H H2 := m0.trans m1
    have ekn : Ents A (Off S H2) (zs.filter (fun z => z.2.sure) ++ ys) := fun z hz => ((List.mem_append.mp hz).elim (fun h => ezs z (List.mem_filter.mp h).1) (eys z)).ext m2.mt.offX
    have knw : ∀ z ∈ zs.filter (fun z => z.2.sure) ++ ys, z.2.text.length ≤ 8 ∧ z.2.trans.length ≤ 8 ∧ z.2.trans ≠ [] := fun z hz => by
      have : kOf z ∈ Ut06.known g l := by rw [← rows.known]; exact List.mem_map.mpr ⟨z, hz, rfl⟩
      exact ok.known this
    refine ⟨_, rfl, _, rfl, Lk, ta, _, n, t, rfl, hLk, ekn.ext Off.sub, ?_, fun z hz => (knw z hz).1, m2.at (Off.out hta).2, st, m2.tabs tabs, fun G m3 tabs3 => ?_⟩
    · have := List.length_filter_le (fun z : AE => z.2.sure) zs
      rw [List.length_append]
      omega
    rw [rows.known]
    have m4 : Mt [] H G := m2.mt.trans m3
    have trk4 := trk.mt m4
    have hta4 := m4.offX (S := S) ta _ hta (fun _ z => by cases z)
    refine ⟨fun eb => ?_, fun z hz eb => ?_⟩
    · refine ⟨_, rfl, rfl, _, rfl, ?_⟩
      refine ⟨_, rfl, _, rfl, (show 0 ≤ sizeLine by decide), fun lE nE2 x dx2 nx nd ne => ?_⟩
      have trk5 := trk4.mt (Mt.new (o := .lst []) nE2)
      have hta5 := (Mt.new (S := []) (o := .lst []) nE2).offX (S := S) ta _ hta4 (fun _ z => by cases z)
      obtain ⟨mE2, eA⟩ := made_entry (A := A) (e := ⟨n, t, [], false, 0⟩) (ta := ta) (tb := lE) (k := .int (n : Nat)) (tt := .ref ta) (tr := .ref lE) (s := .bl false) (so := .non) trk5 hta5 (Off.new trk4 nE2) nx nd ne rfl
      refine ⟨x, dx2, _, _, _, _, _, rfl, upd_same, rfl, ?_⟩
      refine q x _ (m4.trans ((Mt.new nE2).trans mE2.mt)) (mE2.tabs ((Mo.new nE2).tabs tabs3)) ?_
      rw [isMade]
      unfold made
      rw [eb]
      exact eA
    · obtain ⟨dz, za, zb, hz1, hza, hzb⟩ := (ekn z hz).ext m3.offX
      refine ⟨_, rfl, rfl, _, rfl, ?_⟩
      refine ⟨_, rfl, _, rfl, _, rfl, z.1, A.cE, dz, _, _, rfl, (Off.out hz1).2, T.entry, T.eTrans, eF_trans z.2 za zb, _, rfl, z.1, A.cE, dz, _, _, rfl, (Off.out hz1).2, T.entry, T.eKey, eF_key z.2 za zb, fun x dx2 nx nd ne => ?_⟩
      obtain ⟨mE2, eA⟩ := made_entry (A := A) (e := ⟨n, t, z.2.trans, false, z.2.key⟩) (ta := ta) (tb := zb) (k := .int (n : Nat)) (tt := .ref ta) (tr := .ref zb) (s := .bl false) (so := .int (z.2.key : Nat)) trk4 hta4 hzb nx nd ne (by
        unfold eV eF srcV
        rw [if_neg (fun h => h.elim (knw z hz).2.2 Bool.false_ne_true)])
      refine ⟨x, dx2, _, _, _, _, _, rfl, upd_same, rfl, ?_⟩
      refine q x _ (m4.trans mE2.mt) (mE2.tabs tabs3) ?_
      rw [isMade]
      unfold made
      rw [eb]
      exact eA
end
end Rd
/-! check_keys, read_release, read_together. -/
namespace Rd
open PySem PySem.Spec PyProof.Rows L2 LamX NdefX
/-! ### each once -/
theorem once_len (ks : List Nat) : (once (ks.map fun n : Nat => (n : Int))).length = ks.length ↔ ks.Nodup := by
  have gen : ∀ (ks acc : List Nat), acc.Nodup → ((ks.map fun n : Nat => (n : Int)).foldl (fun l n => if l.any (· == n) then l else l ++ [n]) (acc.map fun n : Nat => (n : Int))).length ≤ acc.length + ks.length ∧
      (((ks.map fun n : Nat => (n : Int)).foldl (fun l n => if l.any (· == n) then l else l ++ [n]) (acc.map fun n : Nat => (n : Int))).length = acc.length + ks.length ↔ (acc ++ ks).Nodup) := fun ks => by
    induction ks with
    | nil => intro acc na; simp [na]
    | cons k r ih =>
      intro acc na
      rw [List.map_cons, List.foldl_cons]
      have hany : ((acc.map fun n : Nat => (n : Int)).any (· == (k : Int))) = decide (k ∈ acc) := by
        rw [Bool.eq_iff_iff, List.any_eq_true]
        rw [decide_eq_true_eq]
        constructor
        · rintro ⟨x, hx, e⟩
          obtain ⟨y, hy, rfl⟩ := (List.mem_map (l := _)).mp hx
          have : (y : Int) = k := by simpa using e
          have : y = k := by omega
          exact this ▸ hy
        · intro h
          exact ⟨(k : Int), List.mem_map.mpr ⟨k, h, rfl⟩, by simp⟩
      by_cases c : k ∈ acc
      · rw [if_pos (by rw [hany]; exact decide_eq_true c)]
        have h := ih acc na
        refine ⟨by simp only [List.length_cons]; omega, ⟨fun e => ?_, fun e => ?_⟩⟩
        · simp only [List.length_cons] at e; omega
        · rw [List.nodup_append] at e
          exact (e.2.2 k c k List.mem_cons_self rfl).elim
      · rw [if_neg (by rw [hany, decide_eq_true_eq]; exact c)]
        have na2 : (acc ++ [k]).Nodup := by
          rw [List.nodup_append]
          refine ⟨na, by simp, fun a ha b hb e => ?_⟩
          rw [List.mem_singleton.mp hb] at e
          exact c (e ▸ ha)
        have h := ih (acc ++ [k]) na2
        rw [List.map_append, List.map_cons, List.map_nil, List.append_assoc, List.length_append, List.length_singleton] at h
        rw [List.length_cons]
        exact ⟨by omega, by rw [show acc.length + (r.length + 1) = acc.length + 1 + r.length by omega]; exact h.2⟩
  have := gen ks [] List.nodup_nil
  rw [List.map_nil, List.length_nil, Nat.zero_add, List.nil_append] at this
  exact this.2
section
variable {mg : Str → Option Value} {P : Program} {base : Heap} {w : World} {K : PySem.W.Frag} {A : Ad}
abbrev sCheck : Stmt := top 25
abbrev sRel : Stmt := top 26
abbrev sTog : Stmt := top 27
def spCheck (A : Ad) : Sp := fun vs H Q E => ∃ (a : Addr) (ks : List Nat), vs = [.ref a] ∧ H a = some (.lst (iv ks)) ∧ (ks.length ≤ 12 ∧ ks.Nodup → Q .non H) ∧ (¬ (ks.length ≤ 12 ∧ ks.Nodup) → E (.ref A.xL) none H)
theorem scCheck : FnScope ["keys"] ["keys"] (defScope sCheck) := ⟨rfl, rfl, rfl, by decide +kernel, rfl, by decide +kernel, by decide +kernel⟩
theorem ok_check {f : Addr} {fd : FuncData} (F : Fun K "check_keys" "check_keys" sCheck f fd) (T : Txt K mg A) : FnOk P w K mg base (L2.CX P w) 1 f fd ["keys"] (spCheck A) := by
  obtain ⟨t12, h12⟩ := T.mostKeys
  refine F.okX scCheck (fun vs H Q E ⟨a, ks, e, _⟩ => by rw [e]; rfl) fun cdv B outer s H vs Q E hr ⟨a, ks, e, ha, qT, qF⟩ => ?_
  subst e
  refine ⟨_, pss_one (ps_if (PW.pt (pw_or (pt_cmpR op_gt (pe_callB call_len_seq (by rfl) T.blt.len PySem.boot_len (pa_cons (pv 0) pa_nil)) (pe_glob (v := .int 12) (by rfl) h12 ⟨_, rfl⟩) (nomark _)) (pw_or1 (pt_cmpR op_lt (pe_lenOnce (by rfl) T.blt.len (by rfl) T.blt.set (pv 0)) (pe_callB call_len_seq (by rfl) T.blt.len PySem.boot_len (pa_cons (pv 0) pa_nil)) (nomark _)))))
    (pss_one (ps_raise rfl (takes_of rfl rfl rfl rfl) (T.notLet.raises (by rfl)))) pss_nil), ?_⟩
  refine ⟨_, rfl, a, _, rfl, .inl (SqL.of ha), _, _, rfl, rfl, _, rfl, ?_⟩
  rw [iv_len]
  by_cases c1 : 12 < ks.length
  · refine ifT (decide_eq_true (by omega)) (ifT rfl ?_)
    exact qF fun h => by omega
  refine ifF (decide_eq_false (by omega)) ?_
  refine ⟨_, rfl, a, ks.map (fun n : Nat => (n : Int)), rfl, by rw [← iv_ints]; exact SqL.of ha, by rw [List.length_map]; omega, _, rfl, a, _, rfl, .inl (SqL.of ha), _, _, rfl, rfl, _, rfl, ?_⟩
  rw [iv_len]
  have le := once_le (ks.map fun n : Nat => (n : Int))
  rw [List.length_map] at le
  by_cases c2 : ks.Nodup
  · have e := (once_len ks).mpr c2
    refine ifF (decide_eq_false (by omega)) ?_
    exact qT ⟨by omega, c2⟩
  · have e : (once (ks.map fun n : Nat => (n : Int))).length ≠ ks.length := fun z => c2 ((once_len ks).mp z)
    refine ifT (decide_eq_true (by omega)) ?_
    exact qF fun h => c2 h.2
/-! ### read_release -/
/-- what is new in H may be changed -/
theorem Mo.laterM {H G G' : Hp} {r : Addr} (a : Mo [] H G) (n : H r = none) (b : Mo [r] G G') : Mo [] H G' := fun x o e _ => b x o (a.at e) fun q => by rw [List.mem_singleton.mp q, n] at e; cases e
/-- a reader newly made -/
theorem made_reader {H : Hp} {r dx na : Addr} (nr : H r = none) (nd : H dx = none) (ne : dx ≠ r) : Mo [] H (upd (upd (upd H dx (.own r)) r (.ins A.cR dx [])) r (rO A dx na 0)) := by
  rw [upd_twice]
  exact Mo.trans (Mo.new nd) (Mo.new ((upd_ne (Ne.symm ne)).trans nr))
theorem flatR_append (a b : List (Nat × List Nat)) : flatR (a ++ b) = flatR a ++ flatR b := List.flatMap_append
theorem flatR_cons (k : Nat) (t : List Nat) (b : List (Nat × List Nat)) : flatR ((k, t) :: b) = k :: t.length :: (t ++ flatR b) := by
  unfold flatR
  rw [List.flatMap_cons]
  rfl
/-- a row that is told: its place, the key, the text -/
abbrev AT := Addr × Nat × List Nat
abbrev rt (u : AT) : V := .ref u.1
def TRow (G : Hp) (u : AT) : Prop := ∃ a, G u.1 = some (.tup [.int (u.2.1 : Nat), .ref a]) ∧ G a = some (.lst (iv u.2.2))
theorem TRow.ext {G G' : Hp} {u : AT} (x : ExtN G G') : TRow G u → TRow G' u := fun ⟨a, h1, h2⟩ => ⟨a, x _ _ h1 (fun _ q => by cases q), x _ _ h2 (fun _ q => by cases q)⟩
def ToldAt (G : Hp) (l : Addr) (n : List (Nat × List Nat)) : Prop := ∃ us : List AT, us.map (·.2) = n ∧ G l = some (.lst (us.map rt)) ∧ ∀ u ∈ us, TRow G u
def spRel (A : Ad) : Sp := fun vs H Q E => ∃ (S : List Addr) (na : Addr) (n : List (Nat × List Nat)), vs = [.ref na] ∧ H na = some (.lst (iv (flatR n))) ∧ (flatR n).length ≤ 20000 ∧ Trk S H ∧
  (RelOk n → ∀ l G, Mo [] H G → ToldAt (Off S G) l n → Q (.ref l) G) ∧ (¬ RelOk n → ∀ G, Mo [] H G → E (.ref A.xL) none G)
abbrev nR : List Str := ["numbers", "reader", "told", "key", "text", "keys", "row"]
theorem scRel : FnScope nR ["numbers"] (defScope sRel) := ⟨rfl, rfl, rfl, by decide +kernel, rfl, by decide +kernel, by decide +kernel⟩
theorem ok_rel {f : Addr} {fd : FuncData} (F : Fun K "read_release" "read_release" sRel f fd) (T : Txt K mg A) (R : Rds P w K mg base A) (GT : HeldM P w K mg base (L2.CX P w) 2 A.cR "read_text" ["self", "fewest"] (spRText A K)) (GC : Held P w K mg base (L2.CX P w) 1 "check_keys" ["keys"] (spCheck A)) :
    FnOk P w K mg base (L2.CX P w) 3 f fd ["numbers"] (spRel A) := by
  obtain ⟨fI, fdI, mI, bI, GI⟩ := R.init.ok
  obtain ⟨fM, fdM, mM, bM, GM⟩ := R.more.ok
  obtain ⟨fN, fdN, mN, bN, GN⟩ := R.num.ok
  obtain ⟨fT, fdT, mT, bT, GT⟩ := GT.ok
  obtain ⟨fC, fdC, mC, kC, bC, GC⟩ := GC.ok
  obtain ⟨t9, h99⟩ := T.highKey
  refine F.okX scRel (fun vs H Q E ⟨S, na, n, e, _⟩ => by rw [e]; rfl) fun cdv B outer s H vs Q E hr ⟨S, na, n, e, hn, small, trk, qT, qF⟩ => ?_
  subst e
  have hr1 : Room 1 _ := hr.mono (by decide)
  refine ⟨_, pss_cons (ps_set (i := 1) scRel.nd rfl (.inl rfl) (pe_make mI GI hr (by rfl) T.rAt bI .nil pass0 (pa_cons (pv 0) pa_nil)))
    (pss_cons (ps_set (i := 2) scRel.nd rfl (.inl rfl) (pe_lst pa_nil))
    (pss_cons (ps_while (passes_of rfl) (pt_val (pe_meth0 (pv 1) T.reader mM GM hr1 bM .nil pass0))
      (pss_cons (ps_set (i := 3) scRel.nd rfl (.inl rfl) (pe_meth0 (pv 1) T.reader mN GN hr1 bN .nil pass0))
      (pss_cons (ps_set (i := 4) scRel.nd rfl (.inl rfl) (pe_meth (E := E) (pv 1) T.reader mT GT hr bT .nil (passes_call (takes_of rfl rfl rfl rfl) (fun _ _ _ _ h => h)) (pa_cons pe_int pa_nil)))
      (pss_one (ps_expr (pe_bm PySem.F.plainAttrs_list PySem.F.slot_list_append PySem.F.type_list_append mt_append (pv 2) (pa_cons (pe_tup (pa_cons (pv 3) (pa_cons (pv 4) pa_nil))) pa_nil)))))))
    (pss_cons (ps_setLc (i := 5) (own := [("row", 6)]) (g := gName 6) (tt := tYes) (te := tOp (rIxT K) (tVar 6) (tC (.int 0))) rfl scRel.nd rfl rfl (sw_true rfl rfl rfl (by decide +kernel)) (pi_list (pv 2)) (blkOk_by (N := nR) (sc := defScope sRel) (by decide +kernel))
      (fun _ _ _ _ _ => pg_name (i := 6) scRel.nd rfl (Or.inl rfl)) (fun _ _ _ _ _ => pts_nil) (fun _ _ _ _ _ => pe_ix ix_tup (pv 6) pe_int (fun _ _ => rfl)))
    (pss_cons (ps_expr (pe_call (E := E) GC hr1 (by rfl) mC kC bC .nil (passes_call (takes_of rfl rfl rfl rfl) (fun _ _ _ _ h => h)) (pa_cons (pv 5) pa_nil)))
    (pss_cons (ps_if (pt_cmpR op_gt (pe_callBK (cr_maxd rfl hr) (by rfl) T.blt.max (by decide +kernel) (pa_cons (pv 5) pa_nil) (pk_cons pe_int pk_nil)) (pe_glob (v := .int 99) (by rfl) h99 ⟨_, rfl⟩) (nomark _)) (pss_one (ps_raise rfl (takes_of rfl rfl rfl rfl) (T.notLet.raises (by rfl)))) pss_nil)
    (pss_one (ps_ret (pv 2)))))))), ?_⟩
  refine ⟨_, rfl, fun r dx nr nd ne => ⟨r, dx, na, rfl, upd_same, rfl, ?_⟩⟩
  have m0 := made_reader (A := A) (na := na) nr nd ne
  have hr0 : upd (upd (upd H dx (.own r)) r (.ins A.cR dx [])) r (rO A dx na 0) r = some (rO A dx na 0) := upd_same
  generalize upd (upd (upd H dx (.own r)) r (.ins A.cR dx [])) r (rO A dx na 0) = H0 at m0 hr0 ⊢
  refine ⟨(show 0 ≤ sizeLine by decide), fun Tl nT => ?_⟩
  have nTH := m0.free nT
  have rT : r ≠ Tl := ne_of_none hr0 nT
  have trk1 : Trk (Tl :: r :: S) (upd H0 Tl (.lst [])) := by
    have t1 : Trk (r :: S) H0 := fun b hb => (List.mem_cons.mp hb).elim (fun q => ⟨_, q ▸ hr0, fun _ z => by cases z⟩) (fun q => trk.mt m0.mt b q)
    exact t1.add nT (fun _ z => by cases z)
  refine ⟨fun m σ G => ∃ (us : List AT) (post : List (Nat × List Nat)) (v3 v4 : Option V), σ = [some (.ref na), some (.ref r), some (.ref Tl), v3, v4, none, none] ∧ n = us.map (·.2) ++ post ∧ post.length = m ∧ Mo [] H G ∧ RdAt A G r dx na (flatR (us.map (·.2))).length ∧ G Tl = some (.lst (us.map rt)) ∧ (∀ u ∈ us, TRow (Off (Tl :: r :: S) G) u) ∧ (∀ u ∈ us, textGood 1 u.2.2) ∧ Trk (Tl :: r :: S) G,
    ⟨n.length, [], n, none, none, rfl, rfl, rfl, m0.trans (Mo.new nT), (upd_ne rT).trans hr0, upd_same, by simp, by simp, trk1⟩, ?_⟩
  rintro m σ G ⟨us, post, v3, v4, rfl, en, rfl, mG, hGr, hGT, rowsU, good, trkG⟩
  have hGn : G na = some (.lst (iv (flatR n))) := mG.at hn
  refine ⟨_, rfl, r, dx, _, rfl, hGr, rF_no na _ (by decide +kernel) (by decide +kernel), r, dx, na, _, flatR n, rfl, hGr, SqL.of hGn, _, rfl, ?_⟩
  have usn : us.length ≤ n.length := by
    rw [en, List.length_append, List.length_map]
    omega
  have nfl : n.length ≤ (flatR n).length := by
    have gen : ∀ l : List (Nat × List Nat), l.length ≤ (flatR l).length := fun l => by
      induction l with
      | nil => exact Nat.le_refl _
      | cons x r ih =>
        rw [show x = (x.1, x.2) from rfl, flatR_cons]
        simp only [List.length_cons, List.length_append]
        omega
    exact gen n
  cases post with
  | cons x post =>
    obtain ⟨k, t⟩ := x
    have ef : flatR n = flatR (us.map (·.2)) ++ (k :: t.length :: (t ++ flatR post)) := by rw [en, flatR_append, flatR_cons]
    have lt : (flatR (us.map (·.2))).length < (flatR n).length := by
      rw [ef, List.length_append]
      simp only [List.length_cons]
      omega
    refine ifT (decide_eq_true lt) ?_
    have dr : (flatR n).drop (flatR (us.map (·.2))).length = k :: t.length :: (t ++ flatR post) := by rw [ef, List.drop_left]
    have dr1 : (flatR n).drop ((flatR (us.map (·.2))).length + 1) = t.length :: (t ++ flatR post) := by
      have := congrArg List.tail dr
      rw [List.tail_drop] at this
      exact this
    have at0 : (flatR n)[(flatR (us.map (·.2))).length]? = some k := by
      have := congrArg (fun l => l[0]?) dr
      simpa using this
    refine ⟨_, fun σ' G' w => ⟨post.length, Nat.lt_succ_self _, w⟩, ?_⟩
    generalize hi : (flatR (us.map (·.2))).length = i at *
    refine ⟨_, rfl, r, dx, _, rfl, hGr, rF_no na _ (by decide +kernel) (by decide +kernel), r, dx, na, i, flatR n, k, rfl, hGr, SqL.of hGn, at0, ?_⟩
    have m1 : Mo [r] G (upd G r (rO A dx na (i + 1))) := Mo.put (List.mem_singleton.mpr rfl)
    have nrn : na ≠ r := ne_of_none hn nr
    refine ⟨_, rfl, r, dx, _, rfl, upd_same, rF_no na _ (by decide +kernel) (by decide +kernel), r, dx, na, i + 1, 1, flatR n, t, flatR post, rfl, upd_same, SqL.of ((upd_ne nrn).trans hGn), dr1, fun tg p np => ?_, fun tb G' m2 => ?_⟩
    · have np1 : G p = none := by
        have ne : p ≠ r := fun q => by rw [q, upd_same] at np; cases np
        rw [upd_ne ne] at np
        exact np
      have pr : p ≠ r := Ne.symm (ne_of_none hGr np1)
      rw [upd_swap (Ne.symm pr), upd_twice]
      have pT : Tl ≠ p := ne_of_none hGT np1
      have hT2 : upd (upd G p (.lst (iv t))) r (rO A dx na (i + 1 + 1 + t.length)) Tl = some (.lst (us.map rt)) := (upd_ne (Ne.symm rT)).trans ((upd_ne pT).trans hGT)
      have hp2 : upd (upd G p (.lst (iv t))) r (rO A dx na (i + 1 + 1 + t.length)) p = some (.lst (iv t)) := (upd_ne pr).trans upd_same
      have hr2 : upd (upd G p (.lst (iv t))) r (rO A dx na (i + 1 + 1 + t.length)) r = some (rO A dx na (i + 1 + 1 + t.length)) := upd_same
      have mt2 : Mt (Tl :: r :: S) G (upd (upd G p (.lst (iv t))) r (rO A dx na (i + 1 + 1 + t.length))) := (Mt.new np1).trans (Mt.put (List.mem_cons_of_mem _ List.mem_cons_self))
      have m2 : Mo [] H (upd (upd G p (.lst (iv t))) r (rO A dx na (i + 1 + 1 + t.length))) := (mG.trans (Mo.new np1)).laterM nr (Mo.put (List.mem_singleton.mpr rfl))
      have trk2 : Trk (Tl :: r :: S) (upd (upd G p (.lst (iv t))) r (rO A dx na (i + 1 + 1 + t.length))) := (trkG.put (fun _ z => by cases z)).put (fun _ z => by cases z)
      have pS : p ∉ Tl :: r :: S := trkG.new np1
      generalize upd (upd G p (.lst (iv t))) r (rO A dx na (i + 1 + 1 + t.length)) = G2 at hT2 hp2 hr2 mt2 m2 trk2 ⊢
      refine ⟨_, rfl, .inl ⟨rfl, _, SqL.of hT2⟩, _, rfl, _, rfl, (show 2 ≤ sizeLine by decide), fun tp ntp => ?_⟩
      have tT : Tl ≠ tp := ne_of_none hT2 ntp
      refine ⟨Tl, _, _, rfl, rfl, (upd_ne tT).trans hT2, line (by rw [List.length_map]; omega), us ++ [(tp, k, t)], post, _, _, rfl, ?_, rfl, ?_, ?_, ?_, ?_, ?_, ?_⟩
      · rw [en, List.map_append, List.append_assoc]
        rfl
      · exact (m2.trans (Mo.new ntp)).laterM nTH (Mo.put (List.mem_singleton.mpr rfl))
      · have e : (flatR ((us ++ [(tp, k, t)]).map (·.2))).length = i + 1 + 1 + t.length := by
          rw [List.map_append, flatR_append, List.length_append, hi]
          show i + (flatR [(k, t)]).length = _
          rw [flatR_cons]
          simp only [List.length_cons, List.length_append]
          show i + (t.length + 0 + 1 + 1) = _
          omega
        rw [e]
        exact (upd_ne rT).trans ((upd_ne (ne_of_none hr2 ntp)).trans hr2)
      · rw [List.map_append]
        exact upd_same
      · have mt3 : Mt (Tl :: r :: S) G2 (upd (upd G2 tp (.tup [.int (k : Nat), .ref p])) Tl (.lst (us.map rt ++ [.ref tp]))) := (Mt.new ntp).trans (Mt.put List.mem_cons_self)
        intro u hu
        obtain hu | hu := List.mem_append.mp hu
        · exact (rowsU u hu).ext (mt2.trans mt3).off
        · rw [List.mem_singleton.mp hu]
          have pT2 : p ≠ Tl := Ne.symm pT
          have ptp : p ≠ tp := ne_of_none hp2 ntp
          exact ⟨p, Off.in_ (trk2.new ntp) ((upd_ne (Ne.symm tT)).trans upd_same), Off.in_ pS ((upd_ne pT2).trans ((upd_ne ptp).trans hp2))⟩
      · intro u hu
        obtain hu | hu := List.mem_append.mp hu
        · exact good u hu
        · rw [List.mem_singleton.mp hu]; exact tg
      · exact (trk2.mt (Mt.new ntp)).put (fun _ z => by cases z)
    · refine qF (fun ok => tb (ok.texts (k, t) (by rw [en]; simp))) G' ?_
      exact (mG.laterM nr m1).laterM nr m2
  | nil =>
    rw [List.append_nil] at en
    refine ifF (decide_eq_false (by rw [en]; omega)) ?_
    have key : (us.map fun u => u.2.1) = n.map (·.1) := by rw [en, List.map_map]; rfl
    refine ⟨_, rfl, Tl, rfl, ⟨_, SqL.of hGT⟩, fun D nD => lc_list (K := K) (a := Tl) (xs := us.map rt) (fun i G2 => G2 = upd G D (.lst (iv ((us.take i).map fun u => u.2.1)))) rfl (fun i G2 _ eG => by rw [eG]; exact SqL.of ((upd_ne (ne_of_none hGT nD)).trans hGT)) ?_ ?_⟩
    · rintro i v G2 hv rfl
      rw [List.getElem?_map] at hv
      cases hu : us[i]? with
      | none => rw [hu] at hv; cases hv
      | some u =>
        rw [hu] at hv
        obtain rfl := Option.some.inj hv
        obtain ⟨a, h1, h2⟩ := rowsU u (List.mem_of_getElem? hu)
        have h1 := (Off.out h1).2
        refine ⟨rfl, _, rfl, u.1, _, _, _, rfl, rfl, SqT.of ((upd_ne (ne_of_none h1 nD)).trans h1), atI_nat (j := 0) rfl, _, upd_same, line ?_, ?_⟩
        · rw [iv_len, List.length_map, List.length_take]
          omega
        · rw [upd_twice, take_next hu, List.map_append, iv_cat]
          rfl
    rintro G2 rfl
    rw [List.length_map, List.take_length, key]
    have mD : Mo [] G (upd G D (.lst (iv (n.map (·.1))))) := Mo.new nD
    have hD : upd G D (.lst (iv (n.map (·.1)))) D = some (.lst (iv (n.map (·.1)))) := upd_same
    generalize upd G D (.lst (iv (n.map (·.1)))) = G2 at mD hD ⊢
    refine ⟨_, rfl, D, n.map (·.1), rfl, hD, fun ck => ?_, fun ck => qF (fun ok => ck ⟨by rw [List.length_map]; exact ok.few, ok.once⟩) _ (mG.trans mD)⟩
    rw [List.length_map] at ck
    have rel : maxN (n.map (·.1)) ≤ 99 → RelOk n := fun h => ⟨ck.1, fun x hx => by
      rw [en] at hx
      obtain ⟨u, hu, rfl⟩ := List.mem_map.mp hx
      exact good u hu, fun x hx => (maxN_le _ 99).mp h x.1 (List.mem_map.mpr ⟨x, hx, rfl⟩), ck.2⟩
    have fin : ∀ M : Int, M = (maxN (n.map (·.1)) : Nat) → ∃ x y, V.int M = .int x ∧ V.int 99 = .int y ∧ ∃ k, V.bl (decide (y < x)) = .bl k ∧ if k = true then E (.ref A.xL) none G2 else ∃ v, some (some (V.ref Tl)) = some (some v) ∧ Q v G2 := fun M hM => by
      refine ⟨_, _, rfl, rfl, _, rfl, ?_⟩
      by_cases c3 : maxN (n.map (·.1)) ≤ 99
      · refine ifF (decide_eq_false (by omega)) ⟨_, rfl, qT (rel c3) Tl G2 (mG.trans mD) ?_⟩
        have out : Tl ∉ S := trk.new nTH
        exact ⟨us, en.symm, Off.in_ out (mD.at hGT), fun u hu => ((rowsU u hu).ext (Off.less (S := S) fun b hb => List.mem_cons_of_mem _ (List.mem_cons_of_mem _ hb))).ext mD.mt.offX⟩
      · refine ifT (decide_eq_true (by omega)) ?_
        exact qF (fun ok => c3 ((maxN_le _ 99).mpr fun x hx => by
          obtain ⟨y, hy, rfl⟩ := (List.mem_map (l := _)).mp hx
          exact ok.keys y hy)) G2 (mG.trans mD)
    refine ⟨_, rfl, D, (n.map (·.1)).map (fun n : Nat => (n : Int)), .int 0, rfl, rfl, by rw [← iv_ints]; exact SqL.of hD, fun e => fin _ (maxd_nil e), fun a l e => fin _ (maxd_cons e)⟩
end
end Rd
/-! read_together. -/
namespace Rd
open PySem PySem.Spec PyProof.Rows L2 LamX NdefX
section
variable {mg : Str → Option Value} {P : Program} {base : Heap} {w : World} {K : PySem.W.Frag} {A : Ad}
abbrev T3 := Nat × List Nat × List Nat
abbrev AT3 := Addr × T3
abbrev rt3 (u : AT3) : V := .ref u.1
def TRow3 (G : Hp) (u : AT3) : Prop := ∃ a b, G u.1 = some (.tup [.int (u.2.1 : Nat), .ref a, .ref b]) ∧ G a = some (.lst (iv u.2.2.1)) ∧ G b = some (.lst (iv u.2.2.2))
theorem TRow3.ext {G G' : Hp} {u : AT3} (x : ExtN G G') : TRow3 G u → TRow3 G' u := fun ⟨a, b, h1, h2, h3⟩ => ⟨a, b, x _ _ h1 (fun _ q => by cases q), x _ _ h2 (fun _ q => by cases q), x _ _ h3 (fun _ q => by cases q)⟩
def Told3At (G : Hp) (l : Addr) (n : List T3) : Prop := ∃ us : List AT3, us.map (·.2) = n ∧ G l = some (.lst (us.map rt3)) ∧ ∀ u ∈ us, TRow3 G u
def spTog (A : Ad) : Sp := fun vs H Q E => ∃ (S : List Addr) (na : Addr) (n : List T3), vs = [.ref na] ∧ H na = some (.lst (iv (n.length :: flatT n))) ∧ Trk S H ∧
  (TogOk n → ∀ l G, Mo [] H G → Told3At (Off S G) l n → Q (.ref l) G) ∧ (¬ TogOk n → ∀ G, Mo [] H G → E (.ref A.xL) none G)
theorem flatT_append (a b : List T3) : flatT (a ++ b) = flatT a ++ flatT b := List.flatMap_append
theorem flatT_cons (k : Nat) (t u : List Nat) (b : List T3) : flatT ((k, t, u) :: b) = k :: t.length :: (t ++ u.length :: (u ++ flatT b)) := by
  unfold flatT
  rw [List.flatMap_cons]
  show (k :: t.length :: (t ++ u.length :: u)) ++ _ = _
  simp
/-- a text read: p the new list, r the reader -/
structure Stepped (H G G' : Hp) (S : List Addr) (r p : Addr) (o : HO) (t : List Nat) : Prop where
  mo : Mo [] H G'
  rd : G' r = some o
  text : G' p = some (.lst (iv t))
  mt : Mt S G G'
  trk : Trk S G'
  out : p ∉ S
  new : G p = none
theorem stepped {H G : Hp} {S : List Addr} {r p dx na : Addr} {t : List Nat} {i j : Nat} (m : Mo [] H G) (nr : H r = none) (hr : ∃ o, G r = some o) (trk : Trk S G) (mem : r ∈ S) (np : G p = none) : Stepped H G (upd (upd G p (.lst (iv t))) r (rO A dx na j)) S r p (rO A dx na j) t := by
  obtain ⟨o, hr⟩ := hr
  have pr : p ≠ r := Ne.symm (ne_of_none hr np)
  exact ⟨(m.trans (Mo.new np)).laterM nr (Mo.put (List.mem_singleton.mpr rfl)), upd_same, (upd_ne pr).trans upd_same, (Mt.new np).trans (Mt.put mem), (trk.put (fun _ z => by cases z)).put (fun _ z => by cases z), trk.new np, np⟩
theorem free_upd {G : Hp} {r p : Addr} {o : HO} (np : upd G r o p = none) : G p = none := by
  have ne : p ≠ r := fun q => by rw [q, upd_same] at np; cases np
  rw [upd_ne ne] at np
  exact np
abbrev nT : List Str := ["numbers", "reader", "many", "told", "turn", "key", "began", "theirs", "row"]
theorem scTog : FnScope nT ["numbers"] (defScope sTog) := ⟨rfl, rfl, rfl, by decide +kernel, rfl, by decide +kernel, by decide +kernel⟩
theorem ok_tog {f : Addr} {fd : FuncData} (F : Fun K "read_together" "read_together" sTog f fd) (T : Txt K mg A) (R : Rds P w K mg base A) (GT : HeldM P w K mg base (L2.CX P w) 2 A.cR "read_text" ["self", "fewest"] (spRText A K)) (GC : Held P w K mg base (L2.CX P w) 1 "check_keys" ["keys"] (spCheck A)) :
    FnOk P w K mg base (L2.CX P w) 3 f fd ["numbers"] (spTog A) := by
  obtain ⟨fI, fdI, mI, bI, GI⟩ := R.init.ok
  obtain ⟨fN, fdN, mN, bN, GN⟩ := R.num.ok
  obtain ⟨fT, fdT, mT, bT, GT⟩ := GT.ok
  obtain ⟨fC, fdC, mC, kC, bC, GC⟩ := GC.ok
  obtain ⟨t12, h12⟩ := T.mostKeys
  refine F.okX scTog (fun vs H Q E ⟨S, na, n, e, _⟩ => by rw [e]; rfl) fun cdv B outer s H vs Q E hr ⟨S, na, n, e, hn, trk, qT, qF⟩ => ?_
  subst e
  have hr1 : Room 1 _ := hr.mono (by decide)
  refine ⟨_, pss_cons (ps_set (i := 1) scTog.nd rfl (.inl rfl) (pe_make mI GI hr (by rfl) T.rAt bI .nil pass0 (pa_cons (pv 0) pa_nil)))
    (pss_cons (ps_set (i := 2) scTog.nd rfl (.inl rfl) (pe_meth0 (pv 1) T.reader mN GN hr1 bN .nil pass0))
    (pss_cons (ps_if (pt_cmpR op_gt (pv 2) (pe_glob (v := .int 12) (by rfl) h12 ⟨_, rfl⟩) (nomark _)) (pss_one (ps_raise rfl (takes_of rfl rfl rfl rfl) (T.notLet.raises (by rfl)))) pss_nil)
    (pss_cons (ps_set (i := 3) scTog.nd rfl (.inl rfl) (pe_lst pa_nil))
    (pss_cons (ps_for (passes_of rfl) rfl (pi_range1 rfl T.blt.range (pa_cons (pv 2) pa_nil)) (pg_name (i := 4) scTog.nd rfl (.inl rfl))
      (pss_cons (ps_set (i := 5) scTog.nd rfl (.inl rfl) (pe_meth0 (pv 1) T.reader mN GN hr1 bN .nil pass0))
      (pss_cons (ps_set (i := 6) scTog.nd rfl (.inl rfl) (pe_meth (E := E) (pv 1) T.reader mT GT hr bT .nil (passes_call (takes_of rfl rfl rfl rfl) (fun _ _ _ _ h => h)) (pa_cons pe_int pa_nil)))
      (pss_cons (ps_set (i := 7) scTog.nd rfl (.inl rfl) (pe_meth (E := E) (pv 1) T.reader mT GT hr bT .nil (passes_call (takes_of rfl rfl rfl rfl) (fun _ _ _ _ h => h)) (pa_cons pe_int pa_nil)))
      (pss_one (ps_expr (pe_bm PySem.F.plainAttrs_list PySem.F.slot_list_append PySem.F.type_list_append mt_append (pv 3) (pa_cons (pe_tup (pa_cons (pv 5) (pa_cons (pv 6) (pa_cons (pv 7) pa_nil)))) pa_nil))))))))
    (pss_cons (ps_expr (pe_call (E := E) GC hr1 (by rfl) mC kC bC .nil (passes_call (takes_of rfl rfl rfl rfl) (fun _ _ _ _ h => h)) (pa_cons (pe_lc (own := [("row", 8)]) (g := gName 8) (tt := tYes) (te := tOp (rIxT K) (tVar 8) (tC (.int 0))) rfl scTog.nd (pi_list (pv 3)) (blkOk_by (N := nT) (sc := defScope sTog) (by decide +kernel))
      (fun _ _ _ _ _ => pg_name (i := 8) scTog.nd rfl (Or.inl rfl)) (fun _ _ _ _ _ => pts_nil) (fun _ _ _ _ _ => pe_ix ix_tup (pv 8) pe_int (fun _ _ => rfl))) pa_nil)))
    (pss_one (ps_ret (pv 3)))))))), ?_⟩
  refine ⟨_, rfl, fun r dx nr nd ne => ⟨r, dx, na, rfl, upd_same, rfl, ?_⟩⟩
  have m0 := made_reader (A := A) (na := na) nr nd ne
  have hr0 : upd (upd (upd H dx (.own r)) r (.ins A.cR dx [])) r (rO A dx na 0) r = some (rO A dx na 0) := upd_same
  generalize upd (upd (upd H dx (.own r)) r (.ins A.cR dx [])) r (rO A dx na 0) = H0 at m0 hr0 ⊢
  refine ⟨_, rfl, r, dx, _, rfl, hr0, rF_no na _ (by decide +kernel) (by decide +kernel), r, dx, na, 0, _, n.length, rfl, hr0, SqL.of (m0.at hn), rfl, ?_⟩
  have mA : Mo [] H (upd H0 r (rO A dx na (0 + 1))) := m0.laterM nr (Mo.put (List.mem_singleton.mpr rfl))
  have hrA : upd H0 r (rO A dx na (0 + 1)) r = some (rO A dx na 1) := upd_same
  generalize upd H0 r (rO A dx na (0 + 1)) = HA at mA hrA ⊢
  refine ⟨_, rfl, _, _, rfl, rfl, _, rfl, ?_⟩
  by_cases c12 : 12 < n.length
  · refine ifT (decide_eq_true (by omega)) ?_
    exact qF (fun ok => by have := ok.few; omega) _ mA
  refine ifF (decide_eq_false (by omega)) ?_
  refine ⟨(show 0 ≤ sizeLine by decide), fun Tl nTl => ?_⟩
  have nTH := mA.free nTl
  have rT : r ≠ Tl := ne_of_none hrA nTl
  have trk1 : Trk (Tl :: r :: S) (upd HA Tl (.lst [])) := by
    have t1 : Trk (r :: S) HA := fun b hb => (List.mem_cons.mp hb).elim (fun q => ⟨_, q ▸ hrA, fun _ z => by cases z⟩) (fun q => trk.mt mA.mt b q)
    exact t1.add nTl (fun _ z => by cases z)
  refine ⟨_, rfl, _, rfl, by omega, by omega, for_range (lo := 0) (n := (n.length : Int).toNat) (fun i σ G => ∃ (us : List AT3) (post : List T3) (v4 v5 v6 v7 : Option V), σ = [some (.ref na), some (.ref r), some (.int (n.length : Nat)), some (.ref Tl), v4, v5, v6, v7, none] ∧ n = us.map (·.2) ++ post ∧ us.length = i ∧ Mo [] H G ∧ RdAt A G r dx na (1 + (flatT (us.map (·.2))).length) ∧ G Tl = some (.lst (us.map rt3)) ∧ (∀ u ∈ us, TRow3 (Off (Tl :: r :: S) G) u) ∧ (∀ u ∈ us, textGood 0 u.2.2.1 ∧ textGood 0 u.2.2.2) ∧ Trk (Tl :: r :: S) G)
    ⟨[], n, none, none, none, none, rfl, rfl, rfl, mA.trans (Mo.new nTl), (upd_ne rT).trans hrA, upd_same, by simp, by simp, trk1⟩ ?_ ?_⟩
  · rintro i σ G hi ⟨us, post, v4, v5, v6, v7, rfl, en, rfl, mG, hGr, hGT, rowsU, good, trkG⟩
    have hGn : G na = some (.lst (iv (n.length :: flatT n))) := mG.at hn
    have lens : us.length + post.length = n.length := by rw [en, List.length_append, List.length_map]
    cases post with
    | nil => simp at lens; omega
    | cons x post =>
    obtain ⟨k, ta, tb⟩ := x
    have ef : n.length :: flatT n = (n.length :: flatT (us.map (·.2))) ++ (k :: ta.length :: (ta ++ tb.length :: (tb ++ flatT post))) := by
      conv => lhs; rw [en, flatT_append, flatT_cons]
      rw [← en]
      rfl
    have dr : (n.length :: flatT n).drop (1 + (flatT (us.map (·.2))).length) = k :: ta.length :: (ta ++ tb.length :: (tb ++ flatT post)) := by
      rw [ef, List.drop_left' (by rw [List.length_cons]; omega)]
    generalize hi0 : 1 + (flatT (us.map (·.2))).length = i at *
    obtain ⟨at0, _, _, _⟩ := drop_facts (t := []) (rest := ta.length :: (ta ++ tb.length :: (tb ++ flatT post))) dr
    have dr1 : (n.length :: flatT n).drop (i + 1) = ta.length :: (ta ++ tb.length :: (tb ++ flatT post)) := by
      have := congrArg List.tail dr
      rw [List.tail_drop] at this
      exact this
    have nrn : na ≠ r := ne_of_none hn nr
    refine ⟨_, rfl, r, dx, _, rfl, hGr, rF_no na _ (by decide +kernel) (by decide +kernel), r, dx, na, i, _, k, rfl, hGr, SqL.of hGn, at0, ?_⟩
    have m1 : Mo [r] G (upd G r (rO A dx na (i + 1))) := Mo.put (List.mem_singleton.mpr rfl)
    have mem3 : (k, ta, tb) ∈ n := by rw [en]; simp
    refine ⟨_, rfl, r, dx, _, rfl, upd_same, rF_no na _ (by decide +kernel) (by decide +kernel), r, dx, na, i + 1, 0, _, ta, _, rfl, upd_same, SqL.of ((upd_ne nrn).trans hGn), dr1, fun tg p np => ?_, fun tb G' m2 => qF (fun ok => tb (ok.texts _ mem3).1) G' ((mG.laterM nr m1).laterM nr m2)⟩
    have np1 := free_upd np
    rw [upd_swap (ne_of_none hGr np1), upd_twice]
    have st1 := stepped (A := A) (dx := dx) (na := na) (t := ta) (i := i) (j := i + 1 + 1 + ta.length) mG nr ⟨_, hGr⟩ trkG (List.mem_cons_of_mem _ List.mem_cons_self) np1
    have hT1 : upd (upd G p (.lst (iv ta))) r (rO A dx na (i + 1 + 1 + ta.length)) Tl = some (.lst (us.map rt3)) := (upd_ne (Ne.symm rT)).trans ((upd_ne (ne_of_none hGT np1)).trans hGT)
    generalize upd (upd G p (.lst (iv ta))) r (rO A dx na (i + 1 + 1 + ta.length)) = G1 at st1 hT1 ⊢
    have dr2 : (n.length :: flatT n).drop (i + 1 + 1 + ta.length) = tb.length :: (tb ++ flatT post) := (drop_facts dr1).2.2.2
    refine ⟨_, rfl, r, dx, _, rfl, st1.rd, rF_no na _ (by decide +kernel) (by decide +kernel), r, dx, na, i + 1 + 1 + ta.length, 0, _, tb, _, rfl, st1.rd, SqL.of (st1.mo.at hn), dr2, fun tg2 p2 np2 => ?_, fun bad G' m2 => qF (fun ok => bad (ok.texts _ mem3).2) G' (st1.mo.laterM nr m2)⟩
    have st2 := stepped (A := A) (dx := dx) (na := na) (t := tb) (i := i) (j := i + 1 + 1 + ta.length + 1 + tb.length) st1.mo nr ⟨_, st1.rd⟩ st1.trk (List.mem_cons_of_mem _ List.mem_cons_self) np2
    have hT2 : upd (upd G1 p2 (.lst (iv tb))) r (rO A dx na (i + 1 + 1 + ta.length + 1 + tb.length)) Tl = some (.lst (us.map rt3)) := (upd_ne (Ne.symm rT)).trans ((upd_ne (ne_of_none hT1 np2)).trans hT1)
    have hp12 : upd (upd G1 p2 (.lst (iv tb))) r (rO A dx na (i + 1 + 1 + ta.length + 1 + tb.length)) p = some (.lst (iv ta)) := st2.mt p _ st1.text st1.out (fun _ z => by cases z)
    generalize upd (upd G1 p2 (.lst (iv tb))) r (rO A dx na (i + 1 + 1 + ta.length + 1 + tb.length)) = G2 at st2 hT2 hp12 ⊢
    refine ⟨_, rfl, .inl ⟨rfl, _, SqL.of hT2⟩, _, rfl, _, rfl, _, rfl, (show 3 ≤ sizeLine by decide), fun tp ntp => ?_⟩
    have tT : Tl ≠ tp := ne_of_none hT2 ntp
    have mt3 : Mt (Tl :: r :: S) G2 (upd (upd G2 tp (.tup [.int (k : Nat), .ref p, .ref p2])) Tl (.lst (us.map rt3 ++ [.ref tp]))) := (Mt.new ntp).trans (Mt.put List.mem_cons_self)
    refine ⟨Tl, _, _, rfl, rfl, (upd_ne tT).trans hT2, line (by rw [List.length_map]; omega), us ++ [(tp, k, ta, tb)], post, _, _, _, _, rfl, ?_, ?_, ?_, ?_, ?_, ?_, ?_, ?_⟩
    · conv => lhs; rw [en]
      rw [List.map_append, List.append_assoc]
      rfl
    · rw [List.length_append]
      rfl
    · exact (st2.mo.trans (Mo.new ntp)).laterM nTH (Mo.put (List.mem_singleton.mpr rfl))
    · have e : 1 + (flatT ((us ++ [(tp, k, ta, tb)]).map (·.2))).length = i + 1 + 1 + ta.length + 1 + tb.length := by
        rw [List.map_append, flatT_append, List.length_append]
        have : (flatT [(k, ta, tb)]).length = ta.length + tb.length + 3 := by
          rw [flatT_cons]
          simp only [List.length_cons, List.length_append]
          show ta.length + (tb.length + 0 + 1) + 1 + 1 = _
          omega
        show 1 + ((flatT (us.map (·.2))).length + (flatT [(k, ta, tb)]).length) = _
        omega
      rw [e]
      exact (upd_ne rT).trans ((upd_ne (ne_of_none st2.rd ntp)).trans st2.rd)
    · rw [List.map_append]
      exact upd_same
    · intro u hu
      obtain hu | hu := List.mem_append.mp hu
      · exact (rowsU u hu).ext ((st1.mt.trans st2.mt).trans mt3).off
      · rw [List.mem_singleton.mp hu]
        refine ⟨p, p2, Off.in_ (st2.trk.new ntp) ((upd_ne (Ne.symm tT)).trans upd_same), ?_, ?_⟩
        · exact Off.in_ st1.out (mt3 p _ hp12 st1.out (fun _ z => by cases z))
        · exact Off.in_ st2.out (mt3 p2 _ st2.text st2.out (fun _ z => by cases z))
    · intro u hu
      obtain hu | hu := List.mem_append.mp hu
      · exact good u hu
      · rw [List.mem_singleton.mp hu]; exact ⟨tg, tg2⟩
    · exact (st2.trk.mt (Mt.new ntp)).put (fun _ z => by cases z)
  · rintro σ G ⟨us, post, v4, v5, v6, v7, rfl, en, ul, mG, hGr, hGT, rowsU, good, trkG⟩
    have lens : us.length + post.length = n.length := by rw [en, List.length_append, List.length_map]
    have p0 : post = [] := List.eq_nil_of_length_eq_zero (by omega)
    rw [p0, List.append_nil] at en
    have key : (us.map fun u => u.2.1) = n.map (·.1) := by rw [en, List.map_map]; rfl
    refine ⟨_, rfl, Tl, rfl, ⟨_, SqL.of hGT⟩, fun D nD => lc_list (K := K) (a := Tl) (xs := us.map rt3) (fun i G2 => G2 = upd G D (.lst (iv ((us.take i).map fun u => u.2.1)))) rfl (fun i G2 _ eG => by rw [eG]; exact SqL.of ((upd_ne (ne_of_none hGT nD)).trans hGT)) ?_ ?_⟩
    · rintro i v G2 hv rfl
      rw [List.getElem?_map] at hv
      cases hu : us[i]? with
      | none => rw [hu] at hv; cases hv
      | some u =>
        rw [hu] at hv
        obtain rfl := Option.some.inj hv
        obtain ⟨a, b, h1, _, _⟩ := rowsU u (List.mem_of_getElem? hu)
        have h1 := (Off.out h1).2
        refine ⟨rfl, _, rfl, u.1, _, _, _, rfl, rfl, SqT.of ((upd_ne (ne_of_none h1 nD)).trans h1), atI_nat (j := 0) rfl, _, upd_same, line ?_, ?_⟩
        · rw [iv_len, List.length_map, List.length_take]
          omega
        · rw [upd_twice, take_next hu, List.map_append, iv_cat]
          rfl
    rintro G2 rfl
    rw [List.length_map, List.take_length, key]
    have mD : Mo [] G (upd G D (.lst (iv (n.map (·.1))))) := Mo.new nD
    have hD : upd G D (.lst (iv (n.map (·.1)))) D = some (.lst (iv (n.map (·.1)))) := upd_same
    generalize upd G D (.lst (iv (n.map (·.1)))) = G2 at mD hD ⊢
    refine ⟨D, n.map (·.1), rfl, hD, fun ck => ?_, fun ck => qF (fun ok => ck ⟨by rw [List.length_map]; exact ok.few, ok.once⟩) _ (mG.trans mD)⟩
    rw [List.length_map] at ck
    refine ⟨_, rfl, qT ⟨ck.1, fun x hx => ?_, ck.2⟩ Tl G2 (mG.trans mD) ?_⟩
    · rw [en] at hx
      obtain ⟨u, hu, rfl⟩ := List.mem_map.mp hx
      exact good u hu
    · exact ⟨us, en.symm, Off.in_ (trk.new nTH) (mD.at hGT), fun u hu => ((rowsU u hu).ext (Off.less (S := S) fun b hb => List.mem_cons_of_mem _ (List.mem_cons_of_mem _ hb))).ext mD.mt.offX⟩
end
end Rd
/-! became, sure_as_number, tell_entry. -/
namespace Rd
open PySem PySem.Spec PyProof.Rows L2 LamX NdefX
section
variable {mg : Str → Option Value} {P : Program} {base : Heap} {w : World} {K : PySem.W.Frag} {A : Ad}
abbrev sBecame : Stmt := top 28
abbrev sSureN : Stmt := top 33
abbrev sTell : Stmt := top 34
def spBecame : Sp := fun vs H Q _ => ∃ (a b c : Addr) (ours began theirs : List Nat), vs = [.ref a, .ref b, .ref c] ∧ H a = some (.lst (iv ours)) ∧ H b = some (.lst (iv began)) ∧ H c = some (.lst (iv theirs)) ∧ Q (.int (Ut06.fate began ours theirs : Nat)) H
theorem scBecame : FnScope ["ours", "began", "theirs"] ["ours", "began", "theirs"] (defScope sBecame) := ⟨rfl, rfl, rfl, by decide +kernel, rfl, by decide +kernel, by decide +kernel⟩
theorem ok_became {f : Addr} {fd : FuncData} (F : Fun K "became" "became" sBecame f fd) (T : Txt K mg A) : FnOk P w K mg base CX0 1 f fd ["ours", "began", "theirs"] spBecame := by
  obtain ⟨_, h0⟩ := T.same
  obtain ⟨_, h1⟩ := T.ours
  obtain ⟨_, h2⟩ := T.theirs
  obtain ⟨_, h3⟩ := T.both
  refine F.ok scBecame (fun vs H Q E ⟨_, _, _, _, _, _, e, _⟩ => by rw [e]; rfl) fun cdv B outer s H vs Q E hr ⟨a, b, c, ours, began, theirs, e, ha, hb, hc, q⟩ => ?_
  subst e
  refine ⟨_, pss_cons (ps_if (pt_cmpR (op_eqD hr.units) (pv 0) (pv 2) (nomark _)) (pss_one (ps_ret (pe_glob (v := .int 0) (by rfl) h0 ⟨_, rfl⟩))) pss_nil)
    (pss_cons (ps_if (pt_cmpR (op_eqD hr.units) (pv 2) (pv 1) (nomark _)) (pss_one (ps_ret (pe_glob (v := .int 1) (by rfl) h1 ⟨_, rfl⟩))) pss_nil)
    (pss_cons (ps_if (pt_cmpR (op_eqD hr.units) (pv 0) (pv 1) (nomark _)) (pss_one (ps_ret (pe_glob (v := .int 2) (by rfl) h2 ⟨_, rfl⟩))) pss_nil)
    (pss_one (ps_ret (pe_glob (v := .int 3) (by rfl) h3 ⟨_, rfl⟩))))), ?_⟩
  unfold Ut06.fate at q
  refine ⟨_, rfl, _, rfl, _, _, dp_text ha, dp_text hc, shaped_text _, shaped_text _, _, rfl, ?_⟩
  rw [eqv_text]
  by_cases c1 : ours = theirs
  · rw [if_pos c1] at q
    exact ifT (decide_eq_true c1) q
  rw [if_neg c1] at q
  refine ifF (decide_eq_false c1) ⟨_, rfl, _, rfl, _, _, dp_text hc, dp_text hb, shaped_text _, shaped_text _, _, rfl, ?_⟩
  rw [eqv_text]
  by_cases c2 : theirs = began
  · rw [if_pos c2] at q
    exact ifT (decide_eq_true c2) q
  rw [if_neg c2] at q
  refine ifF (decide_eq_false c2) ⟨_, rfl, _, rfl, _, _, dp_text ha, dp_text hb, shaped_text _, shaped_text _, _, rfl, ?_⟩
  rw [eqv_text]
  by_cases c3 : ours = began
  · rw [if_pos c3] at q
    exact ifT (decide_eq_true c3) q
  · rw [if_neg c3] at q
    exact ifF (decide_eq_false c3) q
/-! ### sure_as_number, tell_entry -/
def sureN (e : Ut06.Entry) : Nat := if e.sure = true then 1 else 0
def spSureN (A : Ad) : Sp := fun vs H Q _ => ∃ (a : Addr) (e : Ut06.Entry), vs = [.ref a] ∧ EntAt A H a e ∧ Q (.int (sureN e : Nat)) H
theorem scSureN : FnScope ["entry"] ["entry"] (defScope sSureN) := ⟨rfl, rfl, rfl, by decide +kernel, rfl, by decide +kernel, by decide +kernel⟩
theorem ok_sureN {f : Addr} {fd : FuncData} (F : Fun K "sure_as_number" "sure_as_number" sSureN f fd) (T : Txt K mg A) : FnOk P w K mg base CX0 1 f fd ["entry"] (spSureN A) := by
  refine F.ok scSureN (fun vs H Q E ⟨_, _, e, _⟩ => by rw [e]; rfl) fun cdv B outer s H vs Q E hr ⟨a, e, eq, ⟨dx, ta, tb, h1, _, _⟩, q⟩ => ?_
  subst eq
  refine ⟨_, pss_one (ps_ret (pe_ifExp (pt_val (pe_fld (pv 0) rfl)) pe_int pe_int)), ?_⟩
  refine ⟨_, rfl, a, A.cE, dx, _, _, rfl, h1, T.entry, T.eSure, eF_sure e ta tb, _, rfl, ?_⟩
  unfold sureN at q
  cases c : e.sure with
  | true => rw [if_pos c] at q; exact ifT rfl q
  | false => rw [if_neg (by rw [c]; exact Bool.false_ne_true)] at q; exact ifF rfl q
theorem count_text {t : List Nat} : (((((t.map fun n : Nat => (n : Int)).length : Nat) : Int) :: t.map fun n : Nat => (n : Int))).map V.int = iv (Ut06.row t) := by
  rw [List.length_map]
  unfold Ut06.row
  rw [iv_cons, iv_ints]
  rfl
def spTell (A : Ad) : Sp := fun vs H Q _ => ∃ (a : Addr) (e : Ut06.Entry), vs = [.ref a] ∧ EntAt A H a e ∧ e.text.length ≤ 8 ∧ e.trans.length ≤ 8 ∧ ∀ p G, Mo [] H G → H p = none → G p = some (.lst (iv (Ut06.entryRow e))) → Q (.ref p) G
theorem scTell : FnScope ["entry", "source"] ["entry"] (defScope sTell) := ⟨rfl, rfl, rfl, by decide +kernel, rfl, by decide +kernel, by decide +kernel⟩
theorem ok_tell {f : Addr} {fd : FuncData} (F : Fun K "tell_entry" "tell_entry" sTell f fd) (T : Txt K mg A) (GS : Held P w K mg base CX0 1 "sure_as_number" ["entry"] (spSureN A)) (GC : Held P w K mg base CX0 1 "with_count" ["words"] spCount) : FnOk P w K mg base CX0 2 f fd ["entry"] (spTell A) := by
  obtain ⟨fS, fdS, mS, kS, bS, GS⟩ := GS
  obtain ⟨fC, fdC, mC, kC, bC, GC⟩ := GC
  refine F.ok scTell (fun vs H Q E ⟨_, _, e, _⟩ => by rw [e]; rfl) fun cdv B outer s H vs Q E hr ⟨a, e, eq, ent, l1, l2, q⟩ => ?_
  subst eq
  refine ⟨_, pss_cons (ps_set (i := 1) scTell.nd rfl (.inl rfl) (pe_ifExp (pt_cmpR op_isN (pe_fld (pv 0) rfl) pe_non (nomark _)) pe_int (pe_op op_add (pe_fld (pv 0) rfl) pe_int)))
    (pss_one (ps_ret (pe_op op_cat (pe_op op_cat (pe_lst (pa_cons (pe_call GS hr (by rfl) mS kS bS .nil pass0 (pa_cons (pv 0) pa_nil)) (pa_cons (pv 1) pa_nil))) (pe_call GC hr (by rfl) mC kC bC .nil pass0 (pa_cons (pe_fld (pv 0) rfl) pa_nil))) (pe_call GC hr (by rfl) mC kC bC .nil pass0 (pa_cons (pe_fld (pv 0) rfl) pa_nil))))), ?_⟩
  obtain ⟨dx, ta, tb, h1, h2, h3⟩ := id ent
  refine ⟨_, rfl, a, A.cE, dx, _, _, rfl, h1, T.entry, T.eSource, eF_source e ta tb, rfl, _, rfl, ?_⟩
  -- what follows, for the number m
  have fin : ∀ m : Nat, m = (if e.trans.isEmpty = true ∨ e.sure = true then 0 else e.from_ + 1) → ∀ z : Int, z = (m : Nat) → tRet (tOp (fun x y H Q => ∃ p q xs ys, x = V.ref p ∧ y = V.ref q ∧ H p = some (.lst xs) ∧ H q = some (.lst ys) ∧ xs.length + ys.length ≤ sizeLine ∧ ∀ r, H r = none → Q (.ref r) (upd H r (.lst (xs ++ ys)))) (tOp (fun x y H Q => ∃ p q xs ys, x = V.ref p ∧ y = V.ref q ∧ H p = some (.lst xs) ∧ H q = some (.lst ys) ∧ xs.length + ys.length ≤ sizeLine ∧ ∀ r, H r = none → Q (.ref r) (upd H r (.lst (xs ++ ys))))
      (tLst (tCons (tCall (spSureN A) [] E0 (tCons (tVar 0) tNil)) (tCons (tVar 1) tNil))) (tCall spCount [] E0 (tCons (tFld K (tVar 0) "text") tNil))) (tCall spCount [] E0 (tCons (tFld K (tVar 0) "translation") tNil)))
      { nx := fun _ H' => Q .non H', rt := Q } [some (.ref a), some (.int z)] H := fun m hm z hz => by
    refine ⟨_, rfl, a, e, rfl, ent, _, rfl, (show 2 ≤ sizeLine by decide), fun l nl => ?_⟩
    have m1 : Mo [] H (upd H l (.lst [.int (sureN e : Nat), .int z])) := Mo.new nl
    have hl : upd H l (.lst [.int (sureN e : Nat), .int z]) l = some (.lst [.int (sureN e : Nat), .int z]) := upd_same
    generalize upd H l (.lst [.int (sureN e : Nat), .int z]) = H1 at m1 hl ⊢
    have big := (show (2000000 : Nat) ≤ sizeLine by decide +kernel)
    refine ⟨_, rfl, a, A.cE, dx, _, _, rfl, m1.at h1, T.entry, T.eText, eF_text e ta tb, ta, e.text.map (fun n : Nat => (n : Int)), rfl, by rw [← iv_ints]; exact m1.at h2, by rw [List.length_map]; omega, fun p2 H2 m2 n2 hp2 => ?_⟩
    rw [count_text] at hp2
    have lr : ∀ t : List Nat, (iv (Ut06.row t)).length = t.length + 1 := fun t => by rw [iv_len]; rfl
    refine ⟨l, p2, _, _, rfl, rfl, m2.at hl, hp2, by rw [lr]; show 2 + _ ≤ _; omega, fun p3 n3 => ?_⟩
    have m3 : Mo [] H2 (upd H2 p3 (.lst ([.int (sureN e : Nat), .int z] ++ iv (Ut06.row e.text)))) := Mo.new n3
    have hp3 : upd H2 p3 (.lst ([.int (sureN e : Nat), .int z] ++ iv (Ut06.row e.text))) p3 = some (.lst ([.int (sureN e : Nat), .int z] ++ iv (Ut06.row e.text))) := upd_same
    generalize upd H2 p3 (.lst ([.int (sureN e : Nat), .int z] ++ iv (Ut06.row e.text))) = H3 at m3 hp3 ⊢
    have mm := (m1.trans m2).trans m3
    refine ⟨_, rfl, a, A.cE, dx, _, _, rfl, mm.at h1, T.entry, T.eTrans, eF_trans e ta tb, tb, e.trans.map (fun n : Nat => (n : Int)), rfl, by rw [← iv_ints]; exact mm.at h3, by rw [List.length_map]; omega, fun p4 H4 m4 n4 hp4 => ?_⟩
    rw [count_text] at hp4
    refine ⟨p3, p4, _, _, rfl, rfl, m4.at hp3, hp4, by rw [List.length_append, lr, lr]; show 2 + _ + _ ≤ _; omega, fun p5 n5 => ?_⟩
    refine q p5 _ ((mm.trans m4).trans (Mo.new n5)) ((mm.trans m4).free n5) (upd_same.trans ?_)
    unfold Ut06.entryRow
    rw [iv_cat, iv_cat, hz, hm]
    rfl
  unfold srcV
  by_cases c : e.trans = [] ∨ e.sure = true
  · rw [if_pos c]
    refine ifT rfl (fin 0 ?_ 0 rfl)
    rw [if_pos]
    rcases c with c | c
    · rw [c]; exact .inl rfl
    · exact .inr c
  · rw [if_neg c]
    refine ifF rfl ?_
    refine ⟨_, rfl, a, A.cE, dx, _, _, rfl, h1, T.entry, T.eSource, eF_source e ta tb, _, _, (by unfold srcV; rw [if_neg c]), rfl, fin (e.from_ + 1) ?_ _ (by omega)⟩
    rw [if_neg]
    rintro (z | z)
    · exact c (.inl (List.isEmpty_iff.mp z))
    · exact c (.inr z)
end
end Rd
/-! The catalogue as it lies in the heap; what each call is to leave. -/
namespace Rd
open PySem PySem.Spec PyProof.Rows L2 LamX NdefX
section
variable {mg : Str → Option Value} {P : Program} {base : Heap} {w : World} {K : PySem.W.Frag} {A : Ad}
abbrev AP := Addr × (List Ut06.Entry × List Ut06.Kept)
abbrev rq (q : AP) : V := .ref q.1
/-- entries at e, what is kept at k -/
structure Here (A : Ad) (G : Hp) (e k : Addr) (zs ys : List AE) (g : List Ut06.Entry) (l : List Ut06.Kept) : Prop where
  el : G e = some (.lst (zs.map rf))
  kl : G k = some (.lst (ys.map rf))
  ents : Ents A G zs
  kents : Ents A G ys
  rows : Rows g l zs ys
theorem Here.ext {G G' : Hp} {e k : Addr} {zs ys : List AE} {g : List Ut06.Entry} {l : List Ut06.Kept} (x : ExtN G G') (h : Here A G e k zs ys g l) : Here A G' e k zs ys g l :=
  ⟨x _ _ h.el (fun _ q => by cases q), x _ _ h.kl (fun _ q => by cases q), h.ents.ext x, h.kents.ext x, h.rows⟩
def PastRow (A : Ad) (G : Hp) (q : AP) : Prop := ∃ e k zs ys, G q.1 = some (.tup [.ref e, .ref k]) ∧ Here A G e k zs ys q.2.1 q.2.2
theorem PastRow.ext {G G' : Hp} {q : AP} (x : ExtN G G') : PastRow A G q → PastRow A G' q := fun ⟨e, k, zs, ys, h1, h2⟩ => ⟨e, k, zs, ys, x _ _ h1 (fun _ q => by cases q), h2.ext x⟩
structure CatP (A : Ad) (S : List Addr) (H : Hp) (c pL dx e k : Addr) (qs : List AP) (zs ys : List AE) (st : Ut06.St) : Prop where
  obj : H c = some (cO A dx e k pL)
  past : H pL = some (.lst (qs.map rq))
  here : Here A (Off S H) e k zs ys st.entries st.kept
  olds : ∀ q ∈ qs, PastRow A (Off S H) q
  old : (qs.map (·.2)).reverse = st.old
def CatAt (A : Ad) (S : List Addr) (H : Hp) (c pL : Addr) (st : Ut06.St) : Prop := ∃ dx e k qs zs ys, CatP A S H c pL dx e k qs zs ys st
theorem CatP.mt {S : List Addr} {H G : Hp} {c pL dx e k : Addr} {qs : List AP} {zs ys : List AE} {st : Ut06.St} (h : CatP A S H c pL dx e k qs zs ys st) (m : Mt [] H G) : CatP A S G c pL dx e k qs zs ys st :=
  ⟨m.at h.obj (fun _ q => by cases q), m.lst h.past, h.here.ext m.offX, fun q hq => (h.olds q hq).ext m.offX, h.old⟩
theorem CatAt.mt {S : List Addr} {H G : Hp} {c pL : Addr} {st : Ut06.St} (h : CatAt A S H c pL st) (m : Mt [] H G) : CatAt A S G c pL st := by
  obtain ⟨dx, e, k, qs, zs, ys, h⟩ := h
  exact ⟨dx, e, k, qs, zs, ys, h.mt m⟩
/-- a catalogue, and what it may be told at -/
structure Cat (A : Ad) (S : List Addr) (H : Hp) (c pL : Addr) (st : Ut06.St) : Prop where
  at_ : CatAt A S H c pL st
  cS : c ∈ S
  pS : pL ∈ S
  trk : Trk S H
  ok : OkS st
  few : st.old.length ≤ 100
/-- an exception that says a refusal -/
inductive Ref (A : Ad) : Addr → Int → Prop
  | notLet : Ref A A.xL (-1)
  | noEntry : Ref A A.xN (-2)
  | tooMuch : Ref A A.xM (-5)
  | notSure : Ref A A.xS (-6)
  | nothing : Ref A A.xU (-7)
/-- the promise of the def of the calls with the number op -/
def spAns (A : Ad) (TT : List (Addr × Str)) (op : Nat) : Sp := fun vs H Q E => ∃ (S : List Addr) (c pL na : Addr) (st : Ut06.St) (ns : List Nat) (call : Ut06.Call), vs = [.ref c, .ref na] ∧ Cat A S H c pL st ∧ H na = some (.lst (iv ns)) ∧ ns.length ≤ 20000 ∧ Told op ns call ∧ Tabs TT H ∧
  (∀ p G, Mt [c, pL] H G → Tabs TT G → CatAt A S G c pL (Ut06.step st call).1 → G p = some (.lst ((Ut06.step st call).2.map V.int)) → Q (.ref p) G) ∧
  (∀ X n G, Ref A X n → Ut06.step st call = (st, [n]) → Mt [] H G → Tabs TT G → E (.ref X) none G)
/-- what is kept, of an entry that is sure -/
abbrev norm (z : AE) : AE := (z.1, asE (kOf z))
theorem norm_ent {G : Hp} {z : AE} (h : EntAt A G z.1 z.2) (s : z.2.sure = true) : EntAt A G (norm z).1 (norm z).2 := by
  obtain ⟨dx, a, b, h1, h2, h3⟩ := h
  refine ⟨dx, a, b, ?_, h2, h3⟩
  have e : eF z.2 a b = eF (asE (kOf z)) a b := by
    unfold eF srcV
    rw [if_pos (.inr s), if_pos (.inr rfl)]
    show [_, _, _, (_, V.bl z.2.sure), _] = [_, _, _, (_, V.bl true), _]
    rw [s]
    rfl
  rw [← e]
  exact h1
theorem norm_rf (zs : List AE) : (zs.map norm).map rf = zs.map rf := by rw [List.map_map]; rfl
/-- what is kept of rows of sure entries -/
theorem kept_rows {zs : List AE} : (zs.map norm).map (·.2) = (zs.map kOf).map asE := by
  rw [List.map_map]
  rw [List.map_map]
  rfl
/-- the state behind remember and the stores -/
theorem committed {S : List Addr} {H G : Hp} {c pL dx e k t e' k' : Addr} {qs : List AP} {zs ys zs' ys' : List AE} {st : Ut06.St} {g' : List Ut06.Entry} {l' : List Ut06.Kept} (h : CatP A S H c pL dx e k qs zs ys st) (cS : c ∈ S) (pS : pL ∈ S) (m : Mt [c, pL] H G) (tS : t ∉ S) (ht : G t = some (.tup [.ref e, .ref k]))
    (obj : G c = some (cO A dx e' k' pL)) (past : G pL = some (.lst (qs.map rq ++ [.ref t]))) (new : Here A (Off S G) e' k' zs' ys' g' l') : CatP A S G c pL dx e' k' (qs ++ [(t, st.entries, st.kept)]) zs' ys' (Ut06.becomes st g' l') := by
  have x : ExtN (Off S H) (Off S G) := (m.more (R := S) fun b hb => by
    obtain rfl | hb := List.mem_cons.mp hb
    · exact cS
    · rw [List.mem_singleton.mp hb]; exact pS).off
  refine ⟨obj, ?_, new, fun q hq => ?_, ?_⟩
  · rw [List.map_append]
    exact past
  · obtain hq | hq := List.mem_append.mp hq
    · exact (h.olds q hq).ext x
    · have one := List.mem_singleton.mp hq
      subst one
      exact ⟨e, k, zs, ys, Off.in_ tS ht, h.here.ext x⟩
  · rw [List.map_append, List.reverse_append, h.old]
    rfl
theorem toldV_is {zs ys : List AE} {g : List Ut06.Entry} {l : List Ut06.Kept} (r : Rows g l zs ys) (o : List (List Ut06.Entry × List Ut06.Kept)) : toldV zs (ys.map rf).length = (Ut06.told ⟨g, l, o⟩).map V.int := by
  have h1 : zs.length = g.length := by rw [← r.ents, List.length_map]
  have h2 : ys.length = l.length := by
    have := congrArg List.length r.kept
    rwa [List.length_map, List.length_map] at this
  have h3 : ∀ p : Ut06.Entry → Bool, (g.filter p).length = (zs.filter fun z => p z.2).length := fun p => by
    rw [← r.ents, List.filter_map, List.length_map]
    rfl
  unfold toldV Ut06.told
  show _ = [V.int (g.length : Nat), V.int ((g.filter fun e => e.sure).length : Nat), V.int ((g.filter fun e => !e.sure && !e.trans.isEmpty).length : Nat), V.int (l.length : Nat)]
  rw [List.length_map, h1, h2, h3, h3]
theorem Trk.off {S : List Addr} {H G : Hp} {c pL : Addr} {st : Ut06.St} (t : Trk S H) (m : Mt [c, pL] H G) (h : CatAt A S G c pL st) : Trk S G := fun b hb => by
  obtain ⟨dx, e, k, qs, zs, ys, h⟩ := h
  by_cases b1 : b = c
  · exact ⟨_, b1 ▸ h.obj, fun _ z => by cases z⟩
  by_cases b2 : b = pL
  · exact ⟨_, b2 ▸ h.past, fun _ z => by cases z⟩
  obtain ⟨o, eo, nt⟩ := t b hb
  refine ⟨o, m b o eo (fun q => ?_) nt, nt⟩
  obtain q | q := List.mem_cons.mp q
  · exact b1 q
  · exact b2 (List.mem_singleton.mp q)
theorem Mt.two {H G : Hp} {c pL : Addr} (m : Mt [] H G) : Mt [c, pL] H G := m.more fun _ q => absurd q List.not_mem_nil
end
end Rd
/-! answer_entry, answer_shows, answer_kept. -/
namespace Rd
open PySem PySem.Spec PyProof.Rows L2 LamX NdefX
section
variable {mg : Str → Option Value} {P : Program} {base : Heap} {w : World} {K : PySem.W.Frag} {A : Ad} {TT : List (Addr × Str)}
abbrev sAEntry : Stmt := top 35
abbrev sAShows : Stmt := top 36
abbrev sAKept : Stmt := top 37
abbrev c2 : List Str := ["catalogue", "numbers"]
/-- what comes out by the numbers, as they are told -/
theorem iv_told (l : List Nat) : iv l = (Ut06.ints l).map V.int := iv_ints l
theorem scAEntry : FnScope c2 c2 (defScope sAEntry) := ⟨rfl, rfl, rfl, by decide +kernel, rfl, by decide +kernel, by decide +kernel⟩
theorem ok_aentry {f : Addr} {fd : FuncData} (F : Fun K "answer_entry" "answer_entry" sAEntry f fd) (T : Txt K mg A) (GO : HeldM P w K mg base (L2.CX P w) 1 A.cC "entry_of" ["self", "key"] (spCOf A)) (GT : Held P w K mg base CX0 2 "tell_entry" ["entry"] (spTell A)) : FnOk P w K mg base (L2.CX P w) 3 f fd c2 (spAns A TT 4) := by
  obtain ⟨fO, fdO, mO, bO, GO⟩ := GO
  obtain ⟨fT, fdT, mT, kT, bT, GT⟩ := GT
  refine F.okX scAEntry (fun vs H Q E ⟨_, _, _, _, _, _, _, e, _⟩ => by rw [e]; rfl) fun cdv B outer s H vs Q E hr ⟨S, c, pL, na, st, ns, call, e, cat, hn, small, told, tabs, qS, qR⟩ => ?_
  subst e
  have hr1 : Room 1 _ := hr.mono (by decide)
  refine ⟨_, pss_one (ps_ret (pe_call GT hr (by rfl) mT kT bT .nil pass0 (pa_cons (pe_meth (E := E) (pv 0) T.cat mO GO hr1 bO .nil (passes_call (takes_of rfl rfl rfl rfl) (fun _ _ _ _ h => h)) (pa_cons (pe_ix ix_list (pv 1) pe_int (fun _ _ => rfl)) pa_nil)) pa_nil))), ?_⟩
  cases told with
  | entry n =>
    obtain ⟨dx, e, k, qs, zs, ys, cp⟩ := id cat.at_
    have el := (Off.out cp.here.el).2
    have ents : Ents A H zs := cp.here.ents.ext Off.sub
    refine ⟨_, rfl, c, dx, _, rfl, cp.obj, cF_no e k pL (by decide +kernel) (by decide +kernel) (by decide +kernel), _, rfl, na, _, _, _, rfl, rfl, SqL.of hn, atI_nat (j := 0) rfl, c, dx, e, k, pL, zs, n, rfl, cp.obj, el, ents, fun no => ?_, fun a x ex mz => ?_⟩
    · rw [cp.here.rows.ents] at no
      refine qR A.xN (-2) H .noEntry ?_ Mt.rfl tabs
      show (st, _) = _
      rw [no]
    · rw [cp.here.rows.ents] at ex
      have wd := cat.ok.now.words x (entryOf_mem ex).1
      refine ⟨a, x, rfl, ents _ mz, wd.1, wd.2, fun p G m np hp => ?_⟩
      refine qS p G m.mt.two (m.tabs tabs) (cat.at_.mt m.mt) ?_
      rw [hp, iv_told]
      show _ = some (HO.lst (List.map V.int (match Ut06.entryOf st.entries n with | none => [-2] | some e => Ut06.ints (Ut06.entryRow e))))
      rw [ex]
/-! ### answer_shows -/
abbrev nSh : List Str := ["catalogue", "numbers", "told", "entry"]
theorem scAShows : FnScope nSh c2 (defScope sAShows) := ⟨rfl, rfl, rfl, by decide +kernel, rfl, by decide +kernel, by decide +kernel⟩
def showsRow (e : Ut06.Entry) : List Nat := [e.key, if e.sure = true then 1 else 0, e.trans.length]
theorem ok_ashows {f : Addr} {fd : FuncData} (F : Fun K "answer_shows" "answer_shows" sAShows f fd) (T : Txt K mg A) (GS : Held P w K mg base CX0 1 "sure_as_number" ["entry"] (spSureN A)) : FnOk P w K mg base (L2.CX P w) 2 f fd c2 (spAns A TT 5) := by
  obtain ⟨fS, fdS, mS, kS, bS, GS⟩ := GS
  refine F.okX scAShows (fun vs H Q E ⟨_, _, _, _, _, _, _, e, _⟩ => by rw [e]; rfl) fun cdv B outer s H vs Q E hr ⟨S, c, pL, na, st, ns, call, e, cat, hn, small, told, tabs, qS, qR⟩ => ?_
  subst e
  refine ⟨_, pss_cons (ps_set (i := 2) scAShows.nd rfl (.inl rfl) (pe_lst (pa_cons (pe_callB call_len_seq (by rfl) T.blt.len PySem.boot_len (pa_cons (pe_fld (pv 0) rfl) pa_nil)) pa_nil)))
    (pss_cons (ps_for (passes_of rfl) rfl (pi_list (pe_fld (pv 0) rfl)) (pg_name (i := 3) scAShows.nd rfl (.inl rfl))
      (pss_one (ps_expr (pe_bm PySem.F.plainAttrs_list PySem.F.slot_list_extend PySem.F.type_list_extend mt_extend (pv 2) (pa_cons (pe_lst (pa_cons (pe_fld (pv 3) rfl) (pa_cons (pe_call GS hr (by rfl) mS kS bS .nil pass0 (pa_cons (pv 3) pa_nil)) (pa_cons (pe_callB call_len_seq (by rfl) T.blt.len PySem.boot_len (pa_cons (pe_fld (pv 3) rfl) pa_nil)) pa_nil)))) pa_nil)))))
    (pss_one (ps_ret (pv 2)))), ?_⟩
  cases told with
  | shows =>
    obtain ⟨dx, e, k, qs, zs, ys, cp⟩ := id cat.at_
    have el := (Off.out cp.here.el).2
    have ents : Ents A H zs := cp.here.ents.ext Off.sub
    obtain ⟨lz, ly⟩ := cp.here.rows.lens cat.ok.now
    have big := (show (2000000 : Nat) ≤ sizeLine by decide +kernel)
    refine ⟨_, rfl, c, A.cC, dx, _, _, rfl, cp.obj, T.cat, T.cEntries, cF_e e k pL, e, _, rfl, .inl (SqL.of el), (show 1 ≤ sizeLine by decide), fun L nL => ?_⟩
    rw [List.length_map]
    have m1 : Mo [] H (upd H L (.lst [.int (zs.length : Nat)])) := Mo.new nL
    refine ⟨_, rfl, c, A.cC, dx, _, _, rfl, m1.at cp.obj, T.cat, T.cEntries, cF_e e k pL, e, rfl, ⟨_, SqL.of (m1.at el)⟩, for_list (K := K) (a := e) (xs := zs.map rf) (fun i σ G => (∃ v, σ = [some (.ref c), some (.ref na), some (.ref L), v]) ∧ Mo [] H G ∧ G L = some (.lst (iv (zs.length :: ((zs.take i).flatMap fun z => showsRow z.2)))))
      ⟨⟨none, rfl⟩, m1, upd_same⟩ (fun i σ G _ ⟨_, m, _⟩ => SqL.of (m.at el)) ?_ ?_⟩
    · rintro i v σ G hv ⟨⟨o, rfl⟩, m, hL⟩
      obtain ⟨z, hz, rfl, mz⟩ := rf_get hv
      obtain ⟨dz, ta, tb, hz1, hza, hzb⟩ := m.mt.ent (ents z mz)
      refine ⟨_, rfl, .inl ⟨rfl, _, SqL.of hL⟩, _, rfl, z.1, A.cE, dz, _, _, rfl, hz1, T.entry, T.eKey, eF_key z.2 ta tb, _, rfl, z.1, z.2, rfl, ⟨dz, ta, tb, hz1, hza, hzb⟩, _, rfl, z.1, A.cE, dz, _, _, rfl, hz1, T.entry, T.eTrans, eF_trans z.2 ta tb, tb, _, rfl, .inl (SqL.of hzb), (show 3 ≤ sizeLine by decide), fun q nq => ?_⟩
      rw [iv_len]
      have nLH : H L = none := nL
      have fl : (zs.take i).length ≤ 12 := by rw [List.length_take]; omega
      have fm : ∀ l : List AE, (l.flatMap fun z => showsRow z.2).length = 3 * l.length := fun l => by
        induction l with
        | nil => rfl
        | cons x r ih => rw [List.flatMap_cons, List.length_append, ih]; show 3 + _ = 3 * (r.length + 1); omega
      refine ⟨L, q, _, _, rfl, rfl, (upd_ne (ne_of_none hL nq)).trans hL, upd_same, ?_, ⟨_, rfl⟩, (m.trans (Mo.new nq)).later nLH, upd_same.trans ?_⟩
      · rw [iv_len, List.length_cons, fm]
        show _ + 3 ≤ _
        omega
      · rw [take_next hz, List.flatMap_append, ← List.cons_append, iv_cat]
        rfl
    · rintro σ G ⟨⟨o, rfl⟩, m, hL⟩
      rw [List.length_map, List.take_length] at hL
      refine ⟨_, rfl, qS L G m.mt.two (m.tabs tabs) (cat.at_.mt m.mt) (hL.trans ?_)⟩
      rw [iv_told]
      show _ = some (HO.lst ((Ut06.ints (st.entries.length :: st.entries.flatMap showsRow)).map V.int))
      rw [← cp.here.rows.ents, List.length_map, List.flatMap_map]
/-! ### answer_kept -/
abbrev nKp : List Str := ["catalogue", "numbers", "told", "one"]
theorem scAKept : FnScope nKp c2 (defScope sAKept) := ⟨rfl, rfl, rfl, by decide +kernel, rfl, by decide +kernel, by decide +kernel⟩
def keptRow (x : Ut06.Kept) : List Nat := x.key :: (Ut06.row x.text ++ Ut06.row x.trans)
theorem ok_akept {f : Addr} {fd : FuncData} (F : Fun K "answer_kept" "answer_kept" sAKept f fd) (T : Txt K mg A) (GC : Held P w K mg base CX0 1 "with_count" ["words"] spCount) : FnOk P w K mg base (L2.CX P w) 2 f fd c2 (spAns A TT 6) := by
  obtain ⟨fC, fdC, mC, kC, bC, GC⟩ := GC
  refine F.okX scAKept (fun vs H Q E ⟨_, _, _, _, _, _, _, e, _⟩ => by rw [e]; rfl) fun cdv B outer s H vs Q E hr ⟨S, c, pL, na, st, ns, call, e, cat, hn, small, told, tabs, qS, qR⟩ => ?_
  subst e
  refine ⟨_, pss_cons (ps_set (i := 2) scAKept.nd rfl (.inl rfl) (pe_lst (pa_cons (pe_callB call_len_seq (by rfl) T.blt.len PySem.boot_len (pa_cons (pe_fld (pv 0) rfl) pa_nil)) pa_nil)))
    (pss_cons (ps_for (passes_of rfl) rfl (pi_list (pe_fld (pv 0) rfl)) (pg_name (i := 3) scAKept.nd rfl (.inl rfl))
      (pss_one (ps_expr (pe_bm PySem.F.plainAttrs_list PySem.F.slot_list_extend PySem.F.type_list_extend mt_extend (pv 2) (pa_cons (pe_op op_cat (pe_op op_cat (pe_lst (pa_cons (pe_fld (pv 3) rfl) pa_nil)) (pe_call GC hr (by rfl) mC kC bC .nil pass0 (pa_cons (pe_fld (pv 3) rfl) pa_nil))) (pe_call GC hr (by rfl) mC kC bC .nil pass0 (pa_cons (pe_fld (pv 3) rfl) pa_nil))) pa_nil)))))
    (pss_one (ps_ret (pv 2)))), ?_⟩
  cases told with
  | kept =>
    obtain ⟨dx, e, k, qs, zs, ys, cp⟩ := id cat.at_
    have kl := (Off.out cp.here.kl).2
    have ents : Ents A H ys := cp.here.kents.ext Off.sub
    obtain ⟨lz, ly⟩ := cp.here.rows.lens cat.ok.now
    have big := (show (2000000 : Nat) ≤ sizeLine by decide +kernel)
    have kw : ∀ z ∈ ys, z.2.text.length ≤ 8 ∧ z.2.trans.length ≤ 8 := fun z hz => by
      have : z.2 ∈ st.kept.map asE := by rw [← cp.here.rows.kept]; exact List.mem_map.mpr ⟨z, hz, rfl⟩
      obtain ⟨x, hx, ex⟩ := List.mem_map.mp this
      have := cat.ok.now.kwords x hx
      rw [← ex]
      exact ⟨this.1, this.2.1⟩
    refine ⟨_, rfl, c, A.cC, dx, _, _, rfl, cp.obj, T.cat, T.cKept, cF_k e k pL, k, _, rfl, .inl (SqL.of kl), (show 1 ≤ sizeLine by decide), fun L nL => ?_⟩
    rw [List.length_map]
    have m1 : Mo [] H (upd H L (.lst [.int (ys.length : Nat)])) := Mo.new nL
    refine ⟨_, rfl, c, A.cC, dx, _, _, rfl, m1.at cp.obj, T.cat, T.cKept, cF_k e k pL, k, rfl, ⟨_, SqL.of (m1.at kl)⟩, for_list (K := K) (a := k) (xs := ys.map rf) (fun i σ G => (∃ v, σ = [some (.ref c), some (.ref na), some (.ref L), v]) ∧ Mo [] H G ∧ G L = some (.lst (iv (ys.length :: ((ys.take i).flatMap fun z => keptRow (kOf z))))) ∧ ((ys.take i).flatMap fun z => keptRow (kOf z)).length ≤ 100 * i)
      ⟨⟨none, rfl⟩, m1, upd_same, Nat.le_refl _⟩ (fun i σ G _ ⟨_, m, _⟩ => SqL.of (m.at kl)) ?_ ?_⟩
    · rintro i v σ G hv ⟨⟨o, rfl⟩, m, hL, len⟩
      obtain ⟨z, hz, rfl, mz⟩ := rf_get hv
      obtain ⟨dz, ta, tb, hz1, hza, hzb⟩ := m.mt.ent (ents z mz)
      have lw := kw z mz
      have li : i < ys.length := (List.getElem?_eq_some_iff.mp hz).1
      have lr : ∀ t : List Nat, (iv (Ut06.row t)).length = t.length + 1 := fun t => by rw [iv_len]; rfl
      refine ⟨_, rfl, .inl ⟨rfl, _, SqL.of hL⟩, _, rfl, z.1, A.cE, dz, _, _, rfl, hz1, T.entry, T.eKey, eF_key z.2 ta tb, (show 1 ≤ sizeLine by decide), fun q nq => ?_⟩
      have m2 : Mo [] G (upd G q (.lst [.int (z.2.key : Nat)])) := Mo.new nq
      have hq : upd G q (.lst [.int (z.2.key : Nat)]) q = some (.lst [.int (z.2.key : Nat)]) := upd_same
      generalize upd G q (.lst [.int (z.2.key : Nat)]) = G2 at m2 hq ⊢
      refine ⟨_, rfl, z.1, A.cE, dz, _, _, rfl, m2.at hz1, T.entry, T.eText, eF_text z.2 ta tb, ta, z.2.text.map (fun n : Nat => (n : Int)), rfl, by rw [← iv_ints]; exact m2.at hza, by rw [List.length_map]; omega, fun p3 G3 m3 n3 h3 => ?_⟩
      rw [count_text] at h3
      refine ⟨q, p3, _, _, rfl, rfl, m3.at hq, h3, by rw [lr]; show 1 + _ ≤ _; omega, fun p4 n4 => ?_⟩
      have m4 : Mo [] G3 (upd G3 p4 (.lst ([.int (z.2.key : Nat)] ++ iv (Ut06.row z.2.text)))) := Mo.new n4
      have h4 : upd G3 p4 (.lst ([.int (z.2.key : Nat)] ++ iv (Ut06.row z.2.text))) p4 = some (.lst ([.int (z.2.key : Nat)] ++ iv (Ut06.row z.2.text))) := upd_same
      generalize upd G3 p4 (.lst ([.int (z.2.key : Nat)] ++ iv (Ut06.row z.2.text))) = G4 at m4 h4 ⊢
      have mm := (m2.trans m3).trans m4
      refine ⟨_, rfl, z.1, A.cE, dz, _, _, rfl, mm.at hz1, T.entry, T.eTrans, eF_trans z.2 ta tb, tb, z.2.trans.map (fun n : Nat => (n : Int)), rfl, by rw [← iv_ints]; exact mm.at hzb, by rw [List.length_map]; omega, fun p5 G5 m5 n5 h5 => ?_⟩
      rw [count_text] at h5
      refine ⟨p4, p5, _, _, rfl, rfl, m5.at h4, h5, by rw [List.length_append, lr, lr]; show 1 + _ + _ ≤ _; omega, fun p6 n6 => ?_⟩
      have m6 := (mm.trans m5).trans (Mo.new (o := .lst (([.int (z.2.key : Nat)] ++ iv (Ut06.row z.2.text)) ++ iv (Ut06.row z.2.trans))) n6)
      have rowLen : (keptRow (kOf z)).length = z.2.text.length + z.2.trans.length + 3 := by
        show (z.2.key :: (z.2.text.length :: z.2.text ++ z.2.trans.length :: z.2.trans)).length = _
        simp only [List.length_cons, List.length_append]
        omega
      refine ⟨L, p6, _, _, rfl, rfl, m6.at hL, upd_same, ?_, ⟨_, rfl⟩, (m.trans m6).later nL, upd_same.trans ?_, ?_⟩
      · rw [iv_len, List.length_cons, List.length_append, List.length_append, lr, lr]
        show _ + (1 + _ + _) ≤ _
        omega
      · rw [take_next hz, List.flatMap_append, ← List.cons_append, iv_cat]
        refine congrArg (fun l => some (HO.lst (iv (ys.length :: (ys.take i).flatMap fun z => keptRow (kOf z)) ++ l))) ?_
        show _ = iv ([z].flatMap fun z => keptRow (kOf z))
        rw [List.flatMap_singleton]
        show ([V.int (z.2.key : Nat)] ++ iv (Ut06.row z.2.text)) ++ iv (Ut06.row z.2.trans) = iv (z.2.key :: (Ut06.row z.2.text ++ Ut06.row z.2.trans))
        rw [iv_cons, iv_cat]
        rfl
      · rw [take_next hz, List.flatMap_append, List.length_append, List.flatMap_singleton, rowLen]
        omega
    · rintro σ G ⟨⟨o, rfl⟩, m, hL, _⟩
      rw [List.length_map, List.take_length] at hL
      refine ⟨_, rfl, qS L G m.mt.two (m.tabs tabs) (cat.at_.mt m.mt) (hL.trans ?_)⟩
      rw [iv_told]
      show _ = some (HO.lst ((Ut06.ints (st.kept.length :: st.kept.flatMap keptRow)).map V.int))
      have e1 : ys.map kOf = st.kept := by
        have := congrArg (List.map toK) cp.here.rows.kept
        rw [List.map_map, List.map_map] at this
        refine this.trans ?_
        rw [show toK ∘ asE = id from funext fun x => rfl, List.map_id]
      rw [← e1, List.length_map, List.flatMap_map]
end
end Rd
/-! answer_would, answer_undo, answer_far. -/
namespace Rd
open PySem PySem.Spec PyProof.Rows L2 LamX NdefX
section
variable {mg : Str → Option Value} {P : Program} {base : Heap} {w : World} {K : PySem.W.Frag} {A : Ad} {TT : List (Addr × Str)}
abbrev sAWould : Stmt := top 38
abbrev sAUndo : Stmt := top 39
abbrev sAFar : Stmt := top 40
abbrev nW : List Str := ["catalogue", "numbers", "row"]
theorem scAWould : FnScope nW c2 (defScope sAWould) := ⟨rfl, rfl, rfl, by decide +kernel, rfl, by decide +kernel, by decide +kernel⟩
theorem ok_awould {f : Addr} {fd : FuncData} (F : Fun K "answer_would" "answer_would" sAWould f fd) (T : Txt K mg A) (GR : Held P w K mg base (L2.CX P w) 3 "read_release" ["numbers"] (spRel A)) (GI : HeldM P w K mg base CX0 5 A.cC "in_release" ["self", "key", "text"] (spIn A TT)) (GT : Held P w K mg base CX0 2 "tell_entry" ["entry"] (spTell A)) : FnOk P w K mg base (L2.CX P w) 6 f fd c2 (spAns A TT 7) := by
  obtain ⟨fR, fdR, mR, kR, bR, GR⟩ := GR
  obtain ⟨fI, fdI, mI, bI, GI⟩ := GI
  obtain ⟨fT, fdT, mT, kT, bT, GT⟩ := GT
  refine F.okX scAWould (fun vs H Q E ⟨_, _, _, _, _, _, _, e, _⟩ => by rw [e]; rfl) fun cdv B outer s H vs Q E hr ⟨S, c, pL, na, st, ns, call, e, cat, hn, small, told, tabs, qS, qR⟩ => ?_
  subst e
  have hr3 : Room 3 _ := hr.mono (by decide)
  have hr2 : Room 2 _ := hr.mono (by decide)
  refine ⟨_, pss_cons (ps_set (i := 2) scAWould.nd rfl (.inl rfl) (pe_ix ix_list (pe_call (E := E) GR hr3 (by rfl) mR kR bR .nil (passes_call (takes_of rfl rfl rfl rfl) (fun _ _ _ _ h => h)) (pa_cons (pv 1) pa_nil)) pe_int (fun _ _ => rfl)))
    (pss_one (ps_ret (pe_call GT hr2 (by rfl) mT kT bT .nil pass0 (pa_cons (pe_meth (pv 0) T.cat mI GI hr bI .nil pass0 (pa_cons (pe_ix ix_tup (pv 2) pe_int (fun _ _ => rfl)) (pa_cons (pe_ix ix_tup (pv 2) pe_int (fun _ _ => rfl)) pa_nil))) pa_nil)))), ?_⟩
  cases told with
  | would n t =>
    have fl : n :: t.length :: t = flatR [(n, t)] := by rw [flatR_cons]; show _ = n :: t.length :: (t ++ []); rw [List.append_nil]
    have okIff : RelOk [(n, t)] ↔ textGood 1 t ∧ n ≤ 99 := ⟨fun h => ⟨h.texts _ List.mem_cons_self, h.keys _ List.mem_cons_self⟩, fun h => ⟨by show 1 ≤ 12; decide, fun x hx => by rw [List.mem_singleton.mp hx]; exact h.1, fun x hx => by rw [List.mem_singleton.mp hx]; exact h.2, by simp⟩⟩
    refine ⟨_, rfl, S, na, [(n, t)], rfl, by rw [← fl]; exact hn, by rw [← fl]; exact small, cat.trk, fun ok l G m told => ?_, fun bad G m => ?_⟩
    · obtain ⟨us, eu, hl, rows⟩ := told
      obtain ⟨ok1, ok2⟩ := okIff.mp ok
      obtain ⟨u, rfl⟩ : ∃ u, us = [u] := List.length_eq_one_iff.mp (by have := congrArg List.length eu; simpa using this)
      obtain ⟨ua, uk, ut⟩ := u
      have eu1 : (uk, ut) = (n, t) := (List.cons.inj eu).1
      obtain ⟨rfl, rfl⟩ := Prod.mk.inj eu1
      obtain ⟨ta, h1, h2⟩ := rows _ List.mem_cons_self
      have h1' := (Off.out h1).2
      have catG := cat.at_.mt m.mt
      obtain ⟨dx, e, k, qs, zs, ys, cp⟩ := id catG
      refine ⟨l, _, _, _, rfl, rfl, SqL.of (Off.out hl).2, atI_nat (j := 0) rfl, ?_⟩
      refine ⟨_, rfl, c, dx, _, rfl, cp.obj, cF_no e k pL (by decide +kernel) (by decide +kernel) (by decide +kernel), _, rfl, ua, _, _, _, rfl, rfl, SqT.of h1', atI_nat (j := 0) rfl, _, rfl, ua, _, _, _, rfl, rfl, SqT.of h1', atI_nat (j := 1) rfl,
        S, c, dx, e, k, pL, ta, zs, ys, st.entries, st.kept, uk, ut, rfl, cat.trk.mt m.mt, cp.obj, (Off.out cp.here.el).2, (Off.out cp.here.kl).2, cp.here.ents, cp.here.kents, cp.here.rows, cat.ok.now, h2, ok1.2.1, m.tabs tabs, fun a G2 m2 tabs2 ent => ?_⟩
      rw [inRel_eq cat.ok.now.keys] at ent
      have rl := released_is cat.ok.now (k := uk) ok1.2.1
      refine ⟨a, _, rfl, ent.ext Off.sub, by rw [rl.2.1]; exact ok1.2.1, rl.2.2.1, fun p G3 m3 np hp => ?_⟩
      have mm : Mt [] H G3 := (m.mt.trans m2).trans m3.mt
      refine qS p G3 mm.two (m3.tabs tabs2) ?_ ?_
      · rw [step_would ok1 ok2]
        exact cat.at_.mt mm
      · rw [step_would ok1 ok2, hp, iv_told]
    · exact qR A.xL (-1) G .notLet (step_would_no fun h => bad (okIff.mpr h)) m.mt (m.tabs tabs)
/-! ### answer_undo -/
theorem scAUndo : FnScope c2 c2 (defScope sAUndo) := ⟨rfl, rfl, rfl, by decide +kernel, rfl, by decide +kernel, by decide +kernel⟩
theorem ok_aundo {f : Addr} {fd : FuncData} (F : Fun K "answer_undo" "answer_undo" sAUndo f fd) (T : Txt K mg A) (GB : HeldM P w K mg base (L2.CX P w) 1 A.cC "go_back" ["self"] (spCBack A)) (GS : HeldM P w K mg base CX0 1 A.cC "stands" ["self"] (spCStands A)) : FnOk P w K mg base (L2.CX P w) 2 f fd c2 (spAns A TT 8) := by
  obtain ⟨fB, fdB, mB, bB, GB⟩ := GB
  obtain ⟨fS, fdS, mS, bS, GS⟩ := GS
  refine F.okX scAUndo (fun vs H Q E ⟨_, _, _, _, _, _, _, e, _⟩ => by rw [e]; rfl) fun cdv B outer s H vs Q E hr ⟨S, c, pL, na, st, ns, call, e, cat, hn, small, told, tabs, qS, qR⟩ => ?_
  subst e
  refine ⟨_, pss_cons (ps_expr (pe_meth0 (E := E) (pv 0) T.cat mB GB hr bB .nil (passes_call (takes_of rfl rfl rfl rfl) (fun _ _ _ _ h => h))))
    (pss_one (ps_ret (pe_meth0 (pv 0) T.cat mS GS hr bS .nil pass0))), ?_⟩
  cases told with
  | undo =>
    obtain ⟨dx, e, k, qs, zs, ys, cp⟩ := id cat.at_
    refine ⟨_, rfl, c, dx, _, rfl, cp.obj, cF_no e k pL (by decide +kernel) (by decide +kernel) (by decide +kernel), c, dx, e, k, pL, qs.map rq, rfl, cp.obj, cp.past, ?_⟩
    cases hq : qs.reverse with
    | nil =>
      have q0 : qs = [] := List.reverse_eq_nil_iff.mp hq
      have o0 : st.old = [] := by rw [← cp.old, q0]; rfl
      refine .inl ⟨by rw [q0]; rfl, qR A.xU (-7) H .nothing ?_ Mt.rfl tabs⟩
      show (match st.old with | [] => (st, [-7]) | x :: l => _) = _
      rw [o0]
    | cons q r =>
      have q1 : qs = r.reverse ++ [q] := by rw [← List.reverse_reverse qs, hq, List.reverse_cons]
      have o1 : st.old = q.2 :: r.map (·.2) := by
        rw [← cp.old, ← List.map_reverse, hq]
        rfl
      have hmem : q ∈ qs := by rw [q1]; simp
      obtain ⟨e', k', zs', ys', ht, hereO⟩ := cp.olds q hmem
      have ht' := (Off.out ht).2
      refine .inr ⟨r.reverse.map rq, q.1, e', k', by rw [q1, List.map_append]; rfl, ht', ?_⟩
      have okq : Ok1 q.2.1 q.2.2 := cat.ok.past q.2 (by rw [o1]; exact List.mem_cons_self)
      have m1 : Mt [c, pL] H (upd (upd H pL (.lst (r.reverse.map rq))) c (cO A dx e' k' pL)) := (Mt.put (List.mem_cons_of_mem _ (List.mem_singleton.mpr rfl))).trans (Mt.put List.mem_cons_self)
      have x1 : ExtN (Off S H) (Off S (upd (upd H pL (.lst (r.reverse.map rq))) c (cO A dx e' k' pL))) := (m1.more (R := S) fun b hb => by
        obtain rfl | hb := List.mem_cons.mp hb
        · exact cat.cS
        · rw [List.mem_singleton.mp hb]; exact cat.pS).off
      have cpl : c ≠ pL := ne_of cp.obj cp.past (by intro z; cases z)
      have cp1 : CatP A S (upd (upd H pL (.lst (r.reverse.map rq))) c (cO A dx e' k' pL)) c pL dx e' k' r.reverse zs' ys' ⟨q.2.1, q.2.2, r.map (·.2)⟩ := ⟨upd_same, (upd_ne (Ne.symm cpl)).trans upd_same, hereO.ext x1, fun p hp => (cp.olds p (by rw [q1]; exact List.mem_append_left _ hp)).ext x1, by rw [List.map_reverse, List.reverse_reverse]⟩
      have tb1 : Tabs TT (upd (upd H pL (.lst (r.reverse.map rq))) c (cO A dx e' k' pL)) := fun p hp => by
        obtain ⟨tps, h1, h2, h3⟩ := tabs p hp
        have keep : ∀ {b : Addr} {o : HO}, H b = some o → (∀ xs, o ≠ .lst xs) → (∀ C d fs, o ≠ .ins C d fs) → upd (upd H pL (.lst (r.reverse.map rq))) c (cO A dx e' k' pL) b = some o := fun {b o} hb n1 n2 => by
          rw [upd_ne fun z => ?_, upd_ne fun z => ?_]
          · exact hb
          · rw [z, cp.past] at hb; exact n1 _ (Option.some.inj hb).symm
          · rw [z, cp.obj] at hb; exact n2 _ _ _ (Option.some.inj hb).symm
        exact ⟨tps, keep h1 (fun _ z => by cases z) (fun _ _ _ z => by cases z), h2, fun pos cv hc => (h3 pos cv hc).elim fun cc hcc => ⟨cc, hcc.1, keep hcc.2 (fun _ z => by unfold CodeO at z; cases z) (fun _ _ _ z => by unfold CodeO at z; cases z)⟩⟩
      generalize upd (upd H pL (.lst (r.reverse.map rq))) c (cO A dx e' k' pL) = H1 at m1 cp1 tb1 ⊢
      obtain ⟨lz, ly⟩ := hereO.rows.lens okq
      refine ⟨_, rfl, c, dx, _, rfl, cp1.obj, cF_no e' k' pL (by decide +kernel) (by decide +kernel) (by decide +kernel), c, dx, e', k', pL, zs', ys'.map rf, rfl, cp1.obj, (Off.out cp1.here.el).2, cp1.here.ents.ext Off.sub, (Off.out cp1.here.kl).2, by omega, by rw [List.length_map]; omega, fun l G m2 nl hl => ?_⟩
      have stp : Ut06.step st .undo = (⟨q.2.1, q.2.2, r.map (·.2)⟩, Ut06.told ⟨q.2.1, q.2.2, r.map (·.2)⟩) := by
        show (match st.old with | [] => (st, [-7]) | x :: l => _) = _
        rw [o1]
      refine qS l G (m1.trans m2.mt.two) (m2.tabs tb1) ?_ ?_
      · rw [stp]
        exact ⟨_, _, _, _, _, _, cp1.mt m2.mt⟩
      · rw [stp, hl, toldV_is hereO.rows (r.map (·.2))]
end
end Rd
/-! answer_far, answer_put, answer_doubt. -/
namespace Rd
open PySem PySem.Spec PyProof.Rows L2 LamX NdefX
section
variable {mg : Str → Option Value} {P : Program} {base : Heap} {w : World} {K : PySem.W.Frag} {A : Ad} {TT : List (Addr × Str)}
abbrev sAPut : Stmt := top 30
abbrev sADoubt : Stmt := top 31
abbrev nF : List Str := ["catalogue", "numbers", "reader", "one", "other"]
theorem scAFar : FnScope nF c2 (defScope sAFar) := ⟨rfl, rfl, rfl, by decide +kernel, rfl, by decide +kernel, by decide +kernel⟩
theorem ok_afar {f : Addr} {fd : FuncData} (F : Fun K "answer_far" "answer_far" sAFar f fd) (T : Txt K mg A) (R : Rds P w K mg base A) (GT : HeldM P w K mg base (L2.CX P w) 2 A.cR "read_text" ["self", "fewest"] (spRText A K)) (GA : Held P w K mg base CX0 1 "apart" ["one", "other"] spApart) : FnOk P w K mg base (L2.CX P w) 3 f fd c2 (spAns A TT 9) := by
  obtain ⟨fI, fdI, mI, bI, GI⟩ := R.init.ok
  obtain ⟨fT, fdT, mT, bT, GT⟩ := GT.ok
  obtain ⟨fA, fdA, mA, kA, bA, GA⟩ := GA
  refine F.okX scAFar (fun vs H Q E ⟨_, _, _, _, _, _, _, e, _⟩ => by rw [e]; rfl) fun cdv B outer s H vs Q E hr ⟨S, c, pL, na, st, ns, call, e, cat, hn, small, told, tabs, qS, qR⟩ => ?_
  subst e
  have hr1 : Room 1 _ := hr.mono (by decide)
  refine ⟨_, pss_cons (ps_set (i := 2) scAFar.nd rfl (.inl rfl) (pe_make mI GI hr (by rfl) T.rAt bI .nil pass0 (pa_cons (pv 1) pa_nil)))
    (pss_cons (ps_set (i := 3) scAFar.nd rfl (.inl rfl) (pe_meth (E := E) (pv 2) T.reader mT GT hr bT .nil (passes_call (takes_of rfl rfl rfl rfl) (fun _ _ _ _ h => h)) (pa_cons pe_int pa_nil)))
    (pss_cons (ps_set (i := 4) scAFar.nd rfl (.inl rfl) (pe_meth (E := E) (pv 2) T.reader mT GT hr bT .nil (passes_call (takes_of rfl rfl rfl rfl) (fun _ _ _ _ h => h)) (pa_cons pe_int pa_nil)))
    (pss_one (ps_ret (pe_lst (pa_cons (pe_call GA hr1 (by rfl) mA kA bA .nil pass0 (pa_cons (pv 3) (pa_cons (pv 4) pa_nil))) pa_nil)))))), ?_⟩
  cases told with
  | far a b =>
    refine ⟨_, rfl, fun r dx nr nd ne => ⟨r, dx, na, rfl, upd_same, rfl, ?_⟩⟩
    have m0 := made_reader (A := A) (na := na) nr nd ne
    have hr0 : upd (upd (upd H dx (.own r)) r (.ins A.cR dx [])) r (rO A dx na 0) r = some (rO A dx na 0) := upd_same
    generalize upd (upd (upd H dx (.own r)) r (.ins A.cR dx [])) r (rO A dx na 0) = H0 at m0 hr0 ⊢
    have bad : ¬ (textGood 0 a ∧ textGood 0 b) → ∀ G, Mo [] H G → E (.ref A.xL) none G := fun h G m => qR A.xL (-1) G .notLet (step_far_no h) m.mt (m.tabs tabs)
    refine ⟨_, rfl, r, dx, _, rfl, hr0, rF_no na _ (by decide +kernel) (by decide +kernel), r, dx, na, 0, 0, _, a, _, rfl, hr0, SqL.of (m0.at hn), rfl, fun ga p np => ?_, fun h G' m2 => bad (fun g => h g.1) G' (m0.laterM nr m2)⟩
    have st1 := stepped (A := A) (S := [r]) (dx := dx) (na := na) (t := a) (i := 0) (j := 0 + 1 + a.length) m0 nr ⟨_, hr0⟩ (fun x hx => by rw [List.mem_singleton.mp hx]; exact ⟨_, hr0, fun _ z => by cases z⟩) (List.mem_singleton.mpr rfl) np
    generalize upd (upd H0 p (.lst (iv a))) r (rO A dx na (0 + 1 + a.length)) = H1 at st1 ⊢
    have dr : (a.length :: (a ++ b.length :: b)).drop (0 + 1 + a.length) = b.length :: (b ++ []) := by
      rw [List.append_nil, show 0 + 1 + a.length = a.length + 1 by omega, List.drop_succ_cons, List.drop_left]
    refine ⟨_, rfl, r, dx, _, rfl, st1.rd, rF_no na _ (by decide +kernel) (by decide +kernel), r, dx, na, 0 + 1 + a.length, 0, _, b, [], rfl, st1.rd, SqL.of (st1.mo.at hn), dr, fun gb p2 np2 => ?_, fun h G' m2 => bad (fun g => h g.2) G' (st1.mo.laterM nr m2)⟩
    have st2 := stepped (A := A) (S := [r]) (dx := dx) (na := na) (t := b) (i := 0) (j := 0 + 1 + a.length + 1 + b.length) st1.mo nr ⟨_, st1.rd⟩ st1.trk (List.mem_singleton.mpr rfl) np2
    have hp := st2.mt p _ st1.text st1.out (fun _ z => by cases z)
    generalize upd (upd H1 p2 (.lst (iv b))) r (rO A dx na (0 + 1 + a.length + 1 + b.length)) = H2 at st2 hp ⊢
    refine ⟨_, rfl, _, rfl, p, p2, a, b, rfl, hp, st2.text, by have := ga.2.1; omega, by have := gb.2.1; omega, fun G m3 => ?_⟩
    refine ⟨(show 1 ≤ sizeLine by decide), fun l nl => ?_⟩
    have mm : Mo [] H (upd G l (.lst [.int (Ut06.distance a b : Nat)])) := (st2.mo.trans m3).trans (Mo.new nl)
    refine qS l _ mm.mt.two (mm.tabs tabs) ?_ ?_
    · rw [step_far ga gb]
      exact cat.at_.mt mm.mt
    · rw [step_far ga gb]
      exact upd_same
/-- the tables stay where another thing is changed -/
theorem tabs_put {H : Hp} {p : Addr} {o o' : HO} (tabs : Tabs TT H) (hp : H p = some o') (n1 : ∀ ps, o' ≠ .tbl ps) (n2 : ∀ c q, o' ≠ CodeO c q) : Tabs TT (upd H p o) := fun x hx => by
  obtain ⟨tps, h1, h2, h3⟩ := tabs x hx
  refine ⟨tps, (upd_ne fun z => ?_).trans h1, h2, fun pos cv hc => (h3 pos cv hc).elim fun cc hcc => ⟨cc, hcc.1, (upd_ne fun z => ?_).trans hcc.2⟩⟩
  · rw [z, hp] at h1; exact n1 _ (Option.some.inj h1)
  · have h := hcc.2
    rw [z, hp] at h; exact n2 _ _ (Option.some.inj h)
theorem tabs_lst {H : Hp} {p : Addr} {o : HO} {xs : List V} (tabs : Tabs TT H) (hp : H p = some (.lst xs)) : Tabs TT (upd H p o) := tabs_put tabs hp (fun _ z => by cases z) (fun _ _ z => by unfold CodeO at z; cases z)
theorem tabs_ins {H : Hp} {p C d : Addr} {o : HO} {fs : List (Str × V)} (tabs : Tabs TT H) (hp : H p = some (.ins C d fs)) : Tabs TT (upd H p o) := tabs_put tabs hp (fun _ z => by cases z) (fun _ _ z => by unfold CodeO at z; cases z)
theorem tabs_new {H : Hp} {p : Addr} {o : HO} (tabs : Tabs TT H) (n : H p = none) : Tabs TT (upd H p o) := (Mo.new n).tabs tabs
/-- behind remember -/
structure Remd (A : Ad) (S : List Addr) (H H2 : Hp) (c pL dx e k t : Addr) (qs : List AP) : Prop where
  obj : H2 c = some (cO A dx e k pL)
  past : H2 pL = some (.lst (qs.map rq ++ [.ref t]))
  tup : H2 t = some (.tup [.ref e, .ref k])
  out : t ∉ S
  mt : Mt [c, pL] H H2
  trk : Trk S H2
theorem remembered {S : List Addr} {H : Hp} {c pL dx e k t : Addr} {qs : List AP} {zs ys : List AE} {st : Ut06.St} (cp : CatP A S H c pL dx e k qs zs ys st) (trk : Trk S H) (nt : H t = none) : Remd A S H (upd (upd H t (.tup [.ref e, .ref k])) pL (.lst (qs.map rq ++ [.ref t]))) c pL dx e k t qs := by
  have cpl : c ≠ pL := ne_of cp.obj cp.past (by intro z; cases z)
  have tp : t ≠ pL := Ne.symm (ne_of_none cp.past nt)
  refine ⟨(upd_ne cpl).trans ((upd_ne (ne_of_none cp.obj nt)).trans cp.obj), upd_same, (upd_ne tp).trans upd_same, trk.new nt, ?_, ?_⟩
  · exact (Mt.new nt).trans (Mt.put (List.mem_cons_of_mem _ (List.mem_singleton.mpr rfl)))
  · exact (trk.mt (Mt.new nt)).put (fun _ z => by cases z)
theorem mem2 {S : List Addr} {c pL : Addr} (cS : c ∈ S) (pS : pL ∈ S) : ∀ b ∈ [c, pL], b ∈ S := fun b hb => by
  obtain rfl | hb := List.mem_cons.mp hb
  · exact cS
  · rw [List.mem_singleton.mp hb]; exact pS
theorem Remd.mo {S : List Addr} {H H2 H3 : Hp} {c pL dx e k t : Addr} {qs : List AP} (r : Remd A S H H2 c pL dx e k t qs) (m : Mo [] H2 H3) : Remd A S H H3 c pL dx e k t qs := ⟨m.at r.obj, m.at r.past, m.at r.tup, r.out, r.mt.trans m.mt.two, r.trk.mt m.mt⟩
/-- the rows of what is kept, behind a filter -/
theorem kept_filter {ys : List AE} {l : List Ut06.Kept} (h : ys.map (·.2) = l.map asE) (zs : List AE) : (ys.filter (hid zs)).map (·.2) = (Ut06.unshown (zs.map (·.2)) l).map asE := by
  rw [unshown_eq]
  have e1 : (ys.filter (hid zs)).map (·.2) = (ys.map (·.2)).filter (fun e => !shown (zs.map (·.2)) (toK e)) := by
    rw [List.filter_map]
    rfl
  rw [e1, h, List.filter_map]
  rfl
/-- behind exchange: the state -/
theorem exchanged {S : List Addr} {H H3 : Hp} {c pL dx e k t x e' k' : Addr} {qs : List AP} {zs ys : List AE} {st : Ut06.St} {y : Ut06.Entry} (cp : CatP A S H c pL dx e k qs zs ys st) (cS : c ∈ S) (pS : pL ∈ S) (r : Remd A S H H3 c pL dx e k t qs) (ent : EntAt A (Off S H3) x y) (ne : H3 e' = none) (nk : H3 k' = none) (ek : e' ≠ k') :
    CatP A S (upd (upd (upd H3 e' (.lst ((exchZ zs x y).map rf))) k' (.lst ((ys.filter (hid (exchZ zs x y))).map rf))) c (cO A dx e' k' pL)) c pL dx e' k' (qs ++ [(t, st.entries, st.kept)]) (exchZ zs x y) (ys.filter (hid (exchZ zs x y))) (Ut06.becomes st (exch st.entries y) (Ut06.unshown (exch st.entries y) st.kept)) ∧
    Mt [c, pL] H (upd (upd (upd H3 e' (.lst ((exchZ zs x y).map rf))) k' (.lst ((ys.filter (hid (exchZ zs x y))).map rf))) c (cO A dx e' k' pL)) := by
  have m34 : Mo [] H3 (upd (upd H3 e' (.lst ((exchZ zs x y).map rf))) k' (.lst ((ys.filter (hid (exchZ zs x y))).map rf))) := Mo.trans (Mo.new ne) (Mo.new ((upd_ne (Ne.symm ek)).trans nk))
  have h1 : upd (upd H3 e' (.lst ((exchZ zs x y).map rf))) k' (.lst ((ys.filter (hid (exchZ zs x y))).map rf)) e' = some (.lst ((exchZ zs x y).map rf)) := (upd_ne ek).trans upd_same
  have h2 : upd (upd H3 e' (.lst ((exchZ zs x y).map rf))) k' (.lst ((ys.filter (hid (exchZ zs x y))).map rf)) k' = some (.lst ((ys.filter (hid (exchZ zs x y))).map rf)) := upd_same
  have eS := r.trk.new ne
  have kS := r.trk.new nk
  have r4 := r.mo m34
  have ent4 := ent.ext m34.mt.offX
  generalize upd (upd H3 e' (.lst ((exchZ zs x y).map rf))) k' (.lst ((ys.filter (hid (exchZ zs x y))).map rf)) = H4 at h1 h2 r4 ent4 ⊢
  have put : ∀ {b : Addr} {o : HO}, H4 b = some o → b ≠ c → upd H4 c (cO A dx e' k' pL) b = some o := fun hb n => (upd_ne n).trans hb
  have ec : e' ≠ c := fun z => eS (z ▸ cS)
  have kc : k' ≠ c := fun z => kS (z ▸ cS)
  have x14 : ExtN (Off S H) (Off S H4) := (r4.mt.more (mem2 cS pS)).off
  have x45 : ExtN (Off S H4) (Off S (upd H4 c (cO A dx e' k' pL))) := (Mt.put (S := S) cS).off
  have mt : Mt [c, pL] H (upd H4 c (cO A dx e' k' pL)) := r4.mt.trans (Mt.put List.mem_cons_self)
  refine ⟨committed cp cS pS mt r4.out (put r4.tup fun z => r4.out (z ▸ cS)) upd_same (put r4.past (ne_of r4.past r4.obj (by intro z; cases z))) ⟨Off.in_ eS (put h1 ec), Off.in_ kS (put h2 kc), ?_, ?_, ⟨?_, ?_⟩⟩, mt⟩
  · exact exchZ_ents ((cp.here.ents.ext x14).ext x45) (ent4.ext x45)
  · exact fun z hz => ((cp.here.kents z (List.mem_filter.mp hz).1).ext x14).ext x45
  · rw [exchZ_snd, cp.here.rows.ents]
  · rw [kept_filter cp.here.rows.kept, exchZ_snd, cp.here.rows.ents]
end
end Rd
/-! answer_put, answer_doubt. -/
namespace Rd
open PySem PySem.Spec PyProof.Rows L2 LamX NdefX
/-- the catalogue's methods, and what is made -/
structure Cats (P : Program) (w : World) (K : PySem.W.Frag) (mg : Str → Option Value) (base : Heap) (A : Ad) : Prop where
  make : HeldC P w K mg base 1 A.cE nE (spEInit A)
  rem : HeldM P w K mg base CX0 1 A.cC "remember" ["self"] (spCRem A)
  known : HeldM P w K mg base CX0 1 A.cC "known" ["self"] (spCKnown A)
  of_ : HeldM P w K mg base (L2.CX P w) 1 A.cC "entry_of" ["self", "key"] (spCOf A)
  exch : HeldM P w K mg base CX0 3 A.cC "exchange" ["self", "changed"] (spCExch A)
  stands : HeldM P w K mg base CX0 1 A.cC "stands" ["self"] (spCStands A)
section
variable {mg : Str → Option Value} {P : Program} {base : Heap} {w : World} {K : PySem.W.Frag} {A : Ad} {TT : List (Addr × Str)}
abbrev nP : List Str := ["catalogue", "numbers", "reader", "key", "translation", "entry"]
theorem scAPut : FnScope nP c2 (defScope sAPut) := ⟨rfl, rfl, rfl, by decide +kernel, rfl, by decide +kernel, by decide +kernel⟩
theorem ok_aput {f : Addr} {fd : FuncData} (F : Fun K "answer_put" "answer_put" sAPut f fd) (T : Txt K mg A) (R : Rds P w K mg base A) (GT : HeldM P w K mg base (L2.CX P w) 2 A.cR "read_text" ["self", "fewest"] (spRText A K)) (C : Cats P w K mg base A) : FnOk P w K mg base (L2.CX P w) 4 f fd c2 (spAns A TT 1) := by
  obtain ⟨fI, fdI, mI, bI, GI⟩ := R.init.ok
  obtain ⟨fN, fdN, mN, bN, GN⟩ := R.num.ok
  obtain ⟨fT, fdT, mT, bT, GT⟩ := GT.ok
  obtain ⟨fE, fdE, mE, bE, GE⟩ := C.make.ok
  obtain ⟨fR, fdR, mR, bR, GR⟩ := C.rem.ok
  obtain ⟨fO, fdO, mO, bO, GO⟩ := C.of_.ok
  obtain ⟨fX, fdX, mX, bX, GX⟩ := C.exch.ok
  obtain ⟨fS, fdS, mS, bS, GS⟩ := C.stands.ok
  refine F.okX scAPut (fun vs H Q E ⟨_, _, _, _, _, _, _, e, _⟩ => by rw [e]; rfl) fun cdv B outer s H vs Q E hr ⟨S, c, pL, na, st, ns, call, e, cat, hn, small, told, tabs, qS, qR⟩ => ?_
  subst e
  have hr1 : Room 1 _ := hr.mono (by decide)
  have hr2 : Room 2 _ := hr.mono (by decide)
  refine ⟨_, pss_cons (ps_set (i := 2) scAPut.nd rfl (.inl rfl) (pe_make mI GI hr2 (by rfl) T.rAt bI .nil pass0 (pa_cons (pv 1) pa_nil)))
    (pss_cons (ps_set (i := 3) scAPut.nd rfl (.inl rfl) (pe_meth0 (pv 2) T.reader mN GN hr1 bN .nil pass0))
    (pss_cons (ps_set (i := 4) scAPut.nd rfl (.inl rfl) (pe_meth (E := E) (pv 2) T.reader mT GT hr2 bT .nil (passes_call (takes_of rfl rfl rfl rfl) (fun _ _ _ _ h => h)) (pa_cons pe_int pa_nil)))
    (pss_cons (ps_set (i := 5) scAPut.nd rfl (.inl rfl) (pe_meth (E := E) (pv 0) T.cat mO GO hr1 bO .nil (passes_call (takes_of rfl rfl rfl rfl) (fun _ _ _ _ h => h)) (pa_cons (pv 3) pa_nil)))
    (pss_cons (ps_expr (pe_meth0 (pv 0) T.cat mR GR hr1 bR .nil pass0))
    (pss_cons (ps_expr (pe_meth (pv 0) T.cat mX GX hr bX .nil pass0 (pa_cons (pe_make mE GE hr2 (by rfl) T.eAt bE .nil pass0 (pa_cons (pv 3) (pa_cons (pe_fld (pv 5) rfl) (pa_cons (pv 4) (pa_cons pe_bl (pa_cons pe_non pa_nil)))))) pa_nil)))
    (pss_one (ps_ret (pe_meth0 (pv 0) T.cat mS GS hr1 bS .nil pass0)))))))), ?_⟩
  cases told with
  | put n t =>
    refine ⟨_, rfl, fun r dr nr nd ne => ⟨r, dr, na, rfl, upd_same, rfl, ?_⟩⟩
    have m0 := made_reader (A := A) (na := na) nr nd ne
    have hr0 : upd (upd (upd H dr (.own r)) r (.ins A.cR dr [])) r (rO A dr na 0) r = some (rO A dr na 0) := upd_same
    generalize upd (upd (upd H dr (.own r)) r (.ins A.cR dr [])) r (rO A dr na 0) = H0 at m0 hr0 ⊢
    refine ⟨_, rfl, r, dr, _, rfl, hr0, rF_no na _ (by decide +kernel) (by decide +kernel), r, dr, na, 0, _, n, rfl, hr0, SqL.of (m0.at hn), rfl, ?_⟩
    have mA : Mo [] H (upd H0 r (rO A dr na (0 + 1))) := m0.laterM nr (Mo.put (List.mem_singleton.mpr rfl))
    have hrA : upd H0 r (rO A dr na (0 + 1)) r = some (rO A dr na 1) := upd_same
    generalize upd H0 r (rO A dr na (0 + 1)) = HA at mA hrA ⊢
    refine ⟨_, rfl, r, dr, _, rfl, hrA, rF_no na _ (by decide +kernel) (by decide +kernel), r, dr, na, 1, 1, _, t, [], rfl, hrA, SqL.of (mA.at hn), (by show t.length :: t = t.length :: (t ++ []); rw [List.append_nil]), fun tg p np => ?_, fun bad G m => qR A.xL (-1) G .notLet (step_put_no bad) (mA.laterM nr m).mt ((mA.laterM nr m).tabs tabs)⟩
    have st1 := stepped (A := A) (S := [r]) (dx := dr) (na := na) (t := t) (i := 0) (j := 1 + 1 + t.length) mA nr ⟨_, hrA⟩ (fun x hx => by rw [List.mem_singleton.mp hx]; exact ⟨_, hrA, fun _ z => by cases z⟩) (List.mem_singleton.mpr rfl) np
    generalize upd (upd HA p (.lst (iv t))) r (rO A dr na (1 + 1 + t.length)) = H1 at st1 ⊢
    have cat1 := cat.at_.mt st1.mo.mt
    have trk1 := cat.trk.mt st1.mo.mt
    have tabs1 := st1.mo.tabs tabs
    have pS : p ∉ S := cat.trk.new (mA.free np)
    obtain ⟨dx, e, k, qs, zs, ys, cp⟩ := id cat1
    have el := (Off.out cp.here.el).2
    have ents : Ents A H1 zs := cp.here.ents.ext Off.sub
    refine ⟨_, rfl, c, dx, _, rfl, cp.obj, cF_no e k pL (by decide +kernel) (by decide +kernel) (by decide +kernel), _, rfl, c, dx, e, k, pL, zs, n, rfl, cp.obj, el, ents, fun no => ?_, fun a x ex mz => ?_⟩
    · rw [cp.here.rows.ents] at no
      refine qR A.xN (-2) H1 .noEntry ?_ st1.mo.mt tabs1
      rw [step_put tg, no]
    rw [cp.here.rows.ents] at ex
    obtain ⟨xm, xk⟩ := entryOf_mem ex
    have stp : Ut06.step st (.put n t) = (Ut06.becomes st (exch st.entries ⟨n, x.text, t, true, 0⟩) (Ut06.unshown (exch st.entries ⟨n, x.text, t, true, 0⟩) st.kept), Ut06.told (Ut06.becomes st (exch st.entries ⟨n, x.text, t, true, 0⟩) (Ut06.unshown (exch st.entries ⟨n, x.text, t, true, 0⟩) st.kept))) := by
      rw [step_put tg, ex]
      have e2 : (st.entries.map fun e => if e.key = n then { e with trans := t, sure := true, from_ := 0 } else e) = exch st.entries ⟨n, x.text, t, true, 0⟩ := by
        rw [map_exch cat.ok.now.keys ex (f := fun e => { e with trans := t, sure := true, from_ := 0 }) xk, ← xk]
      show (Ut06.becomes st _ _, Ut06.told _) = _
      rw [e2]
    -- remember
    refine ⟨_, rfl, c, dx, _, rfl, cp.obj, cF_no e k pL (by decide +kernel) (by decide +kernel) (by decide +kernel), c, dx, e, k, pL, qs.map rq, rfl, cp.obj, cp.past, ?_, fun tp ntp => ?_⟩
    · have := congrArg List.length cp.old
      rw [List.length_reverse, List.length_map] at this
      have := cat.few
      rw [List.length_map]
      omega
    have rem := remembered cp trk1 ntp
    have tabs2 : Tabs TT (upd (upd H1 tp (.tup [.ref e, .ref k])) pL (.lst (qs.map rq ++ [.ref tp]))) := tabs_lst (tabs_new tabs1 ntp) ((upd_ne (ne_of_none cp.past ntp)).trans cp.past)
    generalize upd (upd H1 tp (.tup [.ref e, .ref k])) pL (.lst (qs.map rq ++ [.ref tp])) = H2 at rem tabs2 ⊢
    have x12 : ExtN (Off S H1) (Off S H2) := (rem.mt.more (mem2 cat.cS cat.pS)).off
    obtain ⟨da, ta, tb, ha1, ha2, ha3⟩ := (cp.here.ents _ mz).ext x12
    have hp2 := x12 p _ (Off.in_ pS st1.text) (fun _ z => by cases z)
    refine ⟨_, rfl, c, dx, _, rfl, rem.obj, cF_no e k pL (by decide +kernel) (by decide +kernel) (by decide +kernel), _, rfl, _, rfl, a, A.cE, da, _, _, rfl, (Off.out ha1).2, T.entry, T.eText, eF_text x ta tb, _, rfl, fun o dO no ndo neo => ?_⟩
    obtain ⟨mE2, eA⟩ := made_entry (A := A) (e := ⟨n, x.text, t, true, 0⟩) (ta := ta) (tb := p) (k := .int (n : Nat)) (tt := .ref ta) (tr := .ref p) (s := .bl true) (so := .non) rem.trk ha2 hp2 no ndo neo (by unfold eV eF srcV; rw [if_pos (.inr rfl)])
    refine ⟨o, dO, _, _, _, _, _, rfl, upd_same, rfl, ?_⟩
    have rem3 := rem.mo mE2
    have tabs3 := mE2.tabs tabs2
    have x23 := mE2.mt.offX (S := S)
    generalize upd (upd (upd H2 dO (.own o)) o (.ins A.cE dO [])) o (.ins A.cE dO (eV (.int (n : Nat)) (.ref ta) (.ref p) (.bl true) .non)) = H3 at eA rem3 tabs3 x23 ⊢
    obtain ⟨lz, ly⟩ := cp.here.rows.lens cat.ok.now
    have hE3 := cp.here.ext fun b o q nt => x23 b o (x12 b o q nt) nt
    refine ⟨c, dx, e, k, pL, o, zs, ys, _, rfl, rem3.obj, (Off.out hE3.el).2, hE3.ents.ext Off.sub, by omega, (Off.out hE3.kl).2, hE3.kents.ext Off.sub, by omega, eA.ext Off.sub, fun e' k' ne' nk' ek => ?_⟩
    obtain ⟨cp4, m14⟩ := exchanged cp cat.cS cat.pS rem3 eA ne' nk' ek
    have tabs4 : Tabs TT (upd (upd (upd H3 e' (.lst ((exchZ zs o ⟨n, x.text, t, true, 0⟩).map rf))) k' (.lst ((ys.filter (hid (exchZ zs o ⟨n, x.text, t, true, 0⟩))).map rf))) c (cO A dx e' k' pL)) := by
      have n2 : upd H3 e' (.lst ((exchZ zs o ⟨n, x.text, t, true, 0⟩).map rf)) k' = none := (upd_ne (Ne.symm ek)).trans nk'
      exact tabs_ins (tabs_new (tabs_new tabs3 ne') n2) ((upd_ne (ne_of_none ((upd_ne (ne_of_none rem3.obj ne')).trans rem3.obj) n2)).trans ((upd_ne (ne_of_none rem3.obj ne')).trans rem3.obj))
    generalize upd (upd (upd H3 e' (.lst ((exchZ zs o ⟨n, x.text, t, true, 0⟩).map rf))) k' (.lst ((ys.filter (hid (exchZ zs o ⟨n, x.text, t, true, 0⟩))).map rf))) c (cO A dx e' k' pL) = H4 at cp4 m14 tabs4 ⊢
    have ok4 : Ok1 (exch st.entries ⟨n, x.text, t, true, 0⟩) (Ut06.unshown (exch st.entries ⟨n, x.text, t, true, 0⟩) st.kept) := cat.ok.now.exch ⟨(cat.ok.now.words x xm).1, tg.2.1⟩ fun _ z => by
      have z : t = [] := z
      have := tg.1
      rw [z] at this
      simp at this
    obtain ⟨lz4, ly4⟩ := cp4.here.rows.lens ok4
    refine ⟨_, rfl, c, dx, _, rfl, cp4.obj, cF_no e' k' pL (by decide +kernel) (by decide +kernel) (by decide +kernel), c, dx, e', k', pL, _, _, rfl, cp4.obj, (Off.out cp4.here.el).2, cp4.here.ents.ext Off.sub, (Off.out cp4.here.kl).2, by omega, by rw [List.length_map]; omega, fun l G m5 nl hl => ?_⟩
    refine qS l G ((st1.mo.mt.two.trans m14).trans m5.mt.two) (m5.tabs tabs4) ?_ ?_
    · rw [stp]
      exact ⟨_, _, _, _, _, _, cp4.mt m5.mt⟩
    · rw [stp, hl]
      refine congrArg (fun z => some (HO.lst z)) ?_
      exact toldV_is cp4.here.rows _
/-! ### answer_doubt -/
theorem doubt_kept {g : List Ut06.Entry} {l : List Ut06.Kept} (ok : Ok1 g l) {y : Ut06.Entry} (s : y.sure = false) : Ut06.unshown (exch g y) l = l := by
  refine unshown_all fun x hx => ?_
  cases q : shown (exch g y) x with
  | false => rfl
  | true =>
    obtain ⟨e, he, a, b, c⟩ := shown_iff.mp q
    rcases mem_exch he with rfl | ⟨he, _⟩
    · rw [s] at a; cases a
    · exact (ok.hidden x hx e he a b c).elim
abbrev nD : List Str := ["catalogue", "numbers", "entry"]
theorem scADoubt : FnScope nD c2 (defScope sADoubt) := ⟨rfl, rfl, rfl, by decide +kernel, rfl, by decide +kernel, by decide +kernel⟩
theorem ok_adoubt {f : Addr} {fd : FuncData} (F : Fun K "answer_doubt" "answer_doubt" sADoubt f fd) (T : Txt K mg A) (C : Cats P w K mg base A) : FnOk P w K mg base (L2.CX P w) 4 f fd c2 (spAns A TT 2) := by
  obtain ⟨fE, fdE, mE, bE, GE⟩ := C.make.ok
  obtain ⟨fR, fdR, mR, bR, GR⟩ := C.rem.ok
  obtain ⟨fO, fdO, mO, bO, GO⟩ := C.of_.ok
  obtain ⟨fX, fdX, mX, bX, GX⟩ := C.exch.ok
  obtain ⟨fS, fdS, mS, bS, GS⟩ := C.stands.ok
  refine F.okX scADoubt (fun vs H Q E ⟨_, _, _, _, _, _, _, e, _⟩ => by rw [e]; rfl) fun cdv B outer s H vs Q E hr ⟨S, c, pL, na, st, ns, call, e, cat, hn, small, told, tabs, qS, qR⟩ => ?_
  subst e
  have hr1 : Room 1 _ := hr.mono (by decide)
  have hr2 : Room 2 _ := hr.mono (by decide)
  refine ⟨_, pss_cons (ps_set (i := 2) scADoubt.nd rfl (.inl rfl) (pe_meth (E := E) (pv 0) T.cat mO GO hr1 bO .nil (passes_call (takes_of rfl rfl rfl rfl) (fun _ _ _ _ h => h)) (pa_cons (pe_ix ix_list (pv 1) pe_int (fun _ _ => rfl)) pa_nil)))
    (pss_cons (ps_if (pt_not (pt_val (pe_fld (pv 2) rfl))) (pss_one (ps_raise rfl (takes_of rfl rfl rfl rfl) (T.notSure.raises (by rfl)))) pss_nil)
    (pss_cons (ps_expr (pe_meth0 (pv 0) T.cat mR GR hr1 bR .nil pass0))
    (pss_cons (ps_expr (pe_meth (pv 0) T.cat mX GX hr bX .nil pass0 (pa_cons (pe_make mE GE hr2 (by rfl) T.eAt bE .nil pass0 (pa_cons (pe_fld (pv 2) rfl) (pa_cons (pe_fld (pv 2) rfl) (pa_cons (pe_fld (pv 2) rfl) (pa_cons pe_bl (pa_cons (pe_fld (pv 2) rfl) pa_nil)))))) pa_nil)))
    (pss_one (ps_ret (pe_meth0 (pv 0) T.cat mS GS hr1 bS .nil pass0)))))), ?_⟩
  cases told with
  | doubt n =>
    obtain ⟨dx, e, k, qs, zs, ys, cp⟩ := id cat.at_
    have el := (Off.out cp.here.el).2
    have ents : Ents A H zs := cp.here.ents.ext Off.sub
    refine ⟨_, rfl, c, dx, _, rfl, cp.obj, cF_no e k pL (by decide +kernel) (by decide +kernel) (by decide +kernel), _, rfl, na, _, _, _, rfl, rfl, SqL.of hn, atI_nat (j := 0) rfl, c, dx, e, k, pL, zs, n, rfl, cp.obj, el, ents, fun no => ?_, fun a x ex mz => ?_⟩
    · rw [cp.here.rows.ents] at no
      refine qR A.xN (-2) H .noEntry ?_ Mt.rfl tabs
      show (match Ut06.entryOf st.entries n with | none => (st, [-2]) | some e => _) = _
      rw [no]
    rw [cp.here.rows.ents] at ex
    obtain ⟨xm, xk⟩ := entryOf_mem ex
    have open_ : Ut06.step st (.doubt n) = if x.sure = false then (st, [-6]) else (Ut06.becomes st (st.entries.map fun y => if y.key = n then { y with sure := false, from_ := n } else y) st.kept, Ut06.told (Ut06.becomes st (st.entries.map fun y => if y.key = n then { y with sure := false, from_ := n } else y) st.kept)) := by
      show (match Ut06.entryOf st.entries n with | none => (st, [-2]) | some e => _) = _
      rw [ex]
    obtain ⟨dz, za, zb, hz1, hz2, hz3⟩ := ents _ mz
    refine ⟨_, rfl, a, A.cE, dz, _, _, rfl, hz1, T.entry, T.eSure, eF_sure x za zb, _, rfl, ?_⟩
    cases xs : x.sure with
    | false =>
      refine ifT rfl ?_
      refine qR A.xS (-6) H .notSure ?_ Mt.rfl tabs
      rw [open_, if_pos xs]
    | true =>
    refine ifF rfl ?_
    have xt : x.trans ≠ [] := cat.ok.now.sure x xm xs
    have stp : Ut06.step st (.doubt n) = (Ut06.becomes st (exch st.entries ⟨x.key, x.text, x.trans, false, x.key⟩) (Ut06.unshown (exch st.entries ⟨x.key, x.text, x.trans, false, x.key⟩) st.kept), Ut06.told (Ut06.becomes st (exch st.entries ⟨x.key, x.text, x.trans, false, x.key⟩) (Ut06.unshown (exch st.entries ⟨x.key, x.text, x.trans, false, x.key⟩) st.kept))) := by
      rw [open_, if_neg (by rw [xs]; exact fun z => by cases z)]
      have e2 : (st.entries.map fun e => if e.key = n then { e with sure := false, from_ := n } else e) = exch st.entries ⟨x.key, x.text, x.trans, false, x.key⟩ := by
        rw [map_exch cat.ok.now.keys ex (f := fun e => { e with sure := false, from_ := n }) xk, ← xk]
      rw [e2, doubt_kept cat.ok.now rfl]
    -- remember
    refine ⟨_, rfl, c, dx, _, rfl, cp.obj, cF_no e k pL (by decide +kernel) (by decide +kernel) (by decide +kernel), c, dx, e, k, pL, qs.map rq, rfl, cp.obj, cp.past, ?_, fun tp ntp => ?_⟩
    · have := congrArg List.length cp.old
      rw [List.length_reverse, List.length_map] at this
      have := cat.few
      rw [List.length_map]
      omega
    have rem := remembered cp cat.trk ntp
    have tabs2 : Tabs TT (upd (upd H tp (.tup [.ref e, .ref k])) pL (.lst (qs.map rq ++ [.ref tp]))) := tabs_lst (tabs_new tabs ntp) ((upd_ne (ne_of_none cp.past ntp)).trans cp.past)
    generalize upd (upd H tp (.tup [.ref e, .ref k])) pL (.lst (qs.map rq ++ [.ref tp])) = H2 at rem tabs2 ⊢
    have x12 : ExtN (Off S H) (Off S H2) := (rem.mt.more (mem2 cat.cS cat.pS)).off
    obtain ⟨da, ta, tb, ha1, ha2, ha3⟩ := (cp.here.ents _ mz).ext x12
    refine ⟨_, rfl, c, dx, _, rfl, rem.obj, cF_no e k pL (by decide +kernel) (by decide +kernel) (by decide +kernel), _, rfl, a, A.cE, da, _, _, rfl, (Off.out ha1).2, T.entry, T.eKey, eF_key x ta tb, _, rfl, a, A.cE, da, _, _, rfl, (Off.out ha1).2, T.entry, T.eText, eF_text x ta tb, _, rfl, a, A.cE, da, _, _, rfl, (Off.out ha1).2, T.entry, T.eTrans, eF_trans x ta tb, _, rfl, a, A.cE, da, _, _, rfl, (Off.out ha1).2, T.entry, T.eKey, eF_key x ta tb, fun o dO no ndo neo => ?_⟩
    obtain ⟨mE2, eA⟩ := made_entry (A := A) (e := ⟨x.key, x.text, x.trans, false, x.key⟩) (ta := ta) (tb := tb) (k := .int (x.key : Nat)) (tt := .ref ta) (tr := .ref tb) (s := .bl false) (so := .int (x.key : Nat)) rem.trk ha2 ha3 no ndo neo (by unfold eV eF srcV; rw [if_neg (fun h => h.elim xt Bool.false_ne_true)])
    refine ⟨o, dO, _, _, _, _, _, rfl, upd_same, rfl, ?_⟩
    have rem3 := rem.mo mE2
    have tabs3 := mE2.tabs tabs2
    have x23 := mE2.mt.offX (S := S)
    generalize upd (upd (upd H2 dO (.own o)) o (.ins A.cE dO [])) o (.ins A.cE dO (eV (.int (x.key : Nat)) (.ref ta) (.ref tb) (.bl false) (.int (x.key : Nat)))) = H3 at eA rem3 tabs3 x23 ⊢
    obtain ⟨lz, ly⟩ := cp.here.rows.lens cat.ok.now
    have hE3 := cp.here.ext fun b o q nt => x23 b o (x12 b o q nt) nt
    refine ⟨c, dx, e, k, pL, o, zs, ys, _, rfl, rem3.obj, (Off.out hE3.el).2, hE3.ents.ext Off.sub, by omega, (Off.out hE3.kl).2, hE3.kents.ext Off.sub, by omega, eA.ext Off.sub, fun e' k' ne' nk' ek => ?_⟩
    obtain ⟨cp4, m14⟩ := exchanged cp cat.cS cat.pS rem3 eA ne' nk' ek
    have tabs4 : Tabs TT (upd (upd (upd H3 e' (.lst ((exchZ zs o ⟨x.key, x.text, x.trans, false, x.key⟩).map rf))) k' (.lst ((ys.filter (hid (exchZ zs o ⟨x.key, x.text, x.trans, false, x.key⟩))).map rf))) c (cO A dx e' k' pL)) := by
      have n2 : upd H3 e' (.lst ((exchZ zs o ⟨x.key, x.text, x.trans, false, x.key⟩).map rf)) k' = none := (upd_ne (Ne.symm ek)).trans nk'
      exact tabs_ins (tabs_new (tabs_new tabs3 ne') n2) ((upd_ne (ne_of_none ((upd_ne (ne_of_none rem3.obj ne')).trans rem3.obj) n2)).trans ((upd_ne (ne_of_none rem3.obj ne')).trans rem3.obj))
    generalize upd (upd (upd H3 e' (.lst ((exchZ zs o ⟨x.key, x.text, x.trans, false, x.key⟩).map rf))) k' (.lst ((ys.filter (hid (exchZ zs o ⟨x.key, x.text, x.trans, false, x.key⟩))).map rf))) c (cO A dx e' k' pL) = H4 at cp4 m14 tabs4 ⊢
    have ok4 : Ok1 (exch st.entries ⟨x.key, x.text, x.trans, false, x.key⟩) (Ut06.unshown (exch st.entries ⟨x.key, x.text, x.trans, false, x.key⟩) st.kept) := cat.ok.now.exch ⟨(cat.ok.now.words x xm).1, (cat.ok.now.words x xm).2⟩ fun z => by cases z
    obtain ⟨lz4, ly4⟩ := cp4.here.rows.lens ok4
    refine ⟨_, rfl, c, dx, _, rfl, cp4.obj, cF_no e' k' pL (by decide +kernel) (by decide +kernel) (by decide +kernel), c, dx, e', k', pL, _, _, rfl, cp4.obj, (Off.out cp4.here.el).2, cp4.here.ents.ext Off.sub, (Off.out cp4.here.kl).2, by omega, by rw [List.length_map]; omega, fun l G m5 nl hl => ?_⟩
    refine qS l G (m14.trans m5.mt.two) (m5.tabs tabs4) ?_ ?_
    · rw [stp]
      exact ⟨_, _, _, _, _, _, cp4.mt m5.mt⟩
    · rw [stp, hl]
      refine congrArg (fun z => some (HO.lst z)) ?_
      exact toldV_is cp4.here.rows _
end
end Rd
/-! answer_release. -/
namespace Rd
open PySem PySem.Spec PyProof.Rows L2 LamX NdefX
section
variable {mg : Str → Option Value} {P : Program} {base : Heap} {w : World} {K : PySem.W.Frag} {A : Ad} {TT : List (Addr × Str)}
abbrev sARel : Stmt := top 29
abbrev nL : List Str := ["catalogue", "numbers", "told", "entries", "kept", "key", "text"]
theorem scARel : FnScope nL c2 (defScope sARel) := ⟨rfl, rfl, rfl, by decide +kernel, rfl, by decide +kernel, by decide +kernel⟩
theorem ok_arel {f : Addr} {fd : FuncData} (F : Fun K "answer_release" "answer_release" sARel f fd) (T : Txt K mg A) (C : Cats P w K mg base A) (GR : Held P w K mg base (L2.CX P w) 3 "read_release" ["numbers"] (spRel A)) (GI : HeldM P w K mg base CX0 5 A.cC "in_release" ["self", "key", "text"] (spIn A TT)) (GN : Held P w K mg base CX0 2 "not_shown" ["several", "entries"] (spNotShown A)) :
    FnOk P w K mg base (L2.CX P w) 6 f fd c2 (spAns A TT 0) := by
  obtain ⟨fR, fdR, mR, kR, bR, GR⟩ := GR
  obtain ⟨fI, fdI, mI, bI, GI⟩ := GI
  obtain ⟨fN, fdN, mN, kN, bN, GN⟩ := GN
  obtain ⟨fK, fdK, mK, bK, GK⟩ := C.known.ok
  obtain ⟨fM, fdM, mM, bM, GM⟩ := C.rem.ok
  obtain ⟨fS, fdS, mS, bS, GS⟩ := C.stands.ok
  obtain ⟨t30, h30⟩ := T.mostKept
  refine F.okX scARel (fun vs H Q E ⟨_, _, _, _, _, _, _, e, _⟩ => by rw [e]; rfl) fun cdv B outer s H vs Q E hr ⟨S, c, pL, na, st, ns, call, e, cat, hn, small, told, tabs, qS, qR⟩ => ?_
  subst e
  have hr1 : Room 1 _ := hr.mono (by decide)
  have hr2 : Room 2 _ := hr.mono (by decide)
  have hr3 : Room 3 _ := hr.mono (by decide)
  refine ⟨_, pss_cons (ps_set (i := 2) scARel.nd rfl (.inl rfl) (pe_call (E := E) GR hr3 (by rfl) mR kR bR .nil (passes_call (takes_of rfl rfl rfl rfl) (fun _ _ _ _ h => h)) (pa_cons (pv 1) pa_nil)))
    (pss_cons (ps_setLc (i := 3) (own := [("key", 5), ("text", 6)]) (g := gTup K 2 (gCons (gName 5) (gCons (gName 6) gNil))) (tt := tYes) (te := tMeth A.cC "in_release" (spIn A TT) [] E0 (tVar 0) (tCons (tVar 5) (tCons (tVar 6) tNil))) rfl scARel.nd rfl rfl (sw_true rfl rfl rfl (by decide +kernel)) (pi_list (pv 2)) (blkOk_by (N := nL) (sc := defScope sARel) (by decide +kernel))
      (fun _ _ _ _ _ => pg_tup rfl (pgs_cons (pg_name (i := 5) scARel.nd rfl (Or.inl rfl)) (pgs_cons (pg_name (i := 6) scARel.nd rfl (Or.inl rfl)) pgs_nil))) (fun _ _ _ _ _ => pts_nil) (fun _ _ _ _ _ => pe_meth (pv 0) T.cat mI GI hr bI .nil pass0 (pa_cons (pv 5) (pa_cons (pv 6) pa_nil))))
    (pss_cons (ps_set (i := 4) scARel.nd rfl (.inl rfl) (pe_call GN hr2 (by rfl) mN kN bN .nil pass0 (pa_cons (pe_meth0 (pv 0) T.cat mK GK hr1 bK .nil pass0) (pa_cons (pv 3) pa_nil))))
    (pss_cons (ps_if (pt_cmpR op_gt (pe_callB call_len_seq (by rfl) T.blt.len PySem.boot_len (pa_cons (pv 4) pa_nil)) (pe_glob (v := .int 30) (by rfl) h30 ⟨_, rfl⟩) (nomark _)) (pss_one (ps_raise rfl (takes_of rfl rfl rfl rfl) (T.tooMuch.raises (by rfl)))) pss_nil)
    (pss_cons (ps_expr (pe_meth0 (pv 0) T.cat mM GM hr1 bM .nil pass0))
    (pss_cons (ps_fld (pv 0) (pv 3) rfl)
    (pss_cons (ps_fld (pv 0) (pv 4) rfl)
    (pss_one (ps_ret (pe_meth0 (pv 0) T.cat mS GS hr1 bS .nil pass0))))))))), ?_⟩
  cases told with
  | release n =>
    refine ⟨_, rfl, S, na, n, rfl, hn, small, cat.trk, fun ok lt H1 m1 told => ?_, fun bad G m => qR A.xL (-1) G .notLet (step_release_no bad) m.mt (m.tabs tabs)⟩
    obtain ⟨us, eu, hl, rowsU⟩ := told
    have cat1 := cat.at_.mt m1.mt
    have trk1 := cat.trk.mt m1.mt
    have tabs1 := m1.tabs tabs
    have hl1 := (Off.out hl).2
    obtain ⟨dx, e, k, qs, zs, ys, cp⟩ := id cat1
    obtain ⟨lz, ly⟩ := cp.here.rows.lens cat.ok.now
    have ul : us.length ≤ 12 := by
      have := congrArg List.length eu
      rw [List.length_map] at this
      rw [this]
      exact ok.few
    -- the entries
    refine ⟨_, rfl, lt, rfl, ⟨_, SqL.of hl1⟩, fun D nD => lc_list (K := K) (a := lt) (xs := us.map rt) (fun i G => ∃ xs : List AE, Mt [] H1 G ∧ Tabs TT G ∧ G D = some (.lst (xs.map rf)) ∧ Ents A (Off (D :: S) G) xs ∧ xs.map (·.2) = (us.take i).map (fun u => Ut06.released st.entries st.kept u.2.1 u.2.2) ∧ Trk (D :: S) G)
      ⟨[], Mt.new nD, tabs_new tabs1 nD, upd_same, (fun z hz => absurd hz List.not_mem_nil), rfl, trk1.add nD (fun _ z => by cases z)⟩ (fun i G _ ⟨_, m, _⟩ => SqL.of (m.lst hl1)) ?_ ?_⟩
    · rintro i v G hv ⟨xs, mG, tG, hD, exs, exm, trG⟩
      rw [List.getElem?_map] at hv
      cases hu : us[i]? with
      | none => rw [hu] at hv; cases hv
      | some u =>
        rw [hu] at hv
        obtain rfl := Option.some.inj hv
        have mu := List.mem_of_getElem? hu
        obtain ⟨ta, h1, h2⟩ := rowsU u mu
        -- what was data is data, D being none of it
        have x1 : ExtN (Off S H1) (Off (D :: S) G) := fun b o q nt => by
          have nb : b ≠ D := fun z => by rw [z] at q; rw [(Off.out q).2] at nD; cases nD
          exact Off.in_ (fun q2 => (List.mem_cons.mp q2).elim nb (Off.out q).1) (mG.at (Off.out q).2 nt)
        have h1' := x1 _ _ h1 (fun _ z => by cases z)
        have h2' := x1 _ _ h2 (fun _ z => by cases z)
        have good : textGood 1 u.2.2 := ok.texts u.2 (by rw [← eu]; exact List.mem_map.mpr ⟨u, mu, rfl⟩)
        have hG := cp.here.ext x1
        refine ⟨u.1, _, rfl, SqT.of (Off.out h1').2, rfl, _, _, rfl, _, _, rfl, rfl, rfl, ?_⟩
        refine ⟨_, rfl, c, dx, _, rfl, mG.at cp.obj (fun _ z => by cases z), cF_no e k pL (by decide +kernel) (by decide +kernel) (by decide +kernel), _, rfl, _, rfl,
          D :: S, c, dx, e, k, pL, ta, zs, ys, st.entries, st.kept, u.2.1, u.2.2, rfl, trG, mG.at cp.obj (fun _ z => by cases z), (Off.out hG.el).2, (Off.out hG.kl).2, hG.ents, hG.kents, hG.rows, cat.ok.now, h2', good.2.1, tG, fun a G2 m2 tabs2 ent => ?_⟩
        have hD2 := m2.lst hD
        have xl : xs.length = i := by
          have := congrArg List.length exm
          rw [List.length_map, List.length_map, List.length_take] at this
          have := (List.getElem?_eq_some_iff.mp hu).1
          omega
        have keepD : ExtN (Off (D :: S) G2) (Off (D :: S) (upd G2 D (.lst (xs.map rf ++ [.ref a])))) := (Mt.put (S := D :: S) List.mem_cons_self).off
        refine ⟨_, hD2, line (by rw [List.length_map]; have := (List.getElem?_eq_some_iff.mp hu).1; omega), xs ++ [(a, inRel st.entries st.kept u.2.1 u.2.2)], ?_, tabs_lst tabs2 hD2, ?_, ?_, ?_, ?_⟩
        · intro b o q _ nt
          have nb : b ≠ D := fun z => by rw [z, nD] at q; cases q
          exact (upd_ne nb).trans ((mG.trans m2).at q nt)
        · rw [List.map_append]
          exact upd_same
        · intro z hz
          rcases List.mem_append.mp hz with hz | hz
          · exact ((exs z hz).ext m2.offX).ext keepD
          · rw [List.mem_singleton.mp hz]
            exact ent.ext keepD
        · rw [take_next hu, List.map_append, List.map_append, exm]
          show _ ++ [inRel _ _ _ _] = _ ++ [Ut06.released _ _ _ _]
          rw [inRel_eq cat.ok.now.keys]
        · exact (trG.mt m2).put (fun _ z => by cases z)
    rintro H2 ⟨xs, m2, tabs2, hD, exs, exm, trk2⟩
    rw [List.length_map, List.take_length] at exm
    have exm : xs.map (·.2) = (Ut06.release st.entries st.kept n).1 := by
      rw [exm]
      show _ = n.map _
      rw [← eu, List.map_map]
      rfl
    have exs2 : Ents A (Off S H2) xs := exs.ext (Off.less (S := S) fun b hb => List.mem_cons_of_mem _ hb)
    have DS : D ∉ S := trk1.new nD
    have cp2 := cp.mt m2
    have trk2' : Trk S H2 := trk2.less fun b hb => List.mem_cons_of_mem _ hb
    have xl : xs.length ≤ 12 := by
      have := congrArg List.length exm
      rw [List.length_map] at this
      rw [this]
      show (n.map _).length ≤ 12
      rw [List.length_map]
      exact ok.few
    -- known
    refine ⟨_, rfl, c, dx, _, rfl, cp2.obj, cF_no e k pL (by decide +kernel) (by decide +kernel) (by decide +kernel), c, dx, e, k, pL, zs, ys.map rf, rfl, cp2.obj, (Off.out cp2.here.el).2, cp2.here.ents.ext Off.sub, (Off.out cp2.here.kl).2, by omega, by rw [List.length_map]; omega, fun Lk H3 m3 nk hLk => ?_⟩
    rw [← List.map_append] at hLk
    have cp3 := cp2.mt m3.mt
    have ekn : Ents A (Off S H3) (zs.filter (fun z => z.2.sure) ++ ys) := fun z hz => (List.mem_append.mp hz).elim (fun h => cp3.here.ents z (List.mem_filter.mp h).1) (cp3.here.kents z)
    have knl : (zs.filter (fun z => z.2.sure) ++ ys).length ≤ 42 := by
      have := List.length_filter_le (fun z : AE => z.2.sure) zs
      rw [List.length_append]
      omega
    have sureK : ∀ z ∈ zs.filter (fun z => z.2.sure) ++ ys, z.2.sure = true := fun z hz => by
      rcases List.mem_append.mp hz with hz | hz
      · exact (List.mem_filter.mp hz).2
      · have : z.2 ∈ st.kept.map asE := by rw [← cp.here.rows.kept]; exact List.mem_map.mpr ⟨z, hz, rfl⟩
        obtain ⟨y, _, ey⟩ := List.mem_map.mp this
        rw [← ey]
        rfl
    have hD3 := m3.at hD
    have exs3 := exs2.ext m3.mt.offX
    refine ⟨_, rfl, Lk, D, zs.filter (fun z => z.2.sure) ++ ys, xs, rfl, hLk, ekn.ext Off.sub, by omega, hD3, exs3.ext Off.sub, fun kL nkL => ?_⟩
    have eK : ((zs.filter (fun z => z.2.sure) ++ ys).filter (hid xs)).map kOf = (Ut06.release st.entries st.kept n).2 := by
      show _ = Ut06.unshown (n.map _) (Ut06.known st.entries st.kept)
      rw [unshown_eq, ← cp.here.rows.known, kOf_filter]
      show _ = ((zs.filter (fun z => z.2.sure) ++ ys).filter fun z => !shown (Ut06.release st.entries st.kept n).1 (kOf z)).map kOf
      rw [← exm]
    have m4 : Mo [] H3 (upd H3 kL (.lst (((zs.filter (fun z => z.2.sure) ++ ys).filter (hid xs)).map rf))) := Mo.new nkL
    have hk4 : upd H3 kL (.lst (((zs.filter (fun z => z.2.sure) ++ ys).filter (hid xs)).map rf)) kL = some (.lst (((zs.filter (fun z => z.2.sure) ++ ys).filter (hid xs)).map rf)) := upd_same
    have kS : kL ∉ S := (trk2'.mt m3.mt).new nkL
    generalize upd H3 kL (.lst (((zs.filter (fun z => z.2.sure) ++ ys).filter (hid xs)).map rf)) = H4 at m4 hk4 ⊢
    have m04 : Mt [] H H4 := ((m1.mt.trans m2).trans m3.mt).trans m4.mt
    have tabs4 := m4.tabs (m3.tabs tabs2)
    have lenK : ((zs.filter (fun z => z.2.sure) ++ ys).filter (hid xs)).length = (Ut06.release st.entries st.kept n).2.length := by rw [← eK, List.length_map]
    refine ⟨_, rfl, kL, _, rfl, .inl (SqL.of hk4), _, _, rfl, rfl, _, rfl, ?_⟩
    rw [List.length_map, lenK]
    by_cases c30 : 30 < (Ut06.release st.entries st.kept n).2.length
    · refine ifT (decide_eq_true (by omega)) ?_
      refine qR A.xM (-5) H4 .tooMuch ?_ m04 tabs4
      rw [step_release ok, if_pos c30]
    refine ifF (decide_eq_false (by omega)) ?_
    have stp : Ut06.step st (.release n) = (Ut06.becomes st (Ut06.release st.entries st.kept n).1 (Ut06.release st.entries st.kept n).2, Ut06.told (Ut06.becomes st (Ut06.release st.entries st.kept n).1 (Ut06.release st.entries st.kept n).2)) := by rw [step_release ok, if_neg c30]
    have cp4 := cp3.mt m4.mt
    have trk4 := (trk2'.mt m3.mt).mt m4.mt
    -- remember
    refine ⟨_, rfl, c, dx, _, rfl, cp4.obj, cF_no e k pL (by decide +kernel) (by decide +kernel) (by decide +kernel), c, dx, e, k, pL, qs.map rq, rfl, cp4.obj, cp4.past, ?_, fun tp ntp => ?_⟩
    · have := congrArg List.length cp.old
      rw [List.length_reverse, List.length_map] at this
      have := cat.few
      rw [List.length_map]
      omega
    have rem := remembered cp4 trk4 ntp
    have tabs5 : Tabs TT (upd (upd H4 tp (.tup [.ref e, .ref k])) pL (.lst (qs.map rq ++ [.ref tp]))) := tabs_lst (tabs_new tabs4 ntp) ((upd_ne (ne_of_none cp4.past ntp)).trans cp4.past)
    generalize upd (upd H4 tp (.tup [.ref e, .ref k])) pL (.lst (qs.map rq ++ [.ref tp])) = H5 at rem tabs5 ⊢
    refine ⟨_, rfl, _, rfl, c, A.cC, dx, _, rfl, rem.obj, T.cat, T.cEntries, (by show 3 < 1000; decide), ?_⟩
    rw [cF_pe]
    refine ⟨_, rfl, _, rfl, c, A.cC, dx, _, rfl, upd_same, T.cat, T.cKept, (by show 3 < 1000; decide), ?_⟩
    rw [cF_pk, upd_twice]
    have m46 : Mt [c, pL] H4 (upd H5 c (cO A dx D kL pL)) := rem.mt.trans (Mt.put List.mem_cons_self)
    have x46 : ExtN (Off S H4) (Off S (upd H5 c (cO A dx D kL pL))) := (m46.more (mem2 cat.cS cat.pS)).off
    have x36 : ExtN (Off S H3) (Off S (upd H5 c (cO A dx D kL pL))) := fun b o q nt => x46 b o (m4.mt.offX (S := S) b o q nt) nt
    have tc : tp ≠ c := fun z => rem.out (z ▸ cat.cS)
    have cp6 := committed cp4 cat.cS cat.pS m46 rem.out ((upd_ne tc).trans rem.tup) upd_same ((upd_ne (ne_of rem.past rem.obj (by intro z; cases z))).trans rem.past) (zs' := xs) (ys' := ((zs.filter (fun z => z.2.sure) ++ ys).filter (hid xs)).map norm) (g' := (Ut06.release st.entries st.kept n).1) (l' := (Ut06.release st.entries st.kept n).2)
      ⟨x36 D _ (Off.in_ DS hD3) (fun _ z => by cases z), by rw [norm_rf]; exact x46 kL _ (Off.in_ kS hk4) (fun _ z => by cases z), exs3.ext x36, fun z hz => by
        obtain ⟨y, hy, rfl⟩ := List.mem_map.mp hz
        have my := (List.mem_filter.mp hy).1
        exact norm_ent ((ekn y my).ext x36) (sureK y my), ⟨exm, by rw [kept_rows, eK]⟩⟩
    have tabs6 : Tabs TT (upd H5 c (cO A dx D kL pL)) := tabs_ins tabs5 rem.obj
    have m06 : Mt [c, pL] H (upd H5 c (cO A dx D kL pL)) := m04.two.trans m46
    generalize upd H5 c (cO A dx D kL pL) = H6 at cp6 tabs6 m06 ⊢
    have ok6 : Ok1 (Ut06.release st.entries st.kept n).1 (Ut06.release st.entries st.kept n).2 := cat.ok.now.release ok.few (fun x hx => (ok.texts x hx).2.1) ok.once (by omega)
    obtain ⟨lz6, ly6⟩ := cp6.here.rows.lens ok6
    refine ⟨_, rfl, c, dx, _, rfl, cp6.obj, cF_no D kL pL (by decide +kernel) (by decide +kernel) (by decide +kernel), c, dx, D, kL, pL, _, _, rfl, cp6.obj, (Off.out cp6.here.el).2, cp6.here.ents.ext Off.sub, (Off.out cp6.here.kl).2, by omega, by rw [List.length_map]; omega, fun l G m7 nl hl => ?_⟩
    refine qS l G (m06.trans m7.mt.two) (m7.tabs tabs6) ?_ ?_
    · rw [stp]
      exact ⟨_, _, _, _, _, _, cp6.mt m7.mt⟩
    · rw [stp, hl]
      refine congrArg (fun z => some (HO.lst z)) ?_
      exact toldV_is cp6.here.rows _
end
end Rd
/-! answer_together. -/
namespace Rd
open PySem PySem.Spec PyProof.Rows L2 LamX NdefX
/-! ### a turn of it -/
theorem tg_step {g0 : List Ut06.Entry} {l0 : List Ut06.Kept} (ok : Ok1 g0 l0) {n : List (Nat × List Nat × List Nat)} (nd : (n.map (·.1)).Nodup) (has : ∀ x ∈ n, (Ut06.entryOf g0 x.1).isSome = true) {i : Nat} {x : Nat × List Nat × List Nat} (hx : n[i]? = some x) :
    turnT g0 (Ut06.together g0 (n.take i), Ut06.unshown (Ut06.together g0 (n.take i)) l0) x = (Ut06.together g0 (n.take (i + 1)), Ut06.unshown (Ut06.together g0 (n.take (i + 1))) l0) := by
  have lt := (List.getElem?_eq_some_iff.mp hx).1
  have T := tg_all ok nd has i (by omega)
  have T1 := tg_all ok nd has (i + 1) (by omega)
  have tk := take_next hx
  have s1 := T1.same
  rw [tk, List.foldl_append, T.same] at s1
  exact s1.trans (by rw [tk])
theorem turn_yes {g0 : List Ut06.Entry} {s : List Ut06.Entry × List Ut06.Kept} {x : Nat × List Nat × List Nat} {e : Ut06.Entry} (h : Ut06.entryOf g0 x.1 = some e) (f : Ut06.fate x.2.1 e.trans x.2.2 = 2) :
    turnT g0 s x = (exch s.1 ⟨e.key, e.text, x.2.2, !x.2.2.isEmpty, 0⟩, Ut06.unshown (exch s.1 ⟨e.key, e.text, x.2.2, !x.2.2.isEmpty, 0⟩) s.2) := by
  unfold turnT
  rw [h]
  exact if_pos f
theorem turn_no {g0 : List Ut06.Entry} {s : List Ut06.Entry × List Ut06.Kept} {x : Nat × List Nat × List Nat} {e : Ut06.Entry} (h : Ut06.entryOf g0 x.1 = some e) (f : ¬ Ut06.fate x.2.1 e.trans x.2.2 = 2) : turnT g0 s x = s := by
  unfold turnT
  rw [h]
  exact if_neg f
theorem count_cast (l : List Nat) : (l.map fun n : Nat => (n : Int)).count 2 = (l.filter fun n => n == 2).length := by
  induction l with
  | nil => rfl
  | cons a r ih =>
    rw [List.map_cons, List.count_cons, ih, List.filter_cons]
    by_cases c : a = 2
    · subst c
      simp
    · have h1 : ((a : Int) == 2) = false := by simp; omega
      have h2 : (a == 2) = false := by simp [c]
      rw [h1, h2]
      simp
section
variable {mg : Str → Option Value} {P : Program} {base : Heap} {w : World} {K : PySem.W.Frag} {A : Ad} {TT : List (Addr × Str)}
theorem CatP.extS {S R : List Addr} {H G : Hp} {c pL dx e k : Addr} {qs : List AP} {zs ys : List AE} {st : Ut06.St} (h : CatP A S H c pL dx e k qs zs ys st) (x : ExtN (Off S H) (Off R G)) (obj : G c = some (cO A dx e k pL)) (past : G pL = some (.lst (qs.map rq))) : CatP A R G c pL dx e k qs zs ys st :=
  ⟨obj, past, h.here.ext x, fun q hq => (h.olds q hq).ext x, h.old⟩
/-- behind exchange, where nothing is remembered -/
theorem exch_more {S : List Addr} {H : Hp} {c pL dx e k x e' k' : Addr} {qs : List AP} {zs ys : List AE} {st : Ut06.St} {y : Ut06.Entry} (cp : CatP A S H c pL dx e k qs zs ys st) (cS : c ∈ S) (trk : Trk S H) (ent : EntAt A (Off S H) x y) (ne : H e' = none) (nk : H k' = none) (ek : e' ≠ k') :
    CatP A S (upd (upd (upd H e' (.lst ((exchZ zs x y).map rf))) k' (.lst ((ys.filter (hid (exchZ zs x y))).map rf))) c (cO A dx e' k' pL)) c pL dx e' k' qs (exchZ zs x y) (ys.filter (hid (exchZ zs x y))) ⟨exch st.entries y, Ut06.unshown (exch st.entries y) st.kept, st.old⟩ ∧
    Mt [c] H (upd (upd (upd H e' (.lst ((exchZ zs x y).map rf))) k' (.lst ((ys.filter (hid (exchZ zs x y))).map rf))) c (cO A dx e' k' pL)) := by
  have m34 : Mo [] H (upd (upd H e' (.lst ((exchZ zs x y).map rf))) k' (.lst ((ys.filter (hid (exchZ zs x y))).map rf))) := Mo.trans (Mo.new ne) (Mo.new ((upd_ne (Ne.symm ek)).trans nk))
  have h1 : upd (upd H e' (.lst ((exchZ zs x y).map rf))) k' (.lst ((ys.filter (hid (exchZ zs x y))).map rf)) e' = some (.lst ((exchZ zs x y).map rf)) := (upd_ne ek).trans upd_same
  have h2 : upd (upd H e' (.lst ((exchZ zs x y).map rf))) k' (.lst ((ys.filter (hid (exchZ zs x y))).map rf)) k' = some (.lst ((ys.filter (hid (exchZ zs x y))).map rf)) := upd_same
  have eS := trk.new ne
  have kS := trk.new nk
  have cp4 := cp.mt m34.mt
  have ent4 := ent.ext m34.mt.offX
  generalize upd (upd H e' (.lst ((exchZ zs x y).map rf))) k' (.lst ((ys.filter (hid (exchZ zs x y))).map rf)) = H4 at m34 h1 h2 cp4 ent4 ⊢
  have ec : e' ≠ c := fun z => eS (z ▸ cS)
  have kc : k' ≠ c := fun z => kS (z ▸ cS)
  have x45 : ExtN (Off S H4) (Off S (upd H4 c (cO A dx e' k' pL))) := (Mt.put (S := S) cS).off
  refine ⟨⟨upd_same, (upd_ne (ne_of cp4.past cp4.obj (by intro z; cases z))).trans cp4.past, ⟨Off.in_ eS ((upd_ne ec).trans h1), Off.in_ kS ((upd_ne kc).trans h2), exchZ_ents (cp4.here.ents.ext x45) (ent4.ext x45), fun z hz => (cp4.here.kents z (List.mem_filter.mp hz).1).ext x45, ⟨?_, ?_⟩⟩, fun q hq => (cp4.olds q hq).ext x45, cp4.old⟩, ?_⟩
  · rw [exchZ_snd, cp.here.rows.ents]
  · rw [kept_filter cp.here.rows.kept, exchZ_snd, cp.here.rows.ents]
  · exact (m34.mt.more (R := [c]) fun _ q => absurd q List.not_mem_nil).trans (Mt.put (List.mem_singleton.mpr rfl))
abbrev sATog : Stmt := top 32
abbrev nG : List Str := ["catalogue", "numbers", "told", "row", "ours", "became_of", "entry", "theirs", "what"]
theorem scATog : FnScope nG c2 (defScope sATog) := ⟨rfl, rfl, rfl, by decide +kernel, rfl, by decide +kernel, by decide +kernel⟩
theorem ok_atog {f : Addr} {fd : FuncData} (F : Fun K "answer_together" "answer_together" sATog f fd) (T : Txt K mg A) (C : Cats P w K mg base A) (GR : Held P w K mg base (L2.CX P w) 3 "read_together" ["numbers"] (spTog A)) (GB : Held P w K mg base CX0 1 "became" ["ours", "began", "theirs"] spBecame) :
    FnOk P w K mg base (L2.CX P w) 4 f fd c2 (spAns A TT 3) := by
  obtain ⟨fR, fdR, mR, kR, bR, GR⟩ := GR
  obtain ⟨fB, fdB, mB, kB, bB, GB⟩ := GB
  obtain ⟨fE, fdE, mE, bE, GE⟩ := C.make.ok
  obtain ⟨fM, fdM, mM, bM, GM⟩ := C.rem.ok
  obtain ⟨fO, fdO, mO, bO, GO⟩ := C.of_.ok
  obtain ⟨fX, fdX, mX, bX, GX⟩ := C.exch.ok
  obtain ⟨t2, h2⟩ := T.theirs
  refine F.okX scATog (fun vs H Q E ⟨_, _, _, _, _, _, _, e, _⟩ => by rw [e]; rfl) fun cdv B outer s H vs Q E hr ⟨S, c, pL, na, st, ns, call, e, cat, hn, small, told, tabs, qS, qR⟩ => ?_
  subst e
  have hr1 : Room 1 _ := hr.mono (by decide)
  have hr2 : Room 2 _ := hr.mono (by decide)
  refine ⟨_, pss_cons (ps_set (i := 2) scATog.nd rfl (.inl rfl) (pe_call (E := E) GR hr (by rfl) mR kR bR .nil (passes_call (takes_of rfl rfl rfl rfl) (fun _ _ _ _ h => h)) (pa_cons (pv 1) pa_nil)))
    (pss_cons (ps_setLcx (E := E) (i := 4) (own := [("row", 3)]) (g := gName 3) (tt := tYes) (te := tMx A.cC "entry_of" (spCOf A) (fun _ => E) (tVar 0) (tCons (tOp (rIxT K) (tVar 3) (tC (.int 0))) tNil)) rfl scATog.nd rfl rfl (takes_of rfl rfl rfl rfl) rfl rfl (sw_true rfl rfl rfl (by decide +kernel)) (pi_list (pv 2)) (blkOk_by (N := nG) (sc := defScope sATog) (by decide +kernel))
      ⟨fun _ _ _ _ _ _ => pg_name (i := 3) scATog.nd rfl (Or.inl rfl), fun _ _ _ _ _ _ => pts_nil, fun _ _ _ _ _ _ ps => pe_mx (pv 0) T.cat mO GO hr1 bO ps (pa_cons (pe_ix ix_tup (pv 3) pe_int (fun _ _ => rfl)) pa_nil)⟩)
    (pss_cons (ps_expr (pe_meth0 (pv 0) T.cat mM GM hr1 bM .nil pass0))
    (pss_cons (ps_set (i := 5) scATog.nd rfl (.inl rfl) (pe_lst pa_nil))
    (pss_cons (ps_for (passes_of rfl) rfl (pi_zip (by rfl) T.blt.zip (pa_cons (pv 4) (pa_cons (pv 2) pa_nil))) (pg_tup rfl (pgs_cons (pg_name (i := 6) scATog.nd rfl (.inl rfl)) (pgs_cons (pg_name (i := 3) scATog.nd rfl (.inl rfl)) pgs_nil)))
      (pss_cons (ps_set (i := 7) scATog.nd rfl (.inl rfl) (pe_ix ix_tup (pv 3) pe_int (fun _ _ => rfl)))
      (pss_cons (ps_set (i := 8) scATog.nd rfl (.inl rfl) (pe_call GB hr1 (by rfl) mB kB bB .nil pass0 (pa_cons (pe_fld (pv 6) rfl) (pa_cons (pe_ix ix_tup (pv 3) pe_int (fun _ _ => rfl)) (pa_cons (pv 7) pa_nil)))))
      (pss_cons (ps_if (pt_cmpR op_eq (pv 8) (pe_glob (v := .int 2) (by rfl) h2 ⟨_, rfl⟩) (nomark _))
        (pss_one (ps_expr (pe_meth (pv 0) T.cat mX GX hr bX .nil pass0 (pa_cons (pe_make mE GE hr2 (by rfl) T.eAt bE .nil pass0 (pa_cons (pe_fld (pv 6) rfl) (pa_cons (pe_fld (pv 6) rfl) (pa_cons (pv 7) (pa_cons (pe_cmpR op_gt (pe_callB call_len_seq (by rfl) T.blt.len PySem.boot_len (pa_cons (pv 7) pa_nil)) pe_int (nomark _)) (pa_cons pe_non pa_nil)))))) pa_nil)))) pss_nil)
      (pss_one (ps_expr (pe_bm PySem.F.plainAttrs_list PySem.F.slot_list_append PySem.F.type_list_append mt_append (pv 5) (pa_cons (pv 8) pa_nil))))))))
    (pss_one (ps_ret (pe_op op_cat (pe_lst (pa_cons (pe_bm PySem.F.plainAttrs_list PySem.F.slot_list_count PySem.F.type_list_count mt_lcount (pv 5) (pa_cons (pe_glob (v := .int 2) (by rfl) h2 ⟨_, rfl⟩) pa_nil)) pa_nil)) (pv 5)))))))), ?_⟩
  cases told with
  | together n =>
    refine ⟨_, rfl, S, na, n, rfl, hn, cat.trk, fun ok lt H1 m1 told => ?_, fun bad G m => qR A.xL (-1) G .notLet (step_together_no bad) m.mt (m.tabs tabs)⟩
    obtain ⟨us, eu, hl, rowsU⟩ := told
    have trk1 := cat.trk.mt m1.mt
    have tabs1 := m1.tabs tabs
    have hl1 := (Off.out hl).2
    obtain ⟨dx, e, k, qs, zs, ys, cp⟩ := cat.at_.mt m1.mt
    obtain ⟨lz, ly⟩ := cp.here.rows.lens cat.ok.now
    have ul : us.length = n.length := by
      have := congrArg List.length eu
      rwa [List.length_map] at this
    have unI : ∀ {i : Nat} {u : AT3}, us[i]? = some u → n[i]? = some u.2 := fun {i u} hu => by rw [← eu, List.getElem?_map, hu]; rfl
    -- ours
    refine ⟨_, rfl, lt, rfl, ⟨_, SqL.of hl1⟩, fun D nD => lc_list (K := K) (a := lt) (xs := us.map rt3) (fun i G => ∃ os : List AE, G = upd H1 D (.lst (os.map rf)) ∧ (∀ z ∈ os, z ∈ zs) ∧ os.map (fun z => some z.2) = (us.take i).map (fun u => Ut06.entryOf st.entries u.2.1))
      ⟨[], rfl, by simp, rfl⟩ (fun i G _ ⟨_, eG, _⟩ => by rw [eG]; exact SqL.of ((upd_ne (ne_of_none hl1 nD)).trans hl1)) ?_ ?_⟩
    · rintro i v G hv ⟨os, rfl, mo, eo⟩
      rw [List.getElem?_map] at hv
      cases hu : us[i]? with
      | none => rw [hu] at hv; cases hv
      | some u =>
        rw [hu] at hv
        obtain rfl := Option.some.inj hv
        have mu := List.mem_of_getElem? hu
        obtain ⟨ua, ub, h1, _, _⟩ := rowsU u mu
        have h1 := (Off.out h1).2
        have mD : Mo [] H1 (upd H1 D (.lst (os.map rf))) := Mo.new nD
        have cpD := cp.mt mD.mt
        refine ⟨rfl, _, rfl, c, dx, _, rfl, cpD.obj, cF_no e k pL (by decide +kernel) (by decide +kernel) (by decide +kernel), _, rfl, u.1, _, _, _, rfl, rfl, SqT.of (mD.at h1), atI_nat (j := 0) rfl, c, dx, e, k, pL, zs, u.2.1, rfl, cpD.obj, (Off.out cpD.here.el).2, cpD.here.ents.ext Off.sub, fun no => ?_, fun a x ex mz => ?_⟩
        · rw [cp.here.rows.ents] at no
          exact qR A.xN (-2) _ .noEntry (step_together_none ok (List.mem_of_getElem? (unI hu)) no) (m1.trans mD).mt (mD.tabs tabs1)
        · rw [cp.here.rows.ents] at ex
          have xl : os.length = i := by
            have := congrArg List.length eo
            rw [List.length_map, List.length_map, List.length_take] at this
            have := (List.getElem?_eq_some_iff.mp hu).1
            omega
          refine ⟨_, upd_same, line (by rw [List.length_map]; have := (List.getElem?_eq_some_iff.mp hu).1; have := ok.few; omega), os ++ [(a, x)], by rw [upd_twice, List.map_append]; rfl, fun z hz => ?_, ?_⟩
          · obtain hz | hz := List.mem_append.mp hz
            · exact mo z hz
            · rw [List.mem_singleton.mp hz]; exact mz
          · rw [take_next hu, List.map_append, List.map_append, eo]
            show _ ++ [some x] = _ ++ [_]
            rw [← ex]
    rintro H2 ⟨os, eH2, mo, eo⟩
    rw [List.length_map, List.take_length] at eo
    have m2 : Mo [] H1 H2 := by rw [eH2]; exact Mo.new nD
    have hD2 : H2 D = some (.lst (os.map rf)) := by rw [eH2]; exact upd_same
    clear eH2
    have DS : D ∉ S := trk1.new nD
    have ol : os.length = n.length := by
      have := congrArg List.length eo
      rw [List.length_map, List.length_map] at this
      omega
    have oI : ∀ {i : Nat} {z : AE} {x : T3}, os[i]? = some z → n[i]? = some x → Ut06.entryOf st.entries x.1 = some z.2 := fun {i z x} hz hx => by
      have e1 : (os.map (fun z => some z.2))[i]? = some (some z.2) := by rw [List.getElem?_map, hz]; rfl
      have e2 : (us.map (fun u => Ut06.entryOf st.entries u.2.1))[i]? = some (Ut06.entryOf st.entries x.1) := by
        rw [← eu, List.getElem?_map] at hx
        rw [List.getElem?_map]
        cases hu : us[i]? with
        | none => rw [hu] at hx; cases hx
        | some u =>
          rw [hu] at hx
          rw [← Option.some.inj hx]
          rfl
      rw [eo, e2] at e1
      exact Option.some.inj e1
    have has : ∀ x ∈ n, (Ut06.entryOf st.entries x.1).isSome = true := fun x hx => by
      obtain ⟨i, hi⟩ := List.getElem?_of_mem hx
      have lt2 := (List.getElem?_eq_some_iff.mp hi).1
      obtain ⟨z, hz⟩ : ∃ z, os[i]? = some z := ⟨_, List.getElem?_eq_getElem (by omega)⟩
      rw [oI hz hi]
      rfl
    have stp := step_together (g := st) ok has
    have cp2 := cp.mt m2.mt
    have trk2 := trk1.mt m2.mt
    -- remember
    refine ⟨_, rfl, c, dx, _, rfl, cp2.obj, cF_no e k pL (by decide +kernel) (by decide +kernel) (by decide +kernel), c, dx, e, k, pL, qs.map rq, rfl, cp2.obj, cp2.past, ?_, fun tp ntp => ?_⟩
    · have := congrArg List.length cp.old
      rw [List.length_reverse, List.length_map] at this
      have := cat.few
      rw [List.length_map]
      omega
    have rem := remembered cp2 trk2 ntp
    have tabs3 : Tabs TT (upd (upd H2 tp (.tup [.ref e, .ref k])) pL (.lst (qs.map rq ++ [.ref tp]))) := tabs_lst (tabs_new (m2.tabs tabs1) ntp) ((upd_ne (ne_of_none cp2.past ntp)).trans cp2.past)
    generalize upd (upd H2 tp (.tup [.ref e, .ref k])) pL (.lst (qs.map rq ++ [.ref tp])) = H3 at rem tabs3 ⊢
    have x23 : ExtN (Off S H2) (Off S H3) := (rem.mt.more (mem2 cat.cS cat.pS)).off
    have cp3 := committed cp2 cat.cS cat.pS rem.mt rem.out rem.tup rem.obj rem.past (cp2.here.ext x23)
    refine ⟨(show 0 ≤ sizeLine by decide), fun bL nb => ?_⟩
    have x34 : ExtN (Off S H3) (Off (bL :: S) (upd H3 bL (.lst []))) := Off.add nb
    have cp4 := cp3.extS x34 ((upd_ne (ne_of_none cp3.obj nb)).trans cp3.obj) ((upd_ne (ne_of_none cp3.past nb)).trans cp3.past)
    have tabs4 : Tabs TT (upd H3 bL (.lst [])) := tabs_new tabs3 nb
    have trk4 : Trk (bL :: S) (upd H3 bL (.lst [])) := rem.trk.add nb (fun _ z => by cases z)
    have hb4 : upd H3 bL (.lst []) bL = some (.lst []) := upd_same
    have m24 : Mt [c, pL] H2 (upd H3 bL (.lst [])) := rem.mt.trans (Mt.new nb)
    have x14 : ExtN (Off S H1) (Off (bL :: S) (upd H3 bL (.lst []))) := fun b o q nt => x34 b o (x23 b o (m2.mt.offX (S := S) b o q nt) nt) nt
    have hD4 : Off (bL :: S) (upd H3 bL (.lst [])) D = some (.lst (os.map rf)) := x34 D _ (x23 D _ (Off.in_ DS hD2) (fun _ z => by cases z)) (fun _ z => by cases z)
    have hl4 := x14 lt _ hl (fun _ z => by cases z)
    have rows4 : ∀ u ∈ us, TRow3 (Off (bL :: S) (upd H3 bL (.lst []))) u := fun u hu => (rowsU u hu).ext x14
    have os4 : Ents A (Off (bL :: S) (upd H3 bL (.lst []))) os := fun z hz => (cp.here.ents z (mo z hz)).ext x14
    generalize upd H3 bL (.lst []) = H4 at cp4 tabs4 trk4 hb4 m24 hD4 hl4 rows4 os4 ⊢
    have cS4 : c ∈ bL :: S := List.mem_cons_of_mem _ cat.cS
    have sub4 : ∀ b ∈ [bL, c], b ∈ bL :: S := fun b hb => by
      obtain rfl | hb := List.mem_cons.mp hb
      · exact List.mem_cons_self
      · rw [List.mem_singleton.mp hb]; exact cS4
    have fl : (fates st.entries n).length = n.length := List.length_map _
    refine ⟨_, rfl, _, rfl, D, lt, os.map rf, us.map rt3, rfl, SqL.of (Off.out hD4).2, SqL.of (Off.out hl4).2, for_it (walk_zip (n := n.length) (by rw [List.length_map, List.length_map]; omega)) (fun i σ G => ∃ (e k : Addr) (zs ys : List AE) (v3 v6 v7 v8 : Option V), σ = [some (.ref c), some (.ref na), some (.ref lt), v3, some (.ref D), some (.ref bL), v6, v7, v8] ∧
        CatP A (bL :: S) G c pL dx e k (qs ++ [(tp, st.entries, st.kept)]) zs ys ⟨Ut06.together st.entries (n.take i), Ut06.unshown (Ut06.together st.entries (n.take i)) st.kept, (st.entries, st.kept) :: st.old⟩ ∧ Mt [bL, c] H4 G ∧ Tabs TT G ∧ Trk (bL :: S) G ∧ G bL = some (.lst (iv ((fates st.entries n).take i))))
      ⟨e, k, zs, ys, none, none, none, none, rfl, ?_, Mt.rfl, tabs4, trk4, hb4⟩ (fun i σ G _ ⟨_, _, _, _, _, _, _, _, _, _, m, _⟩ => ⟨SqL.of (Off.out ((m.more sub4).off D _ hD4 (fun _ z => by cases z))).2, SqL.of (Off.out ((m.more sub4).off lt _ hl4 (fun _ z => by cases z))).2⟩) ?_ ?_⟩
    · have e0 : Ut06.unshown (Ut06.together st.entries (n.take 0)) st.kept = st.kept := unshown_all fun x hx => cat.ok.now.shown hx
      rw [e0]
      exact cp4
    · rintro i v σ G G' hi ⟨e, k, zs, ys, v3, v6, v7, v8, rfl, cpG, mG, tG, trG, hbG⟩ ⟨T2, x, y, rfl, nT2, rfl, ex, ey⟩
      obtain ⟨z, hz, rfl, mz⟩ := rf_get ex
      have ey : (us.map rt3)[i]? = some y := ey
      rw [List.getElem?_map] at ey
      cases hu : us[i]? with
      | none => rw [hu] at ey; cases ey
      | some u =>
      rw [hu] at ey
      obtain rfl := Option.some.inj ey
      have nx := unI hu
      have ent0 := oI hz nx
      have m5 : Mo [] G (upd G T2 (.tup [rf z, rt3 u])) := Mo.new nT2
      have hT2 : upd G T2 (.tup [rf z, rt3 u]) T2 = some (.tup [rf z, rt3 u]) := upd_same
      have cp5 := cpG.mt m5.mt
      have trk5 := trG.mt m5.mt
      have tabs5 := m5.tabs tG
      have hb5 := m5.at hbG
      have m45 : Mt [bL, c] H4 (upd G T2 (.tup [rf z, rt3 u])) := mG.trans (m5.mt.more fun _ q => absurd q List.not_mem_nil)
      generalize upd G T2 (.tup [rf z, rt3 u]) = G5 at m5 hT2 cp5 trk5 tabs5 hb5 m45 ⊢
      have x45 := (m45.more sub4).off
      obtain ⟨ua, ub, hu1, hu2, hu3⟩ := (rows4 u (List.mem_of_getElem? hu)).ext x45
      obtain ⟨dz, za, zb, hz1, hz2, hz3⟩ := (os4 z mz).ext x45
      have hu1' := (Off.out hu1).2
      have hz1' := (Off.out hz1).2
      refine ⟨T2, _, rfl, SqT.of hT2, rfl, _, _, rfl, _, _, rfl, rfl, ?_⟩
      refine ⟨_, rfl, u.1, _, _, _, rfl, rfl, SqT.of hu1', atI_nat (j := 2) rfl, ?_⟩
      refine ⟨_, rfl, z.1, A.cE, dz, _, _, rfl, hz1', T.entry, T.eTrans, eF_trans z.2 za zb, _, rfl, u.1, _, _, _, rfl, rfl, SqT.of hu1', atI_nat (j := 1) rfl, _, rfl, zb, ua, ub, z.2.trans, u.2.2.1, u.2.2.2, rfl, (Off.out hz3).2, (Off.out hu2).2, (Off.out hu3).2, ?_⟩
      have fi : (fates st.entries n)[i]? = some (Ut06.fate u.2.2.1 z.2.trans u.2.2.2) := by
        unfold fates
        rw [List.getElem?_map, nx]
        show some (Ut06.fate u.2.2.1 (((Ut06.entryOf st.entries u.2.1).map fun y => y.trans).getD []) u.2.2.2) = _
        rw [ent0]
        rfl
      have tf := take_next fi
      have stepI := tg_step cat.ok.now ok.once has nx
      have lenT : (iv ((fates st.entries n).take i)).length < sizeLine := line (by rw [iv_len, List.length_take]; have := ok.few; omega)
      refine ⟨_, rfl, rfl, _, rfl, ?_⟩
      by_cases cf : Ut06.fate u.2.2.1 z.2.trans u.2.2.2 = 2
      · refine ifT (decide_eq_true (by rw [cf]; rfl)) ?_
        rw [turn_yes ent0 cf] at stepI
        have eg := (Prod.mk.inj stepI).1
        have ek := (Prod.mk.inj stepI).2
        refine ⟨_, rfl, c, dx, _, rfl, cp5.obj, cF_no e k pL (by decide +kernel) (by decide +kernel) (by decide +kernel), _, rfl, z.1, A.cE, dz, _, _, rfl, hz1', T.entry, T.eKey, eF_key z.2 za zb, _, rfl, z.1, A.cE, dz, _, _, rfl, hz1', T.entry, T.eText, eF_text z.2 za zb, _, rfl, _, rfl, ub, _, rfl, .inl (SqL.of (Off.out hu3).2), _, _, rfl, rfl, fun o dO no ndo neo => ?_⟩
        have sureEq : decide ((0 : Int) < ((iv u.2.2.2).length : Int)) = !u.2.2.2.isEmpty := by
          rw [iv_len]
          cases u.2.2.2 with
          | nil => rfl
          | cons p r => exact decide_eq_true (by simp)
        obtain ⟨mE2, eA⟩ := made_entry (A := A) (e := ⟨z.2.key, z.2.text, u.2.2.2, !u.2.2.2.isEmpty, 0⟩) (ta := za) (tb := ub) (k := .int (z.2.key : Nat)) (tt := .ref za) (tr := .ref ub) (s := .bl (decide ((0 : Int) < ((iv u.2.2.2).length : Int)))) (so := .non) trk5 hz2 hu3 no ndo neo (by
          unfold eV eF srcV
          rw [sureEq, if_pos]
          show u.2.2.2 = [] ∨ (!u.2.2.2.isEmpty) = true
          cases u.2.2.2 with
          | nil => exact .inl rfl
          | cons p r => exact .inr rfl)
        refine ⟨o, dO, _, _, _, _, _, rfl, upd_same, rfl, ?_⟩
        have cp6 := cp5.mt mE2.mt
        have trk6 := trk5.mt mE2.mt
        have tabs6 := mE2.tabs tabs5
        have hb6 := mE2.at hb5
        have m56 : Mt [bL, c] G5 _ := mE2.mt.more (R := [bL, c]) fun _ q => absurd q List.not_mem_nil
        generalize upd (upd (upd G5 dO (.own o)) o (.ins A.cE dO [])) o (.ins A.cE dO (eV (.int (z.2.key : Nat)) (.ref za) (.ref ub) (.bl (decide ((0 : Int) < ((iv u.2.2.2).length : Int)))) .non)) = G6 at eA cp6 trk6 tabs6 hb6 m56 ⊢
        have okI := cat.ok.now.together ok.once has (fun x hx => (ok.texts x hx).2.2.1) i (by omega)
        obtain ⟨lzI, lyI⟩ := cp6.here.rows.lens okI
        refine ⟨c, dx, e, k, pL, o, zs, ys, _, rfl, cp6.obj, (Off.out cp6.here.el).2, cp6.here.ents.ext Off.sub, by omega, (Off.out cp6.here.kl).2, cp6.here.kents.ext Off.sub, by omega, eA.ext Off.sub, fun e' k' ne' nk' ek' => ?_⟩
        obtain ⟨cp7, m67⟩ := exch_more cp6 cS4 trk6 eA ne' nk' ek'
        have n2 : upd G6 e' (.lst ((exchZ zs o ⟨z.2.key, z.2.text, u.2.2.2, !u.2.2.2.isEmpty, 0⟩).map rf)) k' = none := (upd_ne (Ne.symm ek')).trans nk'
        have hc7 := (upd_ne (o := .lst ((exchZ zs o ⟨z.2.key, z.2.text, u.2.2.2, !u.2.2.2.isEmpty, 0⟩).map rf)) (ne_of_none cp6.obj ne')).trans cp6.obj
        have tabs7 := tabs_ins (o := cO A dx e' k' pL) (tabs_new (o := .lst ((ys.filter (hid (exchZ zs o ⟨z.2.key, z.2.text, u.2.2.2, !u.2.2.2.isEmpty, 0⟩))).map rf)) (tabs_new (o := .lst ((exchZ zs o ⟨z.2.key, z.2.text, u.2.2.2, !u.2.2.2.isEmpty, 0⟩).map rf)) tabs6 ne') n2) ((upd_ne (ne_of_none hc7 n2)).trans hc7)
        have bc : bL ≠ c := ne_of hb6 cp6.obj (by intro z; cases z)
        have hb7 : upd (upd (upd G6 e' (.lst ((exchZ zs o ⟨z.2.key, z.2.text, u.2.2.2, !u.2.2.2.isEmpty, 0⟩).map rf))) k' (.lst ((ys.filter (hid (exchZ zs o ⟨z.2.key, z.2.text, u.2.2.2, !u.2.2.2.isEmpty, 0⟩))).map rf))) c (cO A dx e' k' pL) bL = some (.lst (iv ((fates st.entries n).take i))) := by
          have h1 := (upd_ne (o := .lst ((exchZ zs o ⟨z.2.key, z.2.text, u.2.2.2, !u.2.2.2.isEmpty, 0⟩).map rf)) (ne_of_none hb6 ne')).trans hb6
          exact (upd_ne bc).trans ((upd_ne (ne_of_none h1 n2)).trans h1)
        have trk7 : Trk (bL :: S) (upd (upd (upd G6 e' (.lst ((exchZ zs o ⟨z.2.key, z.2.text, u.2.2.2, !u.2.2.2.isEmpty, 0⟩).map rf))) k' (.lst ((ys.filter (hid (exchZ zs o ⟨z.2.key, z.2.text, u.2.2.2, !u.2.2.2.isEmpty, 0⟩))).map rf))) c (cO A dx e' k' pL)) := ((trk6.put (fun _ z => by cases z)).put (fun _ z => by cases z)).put (fun _ z => by cases z)
        generalize upd (upd (upd G6 e' (.lst ((exchZ zs o ⟨z.2.key, z.2.text, u.2.2.2, !u.2.2.2.isEmpty, 0⟩).map rf))) k' (.lst ((ys.filter (hid (exchZ zs o ⟨z.2.key, z.2.text, u.2.2.2, !u.2.2.2.isEmpty, 0⟩))).map rf))) c (cO A dx e' k' pL) = G7 at cp7 m67 tabs7 hb7 trk7 ⊢
        refine ⟨_, rfl, .inl ⟨rfl, _, SqL.of hb7⟩, _, rfl, bL, _, _, rfl, rfl, hb7, lenT, e', k', exchZ zs o ⟨z.2.key, z.2.text, u.2.2.2, !u.2.2.2.isEmpty, 0⟩, ys.filter (hid (exchZ zs o ⟨z.2.key, z.2.text, u.2.2.2, !u.2.2.2.isEmpty, 0⟩)), _, _, _, _, rfl, ?_, ?_, tabs_lst tabs7 hb7, trk7.put (fun _ z => by cases z), upd_same.trans ?_⟩
        · have x78 : ExtN (Off (bL :: S) G7) (Off (bL :: S) (upd G7 bL (.lst (iv ((fates st.entries n).take i) ++ [.int (Ut06.fate u.2.2.1 z.2.trans u.2.2.2 : Nat)])))) := (Mt.put (S := bL :: S) List.mem_cons_self).off
          rw [← eg] at ek ⊢
          rw [← ek]
          exact cp7.extS x78 ((upd_ne (Ne.symm bc)).trans cp7.obj) ((upd_ne (fun q => by
            have h1 := cp4.past
            rw [q] at h1
            rw [hb4] at h1
            have := congrArg List.length (HO.lst.inj (Option.some.inj h1))
            simp at this)).trans cp7.past)
        · exact ((m45.trans m56).trans (m67.more fun b hb => by rw [List.mem_singleton.mp hb]; exact List.mem_cons_of_mem _ List.mem_cons_self)).trans (Mt.put List.mem_cons_self)
        · rw [tf, iv_cat]
          rfl
      · refine ifF (decide_eq_false fun q => cf (by
          have := V.int.inj q
          omega)) ?_
        rw [turn_no ent0 cf] at stepI
        have eg := (Prod.mk.inj stepI).1
        have ek := (Prod.mk.inj stepI).2
        have bc : bL ≠ c := ne_of hb5 cp5.obj (by intro z; cases z)
        refine ⟨_, rfl, .inl ⟨rfl, _, SqL.of hb5⟩, _, rfl, bL, _, _, rfl, rfl, hb5, lenT, e, k, zs, ys, _, _, _, _, rfl, ?_, m45.trans (Mt.put List.mem_cons_self), tabs_lst tabs5 hb5, trk5.put (fun _ z => by cases z), upd_same.trans ?_⟩
        · have x78 : ExtN (Off (bL :: S) G5) (Off (bL :: S) (upd G5 bL (.lst (iv ((fates st.entries n).take i) ++ [.int (Ut06.fate u.2.2.1 z.2.trans u.2.2.2 : Nat)])))) := (Mt.put (S := bL :: S) List.mem_cons_self).off
          rw [← ek, ← eg]
          exact cp5.extS x78 ((upd_ne (Ne.symm bc)).trans cp5.obj) ((upd_ne (fun q => by
            have h1 := cp4.past
            rw [q] at h1
            rw [hb4] at h1
            have := congrArg List.length (HO.lst.inj (Option.some.inj h1))
            simp at this)).trans cp5.past)
        · rw [tf, iv_cat]
          rfl
    · rintro σ G ⟨e, k, zs, ys, v3, v6, v7, v8, rfl, cpG, mG, tG, trG, hbG⟩
      rw [List.take_of_length_le (Nat.le_of_eq fl)] at hbG
      rw [List.take_length] at cpG
      have m0G : Mt [c, pL] H G := fun b o q nb2 nt => by
        have q2 : H2 b = some o := (m1.trans m2).mt.at q nt
        have q3 : H3 b = some o := rem.mt b o q2 nb2 nt
        have bb : b ≠ bL := ne_of_none q3 nb
        refine mG b o (m24 b o q2 nb2 nt) (fun z => ?_) nt
        obtain z | z := List.mem_cons.mp z
        · exact bb z
        · exact nb2 (by rw [List.mem_singleton.mp z]; exact List.mem_cons_self)
      have small2 : (fates st.entries n).length ≤ 12 := by rw [fl]; exact ok.few
      have big := (show (2000000 : Nat) ≤ sizeLine by decide +kernel)
      refine ⟨_, rfl, .inl ⟨rfl, _, SqL.of hbG⟩, bL, (fates st.entries n).map (fun n : Nat => (n : Int)), 2, rfl, rfl, by rw [← iv_ints]; exact SqL.of hbG, (show 1 ≤ sizeLine by decide), fun l nl => ?_⟩
      rw [count_cast]
      refine ⟨_, rfl, l, bL, _, _, rfl, rfl, upd_same, (upd_ne (ne_of_none hbG nl)).trans hbG, by rw [iv_len]; show 1 + _ ≤ _; omega, fun p np => ?_⟩
      have mE : Mo [] G (upd (upd G l (.lst [.int (((fates st.entries n).filter fun n => n == 2).length : Nat)])) p (.lst ([.int (((fates st.entries n).filter fun n => n == 2).length : Nat)] ++ iv (fates st.entries n)))) := (Mo.new nl).trans (Mo.new np)
      refine qS p _ (m0G.trans mE.mt.two) (mE.tabs tG) ?_ (upd_same.trans ?_)
      · rw [stp]
        have cpE := (cpG.extS (R := S) (Off.less fun b hb => List.mem_cons_of_mem _ hb) cpG.obj cpG.past).mt mE.mt
        exact ⟨_, _, _, _, _, _, cpE⟩
      · rw [stp]
        show _ = some (HO.lst ((Ut06.ints (((fates st.entries n).filter fun n => n == 2).length :: fates st.entries n)).map V.int))
        rw [← iv_told, iv_cons]
        rfl
end
end Rd
/-! What each call leaves keeps what holds at all times; its answer is short. -/
namespace Rd
open Ut06
theorem okS_becomes {g : St} (ok : OkS g) {e : List Entry} {l : List Kept} (h : Ok1 e l) : OkS (becomes g e l) := ⟨h, fun p hp => by
  obtain rfl | hp := List.mem_cons.mp hp
  · exact ok.now
  · exact ok.past p hp⟩
theorem entryRow_len (e : Entry) : (Ut06.ints (entryRow e)).length = e.text.length + e.trans.length + 4 := by
  unfold Ut06.ints
  rw [List.length_map]
  unfold entryRow
  rw [List.length_append, List.length_append]
  show 2 + (e.text.length + 1) + (e.trans.length + 1) = _
  omega
theorem told_len (g : St) : (told g).length = 4 := rfl
theorem flat_le {α : Type} (l : List α) (f : α → List Nat) (b : Nat) (h : ∀ x ∈ l, (f x).length ≤ b) : (l.flatMap f).length ≤ b * l.length := by
  induction l with
  | nil => exact Nat.zero_le _
  | cons x r ih =>
    rw [List.flatMap_cons, List.length_append, List.length_cons, Nat.mul_succ]
    have := h x List.mem_cons_self
    have := ih fun y hy => h y (List.mem_cons_of_mem _ hy)
    omega
structure Fine (s : St) (r : St × List Int) : Prop where
  ok : OkS r.1
  short : r.2.length ≤ 1000
  old : r.1.old.length ≤ s.old.length + 1
theorem Fine.stay {s : St} (ok : OkS s) {a : List Int} (h : a.length ≤ 1000) : Fine s (s, a) := ⟨ok, h, Nat.le_succ _⟩
theorem Fine.becomes {s : St} (ok : OkS s) {e : List Entry} {l : List Kept} (h : Ok1 e l) {a : List Int} (ha : a.length ≤ 1000) : Fine s (Ut06.becomes s e l, a) := ⟨okS_becomes ok h, ha, Nat.le_refl _⟩
theorem fine_step {s : St} (ok : OkS s) (c : Call) : Fine s (step s c) := by
  have n1 : ∀ z : Int, ([z] : List Int).length ≤ 1000 := fun z => by show 1 ≤ 1000; decide
  cases c with
  | release n =>
    by_cases r : RelOk n
    · rw [step_release r]
      by_cases c30 : 30 < (Ut06.release s.entries s.kept n).2.length
      · rw [if_pos c30]; exact Fine.stay ok (n1 _)
      · rw [if_neg c30]
        exact Fine.becomes ok (ok.now.release r.few (fun x hx => (r.texts x hx).2.1) r.once (by omega)) (by rw [told_len]; decide)
    · rw [step_release_no r]; exact Fine.stay ok (n1 _)
  | put k t =>
    by_cases g : textGood 1 t
    · rw [step_put g]
      cases h : entryOf s.entries k with
      | none => exact Fine.stay ok (n1 _)
      | some e =>
        obtain ⟨em, ek⟩ := entryOf_mem h
        have e2 : (s.entries.map fun e => if e.key = k then { e with trans := t, sure := true, from_ := 0 } else e) = exch s.entries { e with trans := t, sure := true, from_ := 0 } := map_exch ok.now.keys h (f := fun e => { e with trans := t, sure := true, from_ := 0 }) ek
        show Fine s (Ut06.becomes s _ _, Ut06.told _)
        rw [e2]
        have h1 := ok.now.exch (x := { e with trans := t, sure := true, from_ := 0 }) ⟨(ok.now.words e em).1, g.2.1⟩ (fun _ z => by
          have z : t = [] := z
          have := g.1
          rw [z] at this
          simp at this)
        exact Fine.becomes ok h1 (by rw [told_len]; decide)
    · rw [step_put_no g]; exact Fine.stay ok (n1 _)
  | doubt k =>
    show Fine s (match entryOf s.entries k with | none => (s, [-2]) | some e => _)
    cases h : entryOf s.entries k with
    | none => exact Fine.stay ok (n1 _)
    | some e =>
      obtain ⟨em, ek⟩ := entryOf_mem h
      show Fine s (if e.sure = false then (s, [-6]) else _)
      by_cases c : e.sure = false
      · rw [if_pos c]; exact Fine.stay ok (n1 _)
      · rw [if_neg c]
        have e2 : (s.entries.map fun x => if x.key = k then { x with sure := false, from_ := k } else x) = exch s.entries { e with sure := false, from_ := k } := map_exch ok.now.keys h (f := fun e => { e with sure := false, from_ := k }) ek
        have h1 := ok.now.exch (x := { e with sure := false, from_ := k }) (ok.now.words e em) (fun z => by cases z)
        have h2 : unshown (exch s.entries { e with sure := false, from_ := k }) s.kept = s.kept := by
          refine unshown_all fun x hx => ?_
          cases q : shown (exch s.entries { e with sure := false, from_ := k }) x with
          | false => rfl
          | true =>
            obtain ⟨y, hy, a, b, c⟩ := shown_iff.mp q
            rcases mem_exch hy with rfl | ⟨hy, _⟩
            · cases a
            · exact (ok.now.hidden x hx y hy a b c).elim
        rw [h2] at h1
        show Fine s (Ut06.becomes s _ s.kept, Ut06.told _)
        rw [e2]
        exact Fine.becomes ok h1 (by rw [told_len]; decide)
  | together n =>
    by_cases r : TogOk n
    · by_cases has : ∀ x ∈ n, (entryOf s.entries x.1).isSome = true
      · rw [step_together r has]
        have h := ok.now.together r.once has (fun x hx => (r.texts x hx).2.2.1) n.length (Nat.le_refl _)
        rw [List.take_length] at h
        refine Fine.becomes ok h ?_
        unfold Ut06.ints fates
        rw [List.length_map, List.length_cons, List.length_map]
        have := r.few
        omega
      · obtain ⟨x, hx, no⟩ : ∃ x, x ∈ n ∧ entryOf s.entries x.1 = none := by
          refine Classical.byContradiction fun z => has fun x hx => ?_
          cases q : entryOf s.entries x.1 with
          | none => exact (z ⟨x, hx, q⟩).elim
          | some e => rfl
        rw [step_together_none r hx no]
        exact Fine.stay ok (n1 _)
    · rw [step_together_no r]; exact Fine.stay ok (n1 _)
  | entry k =>
    show Fine s (s, match entryOf s.entries k with | none => [-2] | some e => Ut06.ints (entryRow e))
    cases h : entryOf s.entries k with
    | none => exact Fine.stay ok (n1 _)
    | some e =>
      have := ok.now.words e (entryOf_mem h).1
      refine Fine.stay ok ?_
      show (Ut06.ints (entryRow e)).length ≤ 1000
      rw [entryRow_len]
      omega
  | shows =>
    refine Fine.stay ok ?_
    unfold Ut06.ints
    rw [List.length_map, List.length_cons]
    have := flat_le s.entries (fun e => [e.key, if e.sure = true then 1 else 0, e.trans.length]) 3 (fun _ _ => Nat.le_refl _)
    have := ok.now.few
    omega
  | kept =>
    refine Fine.stay ok ?_
    unfold Ut06.ints
    rw [List.length_map, List.length_cons]
    have := flat_le s.kept (fun x => x.key :: (row x.text ++ row x.trans)) 19 (fun x hx => by
      have := ok.now.kwords x hx
      rw [List.length_cons, List.length_append]
      show (x.text.length + 1) + (x.trans.length + 1) + 1 ≤ 19
      omega)
    have := ok.now.keptFew
    omega
  | would k t =>
    by_cases g : textGood 1 t ∧ k ≤ 99
    · rw [step_would g.1 g.2]
      refine Fine.stay ok ?_
      rw [entryRow_len]
      have r := released_is ok.now (k := k) (t := t) g.1.2.1
      rw [r.2.1]
      have := r.2.2.1
      have := g.1.2.1
      omega
    · rw [step_would_no g]; exact Fine.stay ok (n1 _)
  | undo =>
    show Fine s (match s.old with | [] => (s, [-7]) | x :: l => _)
    cases h : s.old with
    | nil => exact Fine.stay ok (n1 _)
    | cons x l =>
      refine ⟨⟨ok.past x (by rw [h]; exact List.mem_cons_self), fun p hp => ok.past p (by rw [h]; exact List.mem_cons_of_mem _ hp)⟩, by show (told _).length ≤ 1000; rw [told_len]; decide, ?_⟩
      show l.length ≤ s.old.length + 1
      rw [h, List.length_cons]
      omega
  | far a b =>
    by_cases g : textGood 0 a ∧ textGood 0 b
    · rw [step_far g.1 g.2]; exact Fine.stay ok (by show 1 ≤ 1000; decide)
    · rw [step_far_no g]; exact Fine.stay ok (n1 _)
/-! ### a line -/
def runS : St → List Op → St
  | s, [] => s
  | s, x :: r => runS (step s x.2.2).1 r
theorem runS_append : ∀ (a b : List Op) (s : St), runS s (a ++ b) = runS (runS s a) b
  | [], _, _ => rfl
  | x :: r, b, s => runS_append r b _
theorem play_append : ∀ (a b : List Op) (s : St), play s (a ++ b) = play s a ++ play (runS s a) b
  | [], _, _ => rfl
  | x :: r, b, s => by
    show _ ++ play _ (r ++ b) = (_ ++ play _ r) ++ _
    rw [play_append r b, List.append_assoc]
    rfl
theorem run_ok : ∀ (a : List Op) (s : St), OkS s → OkS (runS s a) ∧ (runS s a).old.length ≤ s.old.length + a.length
  | [], s, h => ⟨h, Nat.le_refl _⟩
  | x :: r, s, h => by
    have f := fine_step h x.2.2
    have ih := run_ok r _ f.ok
    refine ⟨ih.1, ?_⟩
    have h1 := ih.2
    have h2 := f.old
    show (runS (step s x.2.2).1 r).old.length ≤ _
    rw [List.length_cons]
    omega
theorem play_len : ∀ (a : List Op) (s : St), OkS s → (play s a).length ≤ 1001 * a.length
  | [], s, _ => Nat.le_refl _
  | x :: r, s, h => by
    have f := fine_step h x.2.2
    have ih := play_len r _ f.ok
    have h1 := f.short
    show (_ ++ play _ r).length ≤ _
    rw [List.length_append, List.length_cons, List.length_cons]
    omega
end Rd
/-! answer_call. -/
namespace Rd
open PySem PySem.Spec PyProof.Rows L2 LamX NdefX
section
variable {mg : Str → Option Value} {P : Program} {base : Heap} {w : World} {K : PySem.W.Frag} {A : Ad} {TT : List (Addr × Str)}
/-- which except clause takes which exception -/
structure Exms (K : PySem.W.Frag) (A : Ad) : Prop where
  ll : PySem.W.exmOne K (.ref A.xL) (.ref A.xL) = some true
  nl : PySem.W.exmOne K (.ref A.xN) (.ref A.xL) = some false
  nn : PySem.W.exmOne K (.ref A.xN) (.ref A.xN) = some true
  ml : PySem.W.exmOne K (.ref A.xM) (.ref A.xL) = some false
  mn : PySem.W.exmOne K (.ref A.xM) (.ref A.xN) = some false
  mm : PySem.W.exmOne K (.ref A.xM) (.ref A.xM) = some true
  sl : PySem.W.exmOne K (.ref A.xS) (.ref A.xL) = some false
  sn : PySem.W.exmOne K (.ref A.xS) (.ref A.xN) = some false
  sm : PySem.W.exmOne K (.ref A.xS) (.ref A.xM) = some false
  ss : PySem.W.exmOne K (.ref A.xS) (.ref A.xS) = some true
  ul : PySem.W.exmOne K (.ref A.xU) (.ref A.xL) = some false
  un : PySem.W.exmOne K (.ref A.xU) (.ref A.xN) = some false
  um : PySem.W.exmOne K (.ref A.xU) (.ref A.xM) = some false
  us : PySem.W.exmOne K (.ref A.xU) (.ref A.xS) = some false
  uu : PySem.W.exmOne K (.ref A.xU) (.ref A.xU) = some true
/-- the tuple of the defs -/
structure Defs (P : Program) (w : World) (K : PySem.W.Frag) (mg : Str → Option Value) (base : Heap) (A : Ad) (TT : List (Addr × Str)) (fs : List Addr) : Prop where
  at_ : ∃ t, mg "CALLS" = some (.ref t) ∧ ∀ H : Hp, SqT K H t (fs.map V.ref)
  many : fs.length = 10
  held : ∀ i f, fs[i]? = some f → HeldX P w K mg base 6 f (spAns A TT i)
theorem told_lt {op : Nat} {ns : List Nat} {c : Ut06.Call} (h : Told op ns c) : op < 10 := by cases h <;> decide
abbrev sCall : Stmt := top 42
def spCall (A : Ad) (TT : List (Addr × Str)) : Sp := fun vs H Q _ => ∃ (S : List Addr) (c pL na : Addr) (st : Ut06.St) (ns : List Nat) (call : Ut06.Call) (op : Nat), vs = [.ref c, .int (op : Nat), .ref na] ∧ Cat A S H c pL st ∧ H na = some (.lst (iv ns)) ∧ ns.length ≤ 20000 ∧ Told op ns call ∧ Tabs TT H ∧
  (∀ p G, Mt [c, pL] H G → Tabs TT G → CatAt A S G c pL (Ut06.step st call).1 → G p = some (.lst ((Ut06.step st call).2.map V.int)) → Q (.ref p) G)
abbrev c3 : List Str := ["catalogue", "call", "numbers"]
theorem scCall : FnScope c3 c3 (defScope sCall) := ⟨rfl, rfl, rfl, by decide +kernel, rfl, by decide +kernel, by decide +kernel⟩
theorem ok_call {f : Addr} {fd : FuncData} {fs : List Addr} (F : Fun K "answer_call" "answer_call" sCall f fd) (T : Txt K mg A) (X : Exms K A) (D : Defs P w K mg base A TT fs) : FnOk P w K mg base CX0 7 f fd c3 (spCall A TT) := by
  obtain ⟨tC_, mC, sqC⟩ := D.at_
  refine F.ok scCall (fun vs H Q E ⟨_, _, _, _, _, _, _, _, e, _⟩ => by rw [e]; rfl) fun cdv B outer s H vs Q E hr ⟨S, c, pL, na, st, ns, call, op, e, cat, hn, small, told, tabs, q⟩ => ?_
  subst e
  obtain ⟨fo, hfo⟩ : ∃ fo, fs[op]? = some fo := ⟨_, List.getElem?_eq_getElem (by rw [D.many]; exact told_lt told)⟩
  refine ⟨_, pss_one (ps_try_many (Wout := fun _ _ _ _ => False) (tb := fun W => tRet (tCallE (fun g => if g = fo then some (spAns A TT op) else none) (WE W) (tOp (rIxT K) (tC (.ref tC_)) (tVar 1)) (tCons (tVar 0) (tCons (tVar 2) tNil)))) rfl rfl L2.takes0
      (fun W pn xe tk _ => pss_one (ps_ret (pe_callE (pe_ix ix_tup (pe_glob (v := .ref tC_) (by rfl) mC rfl) (pv 1) (fun _ _ => rfl)) (fun g sp hg => by
        by_cases c : g = fo
        · rw [if_pos c] at hg
          cases hg
          rw [c]
          exact D.held op fo hfo
        · rw [if_neg c] at hg
          cases hg) hr (fun σ => passAt tk σ) (pa_cons (pv 0) (pa_cons (pv 2) pa_nil)))))
      (.cons ⟨rfl, by decide, .inl T.notLet.at_⟩ (fun _ _ _ _ _ _ _ => pss_one (ps_ret (pe_lst (pa_cons (pe_un un_neg pe_int) pa_nil))))
        (.cons ⟨rfl, by decide, .inl T.noEntry.at_⟩ (fun _ _ _ _ _ _ _ => pss_one (ps_ret (pe_lst (pa_cons (pe_un un_neg pe_int) pa_nil))))
        (.cons ⟨rfl, by decide, .inl T.tooMuch.at_⟩ (fun _ _ _ _ _ _ _ => pss_one (ps_ret (pe_lst (pa_cons (pe_un un_neg pe_int) pa_nil))))
        (.cons ⟨rfl, by decide, .inl T.notSure.at_⟩ (fun _ _ _ _ _ _ _ => pss_one (ps_ret (pe_lst (pa_cons (pe_un un_neg pe_int) pa_nil))))
        (.cons ⟨rfl, by decide, .inl T.nothing.at_⟩ (fun _ _ _ _ _ _ _ => pss_one (ps_ret (pe_lst (pa_cons (pe_un un_neg pe_int) pa_nil))))
        .nil)))))), ?_⟩
  refine ⟨_, rfl, tC_, _, _, .ref fo, rfl, rfl, sqC H, atI_nat (by rw [List.getElem?_map, hfo]; rfl), fo, _, rfl, if_pos rfl, _, rfl, _, rfl, S, c, pL, na, st, ns, call, rfl, cat, hn, small, told, tabs, q, fun Xc n G rf stp m tG => ?_⟩
  -- a refusal
  have fin : ∀ a, G a = none → ∀ z : Int, z = n → Q (.ref a) (upd G a (.lst [.int z])) := fun a na z hz => by
    have mN : Mt [] H (upd G a (.lst [.int z])) := m.trans (Mt.new na)
    refine q a _ mN.two (tabs_new tG na) ?_ ?_
    · rw [stp]
      exact cat.at_.mt mN
    · rw [stp, hz]
      exact upd_same
  cases rf with
  | notLet => exact ⟨true, X.ll, fun _ a0 _ => ⟨_, rfl, (show 1 ≤ sizeLine by decide), fun a na => fin a na _ rfl⟩, fun z => Bool.noConfusion z⟩
  | noEntry => exact ⟨false, X.nl, fun z => Bool.noConfusion z, fun _ => ⟨true, X.nn, fun _ a0 _ => ⟨_, rfl, (show 1 ≤ sizeLine by decide), fun a na => fin a na _ rfl⟩, fun z => Bool.noConfusion z⟩⟩
  | tooMuch => exact ⟨false, X.ml, fun z => Bool.noConfusion z, fun _ => ⟨false, X.mn, fun z => Bool.noConfusion z, fun _ => ⟨true, X.mm, fun _ a0 _ => ⟨_, rfl, (show 1 ≤ sizeLine by decide), fun a na => fin a na _ rfl⟩, fun z => Bool.noConfusion z⟩⟩⟩
  | notSure => exact ⟨false, X.sl, fun z => Bool.noConfusion z, fun _ => ⟨false, X.sn, fun z => Bool.noConfusion z, fun _ => ⟨false, X.sm, fun z => Bool.noConfusion z, fun _ => ⟨true, X.ss, fun _ a0 _ => ⟨_, rfl, (show 1 ≤ sizeLine by decide), fun a na => fin a na _ rfl⟩, fun z => Bool.noConfusion z⟩⟩⟩⟩
  | nothing => exact ⟨false, X.ul, fun z => Bool.noConfusion z, fun _ => ⟨false, X.un, fun z => Bool.noConfusion z, fun _ => ⟨false, X.um, fun z => Bool.noConfusion z, fun _ => ⟨false, X.us, fun z => Bool.noConfusion z, fun _ => ⟨true, X.uu, fun _ a0 _ => ⟨_, rfl, (show 1 ≤ sizeLine by decide), fun a na => fin a na _ rfl⟩, fun z => Bool.noConfusion z⟩⟩⟩⟩⟩
end
end Rd
/-! answers. -/
namespace Rd
open PySem PySem.Spec PyProof.Rows L2 LamX NdefX
section
variable {mg : Str → Option Value} {P : Program} {base : Heap} {w : World} {K : PySem.W.Frag} {A : Ad} {TT : List (Addr × Str)}
theorem Mt.seq {H G : Hp} (m : Mt [] H G) {l : Addr} {xs : List V} (h : SqL K H l xs) : SqL K G l xs := by
  rcases h with (e | ⟨o, e⟩) | e
  · exact .inl (.inl (m.at e fun _ z => by cases z))
  · exact .inl (.inr ⟨o, m.at e fun _ z => by cases z⟩)
  · exact .inr e
theorem Mt.late {H G : Hp} (m : Mt [] H G) {p : Addr} {o : HO} (n : H p = none) : Mt [] H (upd G p o) := fun b x e nb t => (upd_ne (ne_of_none e n)).trans (m b x e nb t)
theorem Mt.lateM {H G G' : Hp} {c p : Addr} (m : Mt [] H G) (nc : H c = none) (np : H p = none) (m2 : Mt [c, p] G G') : Mt [] H G' := fun b x e nb t => m2 b x (m b x e nb t) (fun q => by
  obtain q | q := List.mem_cons.mp q
  · rw [q, nc] at e; cases e
  · rw [List.mem_singleton.mp q, np] at e; cases e) t
theorem Cat.put {S : List Addr} {G : Hp} {c pL p : Addr} {st : Ut06.St} {o : HO} (h : Cat A S G c pL st) (pS : p ∈ S) (pc : p ≠ c) (pp : p ≠ pL) (nt : ∀ ps, o ≠ .tbl ps) : Cat A S (upd G p o) c pL st := by
  obtain ⟨⟨dx, e, k, qs, zs, ys, cp⟩, h1, h2, h3, h4, h5⟩ := h
  exact ⟨⟨dx, e, k, qs, zs, ys, cp.extS (Mt.put (S := S) pS).off ((upd_ne (Ne.symm pc)).trans cp.obj) ((upd_ne (Ne.symm pp)).trans cp.past)⟩, h1, h2, h3.put nt, h4, h5⟩
theorem Cat.mo {S : List Addr} {G G' : Hp} {c pL : Addr} {st : Ut06.St} (h : Cat A S G c pL st) (m : Mo [] G G') : Cat A S G' c pL st := ⟨h.at_.mt m.mt, h.cS, h.pS, h.trk.mt m.mt, h.ok, h.few⟩
theorem flatC_append (a b : List Op) : flatC (a ++ b) = flatC a ++ flatC b := List.flatMap_append
theorem flatC_cons (x : Op) (b : List Op) : flatC (x :: b) = x.1 :: x.2.1.length :: (x.2.1 ++ 0 :: flatC b) := by
  unfold flatC
  rw [List.flatMap_cons]
  show (x.1 :: x.2.1.length :: (x.2.1 ++ [0])) ++ _ = _
  simp
abbrev sMain : Stmt := top 43
def spMain (A : Ad) (TT : List (Addr × Str)) (K : PySem.W.Frag) : Sp := fun vs H Q _ => ∃ (a : Addr) (ops : List Op), vs = [.ref a] ∧ SqL K H a (iv (flatC ops)) ∧ (flatC ops).length ≤ 20000 ∧ ops.length ≤ 30 ∧ (∀ x ∈ ops, Told x.1 x.2.1 x.2.2) ∧ Tabs TT H ∧
  ∀ p G, G p = some (.lst ((play Ut06.init ops).map V.int)) → Q (.ref p) G
abbrev nM : List Str := ["calls", "catalogue", "reader", "answered", "call", "numbers", "answer"]
theorem scMain : FnScope nM ["calls"] (defScope sMain) := ⟨rfl, rfl, rfl, by decide +kernel, rfl, by decide +kernel, by decide +kernel⟩
theorem ok_main {f : Addr} {fd : FuncData} (F : Fun K "answers" "answers" sMain f fd) (T : Txt K mg A) (R : Rds P w K mg base A) (GCC : HeldC P w K mg base 1 A.cC ["self"] (spCInit A)) (GAC : Held P w K mg base CX0 7 "answer_call" c3 (spCall A TT)) (GC : Held P w K mg base CX0 1 "with_count" ["words"] spCount) :
    FnOk P w K mg base CX0 8 f fd ["calls"] (spMain A TT K) := by
  obtain ⟨fI, fdI, mI, bI, GI⟩ := R.init.ok
  obtain ⟨fM, fdM, mM, bM, GM⟩ := R.more.ok
  obtain ⟨fN, fdN, mN, bN, GN⟩ := R.num.ok
  obtain ⟨fV, fdV, mV, bV, GV⟩ := R.sev.ok
  obtain ⟨fK, fdK, mK, bK, GK⟩ := GCC.ok
  obtain ⟨fA, fdA, mA, kA, bA, GA⟩ := GAC.ok
  obtain ⟨fC, fdC, mC, kC, bC, GC⟩ := GC.ok
  refine F.ok scMain (fun vs H Q E ⟨_, _, e, _⟩ => by rw [e]; rfl) fun cdv B outer s H vs Q E hr ⟨a, ops, e, ha, small, few, toldA, tabs, q⟩ => ?_
  subst e
  have hr1 : Room 1 _ := hr.mono (by decide)
  have hr2 : Room 2 _ := hr.mono (by decide)
  refine ⟨_, pss_cons (ps_set (i := 1) scMain.nd rfl (.inl rfl) (pe_make0 mK GK hr2 (by rfl) T.cAt bK .nil pass0))
    (pss_cons (ps_set (i := 2) scMain.nd rfl (.inl rfl) (pe_make mI GI hr2 (by rfl) T.rAt bI .nil pass0 (pa_cons (pv 0) pa_nil)))
    (pss_cons (ps_set (i := 3) scMain.nd rfl (.inl rfl) (pe_lst pa_nil))
    (pss_cons (ps_while PassesOwn.never (pt_val (pe_meth0 (pv 2) T.reader mM GM hr1 bM .nil pass0))
      (pss_cons (ps_set (i := 4) scMain.nd rfl (.inl rfl) (pe_meth0 (pv 2) T.reader mN GN hr1 bN .nil pass0))
      (pss_cons (ps_set (i := 5) scMain.nd rfl (.inl rfl) (pe_meth (pv 2) T.reader mV GV hr1 bV .nil pass0 (pa_cons (pe_meth0 (pv 2) T.reader mN GN hr1 bN .nil pass0) pa_nil)))
      (pss_cons (ps_expr (pe_meth0 (pv 2) T.reader mN GN hr1 bN .nil pass0))
      (pss_cons (ps_set (i := 6) scMain.nd rfl (.inl rfl) (pe_call GA hr (by rfl) mA kA bA .nil pass0 (pa_cons (pv 1) (pa_cons (pv 4) (pa_cons (pv 5) pa_nil)))))
      (pss_one (ps_expr (pe_bm PySem.F.plainAttrs_list PySem.F.slot_list_extend PySem.F.type_list_extend mt_extend (pv 3) (pa_cons (pe_call GC hr1 (by rfl) mC kC bC .nil pass0 (pa_cons (pv 6) pa_nil)) pa_nil)))))))))
    (pss_one (ps_ret (pv 3)))))), ?_⟩
  -- the catalogue
  intro c dc nc ndc nec
  refine ⟨c, dc, rfl, upd_same, fun e k pL H1 m1 hc ne nk np ep kp he hk hp => ⟨rfl, ?_⟩⟩
  have mc : Mo [] H H1 := fun b o q _ => m1 b o ((upd_ne (ne_of_none q nc)).trans ((upd_ne (ne_of_none q ndc)).trans q)) (fun z => by rw [List.mem_singleton.mp z, nc] at q; cases q)
  have fr : ∀ {x : Addr}, upd (upd H dc (.own c)) c (.ins A.cC dc []) x = none → H x = none ∧ x ≠ c := fun {x} z => by
    have xc : x ≠ c := fun y => by rw [y, upd_same] at z; cases z
    rw [upd_ne xc] at z
    have xd : x ≠ dc := fun y => by rw [y, upd_same] at z; cases z
    rw [upd_ne xd] at z
    exact ⟨z, xc⟩
  obtain ⟨ne, ec⟩ := fr ne
  obtain ⟨nk, kc⟩ := fr nk
  obtain ⟨np, pc⟩ := fr np
  -- the reader
  refine ⟨_, rfl, fun r dr nr nd nrd => ⟨r, dr, a, rfl, upd_same, rfl, ?_⟩⟩
  have mr := made_reader (A := A) (na := a) nr nd nrd
  have hr0 : upd (upd (upd H1 dr (.own r)) r (.ins A.cR dr [])) r (rO A dr a 0) r = some (rO A dr a 0) := upd_same
  generalize upd (upd (upd H1 dr (.own r)) r (.ins A.cR dr [])) r (rO A dr a 0) = H2 at mr hr0 ⊢
  refine ⟨(show 0 ≤ sizeLine by decide), fun L nL => ?_⟩
  have rc : r ≠ c := Ne.symm (ne_of_none hc nr)
  have rp : r ≠ pL := Ne.symm (ne_of_none hp nr)
  have rL : r ≠ L := ne_of_none hr0 nL
  have Lc : L ≠ c := Ne.symm (ne_of_none (mr.at hc) nL)
  have Lp : L ≠ pL := Ne.symm (ne_of_none (mr.at hp) nL)
  have m3 : Mo [] H (upd H2 L (.lst [])) := (mc.trans mr).trans (Mo.new nL)
  have nrH : H r = none := mc.free nr
  have nLH : H L = none := (mc.trans mr).free nL
  have at3 : ∀ {b : Addr} {o : HO}, H1 b = some o → upd H2 L (.lst []) b = some o := fun h => (Mo.trans mr (Mo.new nL)).at h
  have out : ∀ {x : Addr} {o : HO}, H1 x = some o → x ≠ c → x ≠ pL → x ∉ [c, pL, r, L] := fun {x o} h xc xp z => by
    obtain z | z := List.mem_cons.mp z
    · exact xc z
    obtain z | z := List.mem_cons.mp z
    · exact xp z
    obtain z | z := List.mem_cons.mp z
    · rw [z, nr] at h; cases h
    · rw [List.mem_singleton.mp z] at h
      rw [mr.at h] at nL
      cases nL
  have cat0 : Cat A [c, pL, r, L] (upd H2 L (.lst [])) c pL Ut06.init := by
    refine ⟨⟨dc, e, k, [], [], [], ⟨at3 hc, at3 hp, ⟨Off.in_ (out he ec ep) (at3 he), Off.in_ (out hk kc kp) (at3 hk), fun z hz => absurd hz List.not_mem_nil, fun z hz => absurd hz List.not_mem_nil, ⟨rfl, rfl⟩⟩, fun z hz => absurd hz List.not_mem_nil, rfl⟩⟩, List.mem_cons_self, List.mem_cons_of_mem _ List.mem_cons_self, fun b hb => ?_, ok_init, Nat.zero_le _⟩
    obtain rfl | hb := List.mem_cons.mp hb
    · exact ⟨_, at3 hc, fun _ z => by cases z⟩
    obtain rfl | hb := List.mem_cons.mp hb
    · exact ⟨_, at3 hp, fun _ z => by cases z⟩
    obtain rfl | hb := List.mem_cons.mp hb
    · exact ⟨_, (upd_ne rL).trans hr0, fun _ z => by cases z⟩
    · rw [List.mem_singleton.mp hb]; exact ⟨_, upd_same, fun _ z => by cases z⟩
  refine ⟨fun m σ G => ∃ (pre post : List Op) (v4 v5 v6 : Option V), σ = [some (.ref a), some (.ref c), some (.ref r), some (.ref L), v4, v5, v6] ∧ ops = pre ++ post ∧ post.length = m ∧ Mt [] H G ∧ RdAt A G r dr a (flatC pre).length ∧ G L = some (.lst ((play Ut06.init pre).map V.int)) ∧ Cat A [c, pL, r, L] G c pL (runS Ut06.init pre) ∧ Tabs TT G,
    ⟨ops.length, [], ops, none, none, none, rfl, rfl, rfl, m3.mt, (upd_ne rL).trans hr0, upd_same, cat0, m3.tabs tabs⟩, ?_⟩
  rintro m σ G ⟨pre, post, v4, v5, v6, rfl, eo, rfl, mG, hGr, hGL, cat, tG⟩
  refine ⟨_, rfl, r, dr, _, rfl, hGr, rF_no a _ (by decide +kernel) (by decide +kernel), r, dr, a, _, flatC ops, rfl, hGr, mG.seq ha, _, rfl, ?_⟩
  cases post with
  | nil =>
    rw [List.append_nil] at eo
    refine ifF (decide_eq_false (by rw [eo]; omega)) ?_
    refine ⟨_, rfl, q L G ?_⟩
    rw [eo]
    exact hGL
  | cons x post =>
    obtain ⟨op, ns, call⟩ := x
    have ef : flatC ops = flatC pre ++ (op :: ns.length :: (ns ++ 0 :: flatC post)) := by rw [eo, flatC_append, flatC_cons]
    have td : Told op ns call := toldA (op, ns, call) (by rw [eo]; simp)
    have dr0 : (flatC ops).drop (flatC pre).length = op :: ns.length :: (ns ++ 0 :: flatC post) := by rw [ef, List.drop_left]
    have ol : pre.length + post.length + 1 = ops.length := by rw [eo, List.length_append, List.length_cons]; omega
    have pl := play_len pre Ut06.init ok_init
    have lt : (flatC pre).length < (flatC ops).length := by
      rw [ef, List.length_append, List.length_cons]
      omega
    refine ifT (decide_eq_true lt) ?_
    generalize hi : (flatC pre).length = i at *
    have at0 := (drop_facts (t := []) (rest := ns.length :: (ns ++ 0 :: flatC post)) dr0).1
    have dr1 := (drop_facts (t := []) (rest := ns.length :: (ns ++ 0 :: flatC post)) dr0).2.2.2
    have dr1 : (flatC ops).drop (i + 1) = ns.length :: (ns ++ 0 :: flatC post) := dr1
    obtain ⟨at1, le1, tk1, dr2⟩ := drop_facts dr1
    have at2 := (drop_facts (t := []) (rest := flatC post) dr2).1
    have lenN : ns.length ≤ 20000 := by omega
    have rS : r ∈ [c, pL, r, L] := by simp
    have LS : L ∈ [c, pL, r, L] := by simp
    refine ⟨_, fun σ' G' w => ⟨post.length, Nat.lt_succ_self _, w⟩, ?_⟩
    -- the call's number
    refine ⟨_, rfl, r, dr, _, rfl, hGr, rF_no a _ (by decide +kernel) (by decide +kernel), r, dr, a, i, flatC ops, op, rfl, hGr, mG.seq ha, at0, ?_⟩
    have mG1 : Mt [] H (upd G r (rO A dr a (i + 1))) := mG.late nrH
    have cat1 := cat.put (o := rO A dr a (i + 1)) rS rc rp (fun _ z => by cases z)
    have tG1 : Tabs TT (upd G r (rO A dr a (i + 1))) := tabs_ins tG hGr
    have hL1 : upd G r (rO A dr a (i + 1)) L = some (.lst ((play Ut06.init pre).map V.int)) := (upd_ne (Ne.symm rL)).trans hGL
    have hr1' : upd G r (rO A dr a (i + 1)) r = some (rO A dr a (i + 1)) := upd_same
    generalize upd G r (rO A dr a (i + 1)) = G1 at mG1 cat1 tG1 hL1 hr1' ⊢
    -- its numbers
    refine ⟨_, rfl, r, dr, _, rfl, hr1', rF_no a _ (by decide +kernel) (by decide +kernel), _, rfl, r, dr, _, rfl, hr1', rF_no a _ (by decide +kernel) (by decide +kernel), r, dr, a, i + 1, flatC ops, ns.length, rfl, hr1', mG1.seq ha, at1, ?_⟩
    have mG2 : Mt [] H (upd G1 r (rO A dr a (i + 1 + 1))) := mG1.late nrH
    have cat2 := cat1.put (o := rO A dr a (i + 1 + 1)) rS rc rp (fun _ z => by cases z)
    have tG2 : Tabs TT (upd G1 r (rO A dr a (i + 1 + 1))) := tabs_ins tG1 hr1'
    have hL2 : upd G1 r (rO A dr a (i + 1 + 1)) L = some (.lst ((play Ut06.init pre).map V.int)) := (upd_ne (Ne.symm rL)).trans hL1
    have hr2' : upd G1 r (rO A dr a (i + 1 + 1)) r = some (rO A dr a (i + 1 + 1)) := upd_same
    generalize upd G1 r (rO A dr a (i + 1 + 1)) = G2 at mG2 cat2 tG2 hL2 hr2' ⊢
    refine ⟨r, dr, a, i + 1 + 1, flatC ops, ns.length, rfl, hr2', mG2.seq ha, le1, fun na nna => ?_⟩
    rw [tk1]
    have m23 : Mo [] G2 (upd G2 na (.lst (iv ns))) := Mo.new nna
    have nar : na ≠ r := Ne.symm (ne_of_none hr2' nna)
    have naL : L ≠ na := ne_of_none hL2 nna
    have cat3 := (cat2.mo m23).put (o := rO A dr a (i + 1 + 1 + ns.length)) rS rc rp (fun _ z => by cases z)
    have mG3 : Mt [] H (upd (upd G2 na (.lst (iv ns))) r (rO A dr a (i + 1 + 1 + ns.length))) := (mG2.trans m23.mt).late nrH
    have tG3 : Tabs TT (upd (upd G2 na (.lst (iv ns))) r (rO A dr a (i + 1 + 1 + ns.length))) := tabs_ins (m23.tabs tG2) (m23.at hr2')
    have hL3 : upd (upd G2 na (.lst (iv ns))) r (rO A dr a (i + 1 + 1 + ns.length)) L = some (.lst ((play Ut06.init pre).map V.int)) := (upd_ne (Ne.symm rL)).trans (m23.at hL2)
    have hr3' : upd (upd G2 na (.lst (iv ns))) r (rO A dr a (i + 1 + 1 + ns.length)) r = some (rO A dr a (i + 1 + 1 + ns.length)) := upd_same
    have hna3 : upd (upd G2 na (.lst (iv ns))) r (rO A dr a (i + 1 + 1 + ns.length)) na = some (.lst (iv ns)) := (upd_ne nar).trans upd_same
    generalize upd (upd G2 na (.lst (iv ns))) r (rO A dr a (i + 1 + 1 + ns.length)) = G3 at cat3 mG3 tG3 hL3 hr3' hna3 ⊢
    -- how many lists: none
    refine ⟨_, rfl, r, dr, _, rfl, hr3', rF_no a _ (by decide +kernel) (by decide +kernel), r, dr, a, _, flatC ops, 0, rfl, hr3', mG3.seq ha, at2, ?_⟩
    have mG4 : Mt [] H (upd G3 r (rO A dr a (i + 1 + 1 + ns.length + 1))) := mG3.late nrH
    have cat4 := cat3.put (o := rO A dr a (i + 1 + 1 + ns.length + 1)) rS rc rp (fun _ z => by cases z)
    have tG4 : Tabs TT (upd G3 r (rO A dr a (i + 1 + 1 + ns.length + 1))) := tabs_ins tG3 hr3'
    have hL4 : upd G3 r (rO A dr a (i + 1 + 1 + ns.length + 1)) L = some (.lst ((play Ut06.init pre).map V.int)) := (upd_ne (Ne.symm rL)).trans hL3
    have hr4' : upd G3 r (rO A dr a (i + 1 + 1 + ns.length + 1)) r = some (rO A dr a (i + 1 + 1 + ns.length + 1)) := upd_same
    have hna4 : upd G3 r (rO A dr a (i + 1 + 1 + ns.length + 1)) na = some (.lst (iv ns)) := (upd_ne nar).trans hna3
    generalize upd G3 r (rO A dr a (i + 1 + 1 + ns.length + 1)) = G4 at mG4 cat4 tG4 hL4 hr4' hna4 ⊢
    -- the answer
    refine ⟨_, rfl, _, rfl, _, rfl, [c, pL, r, L], c, pL, na, runS Ut06.init pre, ns, call, op, rfl, cat4, hna4, lenN, td, tG4, fun p G5 m45 tG5 cat5 hp5 => ?_⟩
    have fine := fine_step cat4.ok call
    have nin : ∀ {b : Addr}, b ≠ c → b ≠ pL → b ∉ [c, pL] := fun h1 h2 z => (List.mem_cons.mp z).elim h1 fun z => h2 (List.mem_singleton.mp z)
    have mG5 : Mt [] H G5 := mG4.lateM nc np m45
    have hr5' := m45 r _ hr4' (nin rc rp) (fun _ z => by cases z)
    have hL5 := m45 L _ hL4 (nin Lc Lp) (fun _ z => by cases z)
    have runE : runS Ut06.init (pre ++ [(op, ns, call)]) = (Ut06.step (runS Ut06.init pre) call).1 := by rw [runS_append]; rfl
    have ro := run_ok (pre ++ [(op, ns, call)]) Ut06.init ok_init
    have cat5' : Cat A [c, pL, r, L] G5 c pL (runS Ut06.init (pre ++ [(op, ns, call)])) := by
      refine ⟨by rw [runE]; exact cat5, cat4.cS, cat4.pS, cat4.trk.off m45 cat5, ro.1, ?_⟩
      have := ro.2
      rw [List.length_append, List.length_singleton] at this
      have e0 : Ut06.init.old.length = 0 := rfl
      omega
    refine ⟨_, rfl, .inl ⟨rfl, _, SqL.of hL5⟩, _, rfl, p, (Ut06.step (runS Ut06.init pre) call).2, rfl, hp5, by have := fine.short; omega, fun p6 G6 m56 n6 hp6 => ?_⟩
    have hL6 := m56.at hL5
    have big := (show (2000000 : Nat) ≤ sizeLine by decide +kernel)
    refine ⟨L, p6, _, _, rfl, rfl, hL6, hp6, ?_, pre ++ [(op, ns, call)], post, _, _, _, rfl, ?_, rfl, (mG5.trans m56.mt).late nLH, ?_, ?_, (cat5'.mo m56).put LS Lc Lp (fun _ z => by cases z), tabs_lst (m56.tabs tG5) hL6⟩
    · rw [List.length_map, List.length_map, List.length_cons]
      have := fine.short
      omega
    · rw [eo, List.append_assoc]
      rfl
    · have e : (flatC (pre ++ [(op, ns, call)])).length = i + 1 + 1 + ns.length + 1 := by
        rw [flatC_append, List.length_append, hi, flatC_cons]
        show i + (op :: ns.length :: (ns ++ 0 :: flatC [])).length = _
        simp only [List.length_cons, List.length_append]
        show i + (ns.length + (0 + 1) + 1 + 1) = _
        omega
      rw [e]
      exact (upd_ne rL).trans (m56.at hr5')
    · refine upd_same.trans (congrArg (fun l => some (HO.lst l)) ?_)
      rw [play_append, ← List.map_append]
      refine congrArg (fun l => (play Ut06.init pre ++ l).map V.int) ?_
      show _ = _ ++ []
      rw [List.append_nil]
end
end Rd
/-! What the top has written: facts by kind. -/
namespace Rd
open PySem PySem.Spec PyProof.Rows L2 LamX NdefX
structure DefK (K : PySem.W.Frag) (x : Str) (st : Stmt) (f : Addr) : Prop where
  at_ : PySem.W.nsIn K mainGlobals x = some (some (.ref f))
  is : ∃ fd, Fun K x x st f fd
structure MetK (K : PySem.W.Frag) (C : Addr) (m q : Str) (st : Stmt) (f : Addr) : Prop where
  meth : Meth K C m f
  is : ∃ fd, Fun K m q st f fd
section
variable {K : PySem.W.Frag}
theorem defk {x : Str} {st : Stmt} {f : Addr} {od an : Option Addr} {sl : Array (Option Value)} {oc kV dc pm cd ct : Value} (a : PySem.W.nsIn K mainGlobals x = some (some (.ref f)))
    (l : K.lookup f = some ⟨oc, od, .func (PySem.W.fnOf x x (defArgs st) (defBody st) (defScope st) .none kV dc pm an cd ct), sl⟩) (c : PySem.W.codeIn K cd x = true) (k : PySem.W.keepIn K (.ref f) = true) : DefK K x st f := ⟨a, _, fun_mk l c k⟩
theorem metk {C : Addr} {m q : Str} {st : Stmt} {f : Addr} {od an : Option Addr} {sl : Array (Option Value)} {oc kV dc pm cd ct : Value} (a : PySem.W.findIn K (.ref C) m = some (some (.ref f))) (i : PySem.W.isFn K (.ref f) = true)
    (l : K.lookup f = some ⟨oc, od, .func (PySem.W.fnOf m q (defArgs st) (defBody st) (defScope st) .none kV dc pm an cd ct), sl⟩) (c : PySem.W.codeIn K cd q = true) (k : PySem.W.keepIn K (.ref f) = true) : MetK K C m q st f := ⟨⟨a, i, k⟩, _, fun_mk l c k⟩
end
structure ClsK (K : PySem.W.Frag) (x : Str) (C : Addr) : Prop where
  at_ : PySem.W.nsIn K mainGlobals x = some (some (.ref C))
  cls : Cls K C
  mks : PySem.W.makesIn K C = true
  kc : PySem.W.keepIn K (.ref C) = true
theorem clsk {K : PySem.W.Frag} {x : Str} {C : Addr} (a : PySem.W.nsIn K mainGlobals x = some (some (.ref C))) (c1 : PySem.W.plainGet K C Str.empty = true) (c2 : PySem.W.hasDictIn K C = true) (c3 : PySem.W.plainOver K C = true) (c4 : PySem.W.findIn K (.ref C) "__setattr__" = some (some (.builtin "object.__setattr__")))
    (m : PySem.W.makesIn K C = true) (k : PySem.W.keepIn K (.ref C) = true) : ClsK K x C := ⟨a, ⟨c1, c2, c3, c4⟩, m, k⟩
structure ExcK (K : PySem.W.Frag) (x : Str) (C : Addr) : Prop where
  at_ : PySem.W.nsIn K mainGlobals x = some (some (.ref C))
  is : PySem.W.excIn K C [.type "Exception", .type "BaseException", .type "object"] "Exception.__new__" = true
  keep : PySem.W.keepIn K (.ref C) = true
  sub : PySem.W.subIn K (.ref C) (.type "BaseException") = some true
  ty : PySem.W.typeIn K (.ref C) = some (.type "type")
  cl : PySem.W.isClsIn K C = true
theorem exm_by {K : PySem.W.Frag} {x y : Str} {C D : Addr} {b : Bool} (c : ExcK K x C) (d : ExcK K y D) (s : PySem.W.subIn K (.ref C) (.ref D) = some b) : PySem.W.exmOne K (.ref C) (.ref D) = some b := by
  have e1 : (PySem.W.subIn K (.ref D) (.type "BaseException") == some true) = true := by rw [d.sub] <;> rfl
  have e2 : ((PySem.W.clsIn K D).isSome && PySem.W.typeIn K (.ref D) == some (.type "type")) = true := by
    have h2 : (PySem.W.clsIn K D).isSome = true := d.cl
    rw [h2, d.ty] <;> rfl
  show (if (PySem.W.subIn K (.ref D) (.type "BaseException") == some true) = true then (if ((PySem.W.clsIn K D).isSome && PySem.W.typeIn K (.ref D) == some (.type "type")) = true then PySem.W.subIn K (.ref C) (.ref D) else none) else none) = some b
  rw [if_pos e1, if_pos e2]
  exact s
end Rd
/-! From what the top has written to the promise of answers. -/
namespace Rd
open PySem PySem.Spec PyProof.Rows L2 LamX NdefX
/-- all that is asked of the top -/
structure TopK (K : PySem.W.Frag) (A : Ad) (fd fm : Nat → Addr) (tC ct Pt : Addr) : Prop where
  d0 : DefK K "with_count" sCount (fd 0)
  d1 : DefK K "apart" sApart (fd 1)
  d2 : DefK K "near_enough" sNear (fd 2)
  d3 : DefK K "is_shown" sShown (fd 3)
  d4 : DefK K "not_shown" sNotShown (fd 4)
  d5 : DefK K "best_known" sBest (fd 5)
  d6 : DefK K "check_keys" sCheck (fd 6)
  d7 : DefK K "read_release" sRel (fd 7)
  d8 : DefK K "read_together" sTog (fd 8)
  d9 : DefK K "became" sBecame (fd 9)
  d10 : DefK K "answer_release" sARel (fd 10)
  d11 : DefK K "answer_put" sAPut (fd 11)
  d12 : DefK K "answer_doubt" sADoubt (fd 12)
  d13 : DefK K "answer_together" sATog (fd 13)
  d14 : DefK K "sure_as_number" sSureN (fd 14)
  d15 : DefK K "tell_entry" sTell (fd 15)
  d16 : DefK K "answer_entry" sAEntry (fd 16)
  d17 : DefK K "answer_shows" sAShows (fd 17)
  d18 : DefK K "answer_kept" sAKept (fd 18)
  d19 : DefK K "answer_would" sAWould (fd 19)
  d20 : DefK K "answer_undo" sAUndo (fd 20)
  d21 : DefK K "answer_far" sAFar (fd 21)
  d22 : DefK K "answer_call" sCall (fd 22)
  d23 : DefK K "answers" sMain (fd 23)
  m0 : MetK K A.cR "__init__" "Reader.__init__" sRInit (fm 0)
  m1 : MetK K A.cR "has_more" "Reader.has_more" sRMore (fm 1)
  m2 : MetK K A.cR "read_number" "Reader.read_number" sRNum (fm 2)
  m3 : MetK K A.cR "read_several" "Reader.read_several" sRSev (fm 3)
  m4 : MetK K A.cR "read_text" "Reader.read_text" sRText (fm 4)
  m5 : MetK K A.cE "__init__" "Entry.__init__" sEInit (fm 5)
  m6 : MetK K A.cC "__init__" "Catalogue.__init__" sCInit (fm 6)
  m7 : MetK K A.cC "remember" "Catalogue.remember" sCRem (fm 7)
  m8 : MetK K A.cC "go_back" "Catalogue.go_back" sCBack (fm 8)
  m9 : MetK K A.cC "known" "Catalogue.known" sCKnown (fm 9)
  m10 : MetK K A.cC "entry_of" "Catalogue.entry_of" sCOf (fm 10)
  m11 : MetK K A.cC "exchange" "Catalogue.exchange" sCExch (fm 11)
  m12 : MetK K A.cC "in_release" "Catalogue.in_release" sCIn (fm 12)
  m13 : MetK K A.cC "stands" "Catalogue.stands" sCStands (fm 13)
  c_cR : ClsK K "Reader" A.cR
  c_cE : ClsK K "Entry" A.cE
  c_cC : ClsK K "Catalogue" A.cC
  n_rNumbers : NoAttr K A.cR "numbers"
  n_rPlace : NoAttr K A.cR "place"
  n_eKey : NoAttr K A.cE "key"
  n_eText : NoAttr K A.cE "text"
  n_eTrans : NoAttr K A.cE "translation"
  n_eSure : NoAttr K A.cE "sure"
  n_eSource : NoAttr K A.cE "source"
  n_cEntries : NoAttr K A.cC "entries"
  n_cKept : NoAttr K A.cC "kept"
  n_cPast : NoAttr K A.cC "past"
  e_xL : ExcK K "NotLet" A.xL
  e_xN : ExcK K "NoEntry" A.xN
  e_xM : ExcK K "TooMuchKept" A.xM
  e_xS : ExcK K "NotSure" A.xS
  e_xU : ExcK K "NothingToUndo" A.xU
  s_xL_xL : PySem.W.subIn K (.ref A.xL) (.ref A.xL) = some true
  s_xN_xL : PySem.W.subIn K (.ref A.xN) (.ref A.xL) = some false
  s_xN_xN : PySem.W.subIn K (.ref A.xN) (.ref A.xN) = some true
  s_xM_xL : PySem.W.subIn K (.ref A.xM) (.ref A.xL) = some false
  s_xM_xN : PySem.W.subIn K (.ref A.xM) (.ref A.xN) = some false
  s_xM_xM : PySem.W.subIn K (.ref A.xM) (.ref A.xM) = some true
  s_xS_xL : PySem.W.subIn K (.ref A.xS) (.ref A.xL) = some false
  s_xS_xN : PySem.W.subIn K (.ref A.xS) (.ref A.xN) = some false
  s_xS_xM : PySem.W.subIn K (.ref A.xS) (.ref A.xM) = some false
  s_xS_xS : PySem.W.subIn K (.ref A.xS) (.ref A.xS) = some true
  s_xU_xL : PySem.W.subIn K (.ref A.xU) (.ref A.xL) = some false
  s_xU_xN : PySem.W.subIn K (.ref A.xU) (.ref A.xN) = some false
  s_xU_xM : PySem.W.subIn K (.ref A.xU) (.ref A.xM) = some false
  s_xU_xS : PySem.W.subIn K (.ref A.xU) (.ref A.xS) = some false
  s_xU_xU : PySem.W.subIn K (.ref A.xU) (.ref A.xU) = some true
  i_mostWords : ∃ t, PySem.W.nsIn K mainGlobals "MOST_WORDS" = some (some (.int 8 t))
  i_highWord : ∃ t, PySem.W.nsIn K mainGlobals "HIGHEST_WORD" = some (some (.int 99 t))
  i_mostKeys : ∃ t, PySem.W.nsIn K mainGlobals "MOST_KEYS" = some (some (.int 12 t))
  i_highKey : ∃ t, PySem.W.nsIn K mainGlobals "HIGHEST_KEY" = some (some (.int 99 t))
  i_mostKept : ∃ t, PySem.W.nsIn K mainGlobals "MOST_KEPT" = some (some (.int 30 t))
  i_same : ∃ t, PySem.W.nsIn K mainGlobals "SAME" = some (some (.int 0 t))
  i_ours : ∃ t, PySem.W.nsIn K mainGlobals "OURS_ALONE" = some (some (.int 1 t))
  i_theirs : ∃ t, PySem.W.nsIn K mainGlobals "THEIRS_ALONE" = some (some (.int 2 t))
  i_both : ∃ t, PySem.W.nsIn K mainGlobals "BOTH" = some (some (.int 3 t))
  b_len : PySem.W.nsIn K mainGlobals "len" = some none
  b_max : PySem.W.nsIn K mainGlobals "max" = some none
  b_min : PySem.W.nsIn K mainGlobals "min" = some none
  b_list : PySem.W.nsIn K mainGlobals "list" = some none
  b_range : PySem.W.nsIn K mainGlobals "range" = some none
  b_enumerate : PySem.W.nsIn K mainGlobals "enumerate" = some none
  b_set : PySem.W.nsIn K mainGlobals "set" = some none
  b_zip : PySem.W.nsIn K mainGlobals "zip" = some none
  calls : PySem.W.nsIn K mainGlobals "CALLS" = some (some (.ref tC))
  tup : ∃ (od : Option Addr) (n : Nat) (sl : Array (Option Value)), K.lookup tC = some ⟨.type "tuple", od, .seq #[.ref (fd 10), .ref (fd 11), .ref (fd 12), .ref (fd 13), .ref (fd 16), .ref (fd 17), .ref (fd 18), .ref (fd 19), .ref (fd 20), .ref (fd 21)] n, sl⟩
  tab : PySem.W.tabIn K "best_known" = some (ct, Pt)
section
variable {K : PySem.W.Frag} {mg : Str → Option Value} {P : Program} {w : World} {base : Heap}
theorem held {CX : CXT} {k : Nat} {x : Str} {st : Stmt} {f : Addr} {ps : List Str} {sp : Sp} {h : Heap} (X : K.In h) (G : h.Ns mainGlobals mg) (D : DefK K x st f) (b : ∀ fd, Fun K x x st f fd → Binds K fd ps []) (ok : ∀ fd, Fun K x x st f fd → FnOk P w K mg base CX k f fd ps sp) : Held P w K mg base CX k x ps sp := by
  obtain ⟨fd, F⟩ := D.is
  exact ⟨f, fd, PySem.W.mg_of X G D.at_, F.kp, b fd F, ok fd F⟩
theorem heldM {CX : CXT} {k : Nat} {C : Addr} {m q : Str} {st : Stmt} {f : Addr} {ps : List Str} {sp : Sp} (D : MetK K C m q st f) (b : ∀ fd, Fun K m q st f fd → Binds K fd ps []) (ok : ∀ fd, Fun K m q st f fd → FnOk P w K mg base CX k f fd ps sp) : HeldM P w K mg base CX k C m ps sp := by
  obtain ⟨fd, F⟩ := D.is
  exact ⟨f, fd, D.meth, b fd F, ok fd F⟩
theorem heldC {k : Nat} {C : Addr} {x q : Str} {st : Stmt} {f : Addr} {ps : List Str} {sp : Sp} (c : ClsK K x C) (D : MetK K C "__init__" q st f) (b : ∀ fd, Fun K "__init__" q st f fd → Binds K fd ps []) (ok : ∀ fd, Fun K "__init__" q st f fd → FnOk P w K mg base CX0 k f fd ps sp) : HeldC P w K mg base k C ps sp := by
  obtain ⟨fd, F⟩ := D.is
  exact ⟨f, fd, ⟨c.mks, D.meth.at_, D.meth.fn, c.kc⟩, b fd F, ok fd F⟩
theorem heldX {k j : Nat} {x : Str} {st : Stmt} {f : Addr} {ps : List Str} {sp : Sp} (D : DefK K x st f) (le : j ≤ k) (b : ∀ fd, Fun K x x st f fd → Binds K fd ps []) (ok : ∀ fd, Fun K x x st f fd → FnOk P w K mg base (L2.CX P w) j f fd ps sp) : HeldX P w K mg base k f sp := by
  obtain ⟨fd, F⟩ := D.is
  exact ⟨fd, ps, (ok fd F).mono le, F.kp, b fd F⟩
theorem ExcK.txt {x : Str} {C : Addr} {h : Heap} (X : K.In h) (G : h.Ns mainGlobals mg) (e : ExcK K x C) : XTxt K mg x C := ⟨PySem.W.mg_of X G e.at_, e.is, e.keep, e.sub, e.ty⟩
theorem int_at {x : Str} {i : Int} {h : Heap} (X : K.In h) (G : h.Ns mainGlobals mg) (e : ∃ t, PySem.W.nsIn K mainGlobals x = some (some (.int i t))) : ∃ t, mg x = some (.int i t) := e.elim fun t e => ⟨t, PySem.W.mg_of X G e⟩
theorem TopK.txt {A : Ad} {fd fm : Nat → Addr} {tC ct Pt : Addr} {h : Heap} (X : K.In h) (G : h.Ns mainGlobals mg) (T : TopK K A fd fm tC ct Pt) : Txt K mg A where
  blt := ⟨PySem.W.mg_none_of X G T.b_len, PySem.W.mg_none_of X G T.b_max, PySem.W.mg_none_of X G T.b_min, PySem.W.mg_none_of X G T.b_list, PySem.W.mg_none_of X G T.b_range, PySem.W.mg_none_of X G T.b_enumerate, PySem.W.mg_none_of X G T.b_set, PySem.W.mg_none_of X G T.b_zip⟩
  reader := T.c_cR.cls
  rAt := PySem.W.mg_of X G T.c_cR.at_
  rNumbers := T.n_rNumbers
  rPlace := T.n_rPlace
  entry := T.c_cE.cls
  eAt := PySem.W.mg_of X G T.c_cE.at_
  eKey := T.n_eKey
  eText := T.n_eText
  eTrans := T.n_eTrans
  eSure := T.n_eSure
  eSource := T.n_eSource
  cat := T.c_cC.cls
  cAt := PySem.W.mg_of X G T.c_cC.at_
  cEntries := T.n_cEntries
  cKept := T.n_cKept
  cPast := T.n_cPast
  notLet := T.e_xL.txt X G
  noEntry := T.e_xN.txt X G
  tooMuch := T.e_xM.txt X G
  notSure := T.e_xS.txt X G
  nothing := T.e_xU.txt X G
  mostWords := int_at X G T.i_mostWords
  highWord := int_at X G T.i_highWord
  mostKeys := int_at X G T.i_mostKeys
  highKey := int_at X G T.i_highKey
  mostKept := int_at X G T.i_mostKept
  same := int_at X G T.i_same
  ours := int_at X G T.i_ours
  theirs := int_at X G T.i_theirs
  both := int_at X G T.i_both
theorem TopK.exms {A : Ad} {fd fm : Nat → Addr} {tC ct Pt : Addr} (T : TopK K A fd fm tC ct Pt) : Exms K A where
  ll := exm_by T.e_xL T.e_xL T.s_xL_xL
  nl := exm_by T.e_xN T.e_xL T.s_xN_xL
  nn := exm_by T.e_xN T.e_xN T.s_xN_xN
  ml := exm_by T.e_xM T.e_xL T.s_xM_xL
  mn := exm_by T.e_xM T.e_xN T.s_xM_xN
  mm := exm_by T.e_xM T.e_xM T.s_xM_xM
  sl := exm_by T.e_xS T.e_xL T.s_xS_xL
  sn := exm_by T.e_xS T.e_xN T.s_xS_xN
  sm := exm_by T.e_xS T.e_xM T.s_xS_xM
  ss := exm_by T.e_xS T.e_xS T.s_xS_xS
  ul := exm_by T.e_xU T.e_xL T.s_xU_xL
  un := exm_by T.e_xU T.e_xN T.s_xU_xN
  um := exm_by T.e_xU T.e_xM T.s_xU_xM
  us := exm_by T.e_xU T.e_xS T.s_xU_xS
  uu := exm_by T.e_xU T.e_xU T.s_xU_xU
/-- the promise of answers, from all that -/
theorem top_ok {A : Ad} {fd fm : Nat → Addr} {tC ct Pt : Addr} {h : Heap} (X : K.In h) (G : h.Ns mainGlobals mg) (T : TopK K A fd fm tC ct Pt) (TB : TabB base mg ct Pt) : ∃ fdd, Fun K "answers" "answers" sMain (fd 23) fdd ∧ FnOk P w K mg base CX0 8 (fd 23) fdd ["calls"] (spMain A [(Pt, qLam)] K) := by
  have t := T.txt X G
  have rInit := heldC (base := base) (P := P) (w := w) T.c_cR T.m0 (fun _ F => F.binds fun _ _ _ _ _ _ us hl => match us, hl with | [_, _], _ => rfl) (fun fd F => ok_rinit F t)
  have rMore := heldM (base := base) (P := P) (w := w) T.m1 (fun _ F => F.binds fun _ _ _ _ _ _ us hl => match us, hl with | [_], _ => rfl) (fun fd F => ok_rmore F t)
  have rNum := heldM (base := base) (P := P) (w := w) T.m2 (fun _ F => F.binds fun _ _ _ _ _ _ us hl => match us, hl with | [_], _ => rfl) (fun fd F => ok_rnum F t)
  have rSev := heldM (base := base) (P := P) (w := w) T.m3 (fun _ F => F.binds fun _ _ _ _ _ _ us hl => match us, hl with | [_, _], _ => rfl) (fun fd F => ok_rsev F t)
  have R : Rds P w K mg base A := ⟨rInit, rMore, rNum, rSev⟩
  have rText := heldM (base := base) (P := P) (w := w) T.m4 (fun _ F => F.binds fun _ _ _ _ _ _ us hl => match us, hl with | [_, _], _ => rfl) (fun fd F => ok_rtext F t R)
  have count := held (base := base) (P := P) (w := w) X G T.d0 (fun _ F => F.binds fun _ _ _ _ _ _ us hl => match us, hl with | [_], _ => rfl) (fun fd F => ok_count F t.blt)
  have apart_ := held (base := base) (P := P) (w := w) X G T.d1 (fun _ F => F.binds fun _ _ _ _ _ _ us hl => match us, hl with | [_, _], _ => rfl) (fun fd F => ok_apart F t.blt)
  have near := held (base := base) (P := P) (w := w) X G T.d2 (fun _ F => F.binds fun _ _ _ _ _ _ us hl => match us, hl with | [_, _], _ => rfl) (fun fd F => ok_near F t.blt apart_)
  have eInit := heldC (base := base) (P := P) (w := w) T.c_cE T.m5 (fun _ F => F.binds fun _ _ _ _ _ _ us hl => match us, hl with | [_, _, _, _, _, _], _ => rfl) (fun fd F => ok_einit F t)
  have cInit := heldC (base := base) (P := P) (w := w) T.c_cC T.m6 (fun _ F => F.binds fun _ _ _ _ _ _ us hl => match us, hl with | [_], _ => rfl) (fun fd F => ok_cinit F t)
  have cRem := heldM (base := base) (P := P) (w := w) T.m7 (fun _ F => F.binds fun _ _ _ _ _ _ us hl => match us, hl with | [_], _ => rfl) (fun fd F => ok_crem F t)
  have cBack := heldM (base := base) (P := P) (w := w) T.m8 (fun _ F => F.binds fun _ _ _ _ _ _ us hl => match us, hl with | [_], _ => rfl) (fun fd F => ok_cback F t)
  have cKnown := heldM (base := base) (P := P) (w := w) T.m9 (fun _ F => F.binds fun _ _ _ _ _ _ us hl => match us, hl with | [_], _ => rfl) (fun fd F => ok_cknown F t)
  have cOf := heldM (base := base) (P := P) (w := w) T.m10 (fun _ F => F.binds fun _ _ _ _ _ _ us hl => match us, hl with | [_, _], _ => rfl) (fun fd F => ok_cof F t)
  have shown_ := held (base := base) (P := P) (w := w) X G T.d3 (fun _ F => F.binds fun _ _ _ _ _ _ us hl => match us, hl with | [_, _], _ => rfl) (fun fd F => ok_shown F t)
  have notShown := held (base := base) (P := P) (w := w) X G T.d4 (fun _ F => F.binds fun _ _ _ _ _ _ us hl => match us, hl with | [_, _], _ => rfl) (fun fd F => ok_notshown F t shown_)
  have cExch := heldM (base := base) (P := P) (w := w) T.m11 (fun _ F => F.binds fun _ _ _ _ _ _ us hl => match us, hl with | [_, _], _ => rfl) (fun fd F => ok_cexch F t notShown)
  have cStands := heldM (base := base) (P := P) (w := w) T.m13 (fun _ F => F.binds fun _ _ _ _ _ _ us hl => match us, hl with | [_], _ => rfl) (fun fd F => ok_cstands F t)
  have best_ : Held P w K mg base CX0 4 "best_known" ["several", "key", "text"] (spBest A [(Pt, qLam)]) := held X G T.d5 (fun _ F => F.binds fun _ _ _ _ _ _ us hl => match us, hl with | [_, _, _], _ => rfl) (fun fd2 F => by
    refine ok_best F t ?_ TB apart_ near
    obtain ⟨oc, od, kV, doc, pm, an, cdv, c2, osl, e, lk, hcd⟩ := F.ex
    exact PySem.W.law_code X G T.tab (PySem.W.mg_of X G T.d5.at_) (X _ _ lk) rfl)
  have cIn := heldM (base := base) (P := P) (w := w) T.m12 (fun _ F => F.binds fun _ _ _ _ _ _ us hl => match us, hl with | [_, _, _], _ => rfl) (fun fd F => ok_in F t best_ cKnown eInit)
  have check := held (base := base) (P := P) (w := w) X G T.d6 (fun _ F => F.binds fun _ _ _ _ _ _ us hl => match us, hl with | [_], _ => rfl) (fun fd F => ok_check F t)
  have rel := held (base := base) (P := P) (w := w) X G T.d7 (fun _ F => F.binds fun _ _ _ _ _ _ us hl => match us, hl with | [_], _ => rfl) (fun fd F => ok_rel F t R rText check)
  have tog := held (base := base) (P := P) (w := w) X G T.d8 (fun _ F => F.binds fun _ _ _ _ _ _ us hl => match us, hl with | [_], _ => rfl) (fun fd F => ok_tog F t R rText check)
  have became_ := held (base := base) (P := P) (w := w) X G T.d9 (fun _ F => F.binds fun _ _ _ _ _ _ us hl => match us, hl with | [_, _, _], _ => rfl) (fun fd F => ok_became F t)
  have sureN_ := held (base := base) (P := P) (w := w) X G T.d14 (fun _ F => F.binds fun _ _ _ _ _ _ us hl => match us, hl with | [_], _ => rfl) (fun fd F => ok_sureN F t)
  have tell := held (base := base) (P := P) (w := w) X G T.d15 (fun _ F => F.binds fun _ _ _ _ _ _ us hl => match us, hl with | [_], _ => rfl) (fun fd F => ok_tell F t sureN_ count)
  have C : Cats P w K mg base A := ⟨eInit, cRem, cKnown, cOf, cExch, cStands⟩
  have a0 : HeldX P w K mg base 6 (fd 10) (spAns A [(Pt, qLam)] 0) := heldX (ps := c2) T.d10 (by decide) (fun _ F => F.binds fun _ _ _ _ _ _ us hl => match us, hl with | [_, _], _ => rfl) (fun fd F => ok_arel F t C rel cIn notShown)
  have a1 : HeldX P w K mg base 6 (fd 11) (spAns A [(Pt, qLam)] 1) := heldX (ps := c2) T.d11 (by decide) (fun _ F => F.binds fun _ _ _ _ _ _ us hl => match us, hl with | [_, _], _ => rfl) (fun fd F => ok_aput F t R rText C)
  have a2 : HeldX P w K mg base 6 (fd 12) (spAns A [(Pt, qLam)] 2) := heldX (ps := c2) T.d12 (by decide) (fun _ F => F.binds fun _ _ _ _ _ _ us hl => match us, hl with | [_, _], _ => rfl) (fun fd F => ok_adoubt F t C)
  have a3 : HeldX P w K mg base 6 (fd 13) (spAns A [(Pt, qLam)] 3) := heldX (ps := c2) T.d13 (by decide) (fun _ F => F.binds fun _ _ _ _ _ _ us hl => match us, hl with | [_, _], _ => rfl) (fun fd F => ok_atog F t C tog became_)
  have a4 : HeldX P w K mg base 6 (fd 16) (spAns A [(Pt, qLam)] 4) := heldX (ps := c2) T.d16 (by decide) (fun _ F => F.binds fun _ _ _ _ _ _ us hl => match us, hl with | [_, _], _ => rfl) (fun fd F => ok_aentry F t cOf tell)
  have a5 : HeldX P w K mg base 6 (fd 17) (spAns A [(Pt, qLam)] 5) := heldX (ps := c2) T.d17 (by decide) (fun _ F => F.binds fun _ _ _ _ _ _ us hl => match us, hl with | [_, _], _ => rfl) (fun fd F => ok_ashows F t sureN_)
  have a6 : HeldX P w K mg base 6 (fd 18) (spAns A [(Pt, qLam)] 6) := heldX (ps := c2) T.d18 (by decide) (fun _ F => F.binds fun _ _ _ _ _ _ us hl => match us, hl with | [_, _], _ => rfl) (fun fd F => ok_akept F t count)
  have a7 : HeldX P w K mg base 6 (fd 19) (spAns A [(Pt, qLam)] 7) := heldX (ps := c2) T.d19 (by decide) (fun _ F => F.binds fun _ _ _ _ _ _ us hl => match us, hl with | [_, _], _ => rfl) (fun fd F => ok_awould F t rel cIn tell)
  have a8 : HeldX P w K mg base 6 (fd 20) (spAns A [(Pt, qLam)] 8) := heldX (ps := c2) T.d20 (by decide) (fun _ F => F.binds fun _ _ _ _ _ _ us hl => match us, hl with | [_, _], _ => rfl) (fun fd F => ok_aundo F t cBack cStands)
  have a9 : HeldX P w K mg base 6 (fd 21) (spAns A [(Pt, qLam)] 9) := heldX (ps := c2) T.d21 (by decide) (fun _ F => F.binds fun _ _ _ _ _ _ us hl => match us, hl with | [_, _], _ => rfl) (fun fd F => ok_afar F t R rText apart_)
  have DD : Defs P w K mg base A [(Pt, qLam)] [fd 10, fd 11, fd 12, fd 13, fd 16, fd 17, fd 18, fd 19, fd 20, fd 21] := by
    refine ⟨⟨tC, PySem.W.mg_of X G T.calls, fun H => ?_⟩, rfl, fun i f hf => ?_⟩
    · obtain ⟨od, n, sl, lk⟩ := T.tup
      exact .inr ⟨_, _, _, lk, rfl, rfl, (by show 10 ≤ sizeLine; decide), .cons rfl (.cons rfl (.cons rfl (.cons rfl (.cons rfl (.cons rfl (.cons rfl (.cons rfl (.cons rfl (.cons rfl .nil)))))))))⟩
    · match i, hf with
      | 0, hf => cases hf; exact a0
      | 1, hf => cases hf; exact a1
      | 2, hf => cases hf; exact a2
      | 3, hf => cases hf; exact a3
      | 4, hf => cases hf; exact a4
      | 5, hf => cases hf; exact a5
      | 6, hf => cases hf; exact a6
      | 7, hf => cases hf; exact a7
      | 8, hf => cases hf; exact a8
      | 9, hf => cases hf; exact a9
      | n + 10, hf => exact absurd hf (by simp)
  have call := held (base := base) (P := P) (w := w) X G T.d22 (fun _ F => F.binds fun _ _ _ _ _ _ us hl => match us, hl with | [_, _, _], _ => rfl) (fun fd F => ok_call F t T.exms DD)
  obtain ⟨fdd, F⟩ := T.d23.is
  exact ⟨fdd, F, ok_main F t R cInit call count⟩
end
end Rd
/-! The promise of answers as the row asks for it. -/
namespace Rd
open PySem PySem.Spec PyProof.Rows L2 LamX NdefX
open PySem.W (WData Codec OpenSpec)
abbrev ad0 : Ad := ⟨0, 0, 0, 0, 0, 0, 0, 0⟩
def spTop (K : PySem.W.Frag) (cs : List (Addr × Addr)) : Sp := spMain ad0 (cs.map fun p => (p.2, qLam)) K
theorem top_F {P : Program} {w : World} {K : PySem.W.Frag} {mg : Str → Option Value} {h : Heap} {A : Ad} {fd fm : Nat → Addr} {tC ct Pt fa : Addr} (X : K.In h) (G : h.Ns mainGlobals mg) (hfa : mg "answers" = some (.ref fa)) (T : TopK K A fd fm tC ct Pt) :
    ∃ fdd : FuncData, (∀ (z : Shared) (u : Value), BindsTo z fdd ⟨[u], []⟩ [("calls", u)]) ∧ ∀ base : Heap, K.In base → base.Ns mainGlobals mg → (∀ p ∈ (["best_known"] : List Str).filterMap (PySem.W.tabIn K), TabB base mg p.1 p.2) →
      FnOk P w K mg base CX0 8 fa fdd ["calls"] (spTop K ((["best_known"] : List Str).filterMap (PySem.W.tabIn K))) := by
  have e : fa = fd 23 := by
    have := hfa.symm.trans (PySem.W.mg_of X G T.d23.at_)
    cases this
    rfl
  subst e
  have et : (["best_known"] : List Str).filterMap (PySem.W.tabIn K) = [(ct, Pt)] := by
    rw [List.filterMap_cons, T.tab]
    rfl
  obtain ⟨fd0, F0⟩ := T.d23.is
  refine ⟨fd0, fun z u => ?_, fun base _ _ TB => ?_⟩
  · obtain ⟨oc, od, kV, doc, pm, an, cdv, c2, osl, rfl, lk, hcd⟩ := F0.ex
    exact .of_eq rfl
  · rw [et] at TB ⊢
    obtain ⟨fdd, F, ok⟩ := top_ok (P := P) (w := w) (base := base) X G T (TB (ct, Pt) (List.mem_singleton.mpr rfl))
    have same : fdd = fd0 := by
      obtain ⟨_, _, _, _, _, _, _, _, _, e1, l1, _⟩ := F.ex
      obtain ⟨_, _, _, _, _, _, _, _, _, e2, l2, _⟩ := F0.ex
      rw [l1] at l2
      have := Option.some.inj l2
      injection this with _ _ h3 _
      injection h3
    rw [same] at ok
    exact ok
/-- the request, and what is to come back -/
theorem top_want {K : PySem.W.Frag} {cs : List (Addr × Addr)} {H : Hp} {a : Addr} {ns : List Int} {d0 : WData} (asked : PyUt06.answers_asked ns = true) (small : ns.length ≤ 13000) (d0is : d0 = .list ((PyUt06.answers ns).map WData.int)) (tabs : ∀ p ∈ cs, H p.2 = some (.tbl #[])) (sq : SqL K H a (ns.map V.int)) :
    spTop K cs [.ref a] H (fun v H' => Dw K H' v d0) fun _ _ _ => False := by
  obtain ⟨ops, e1, e2, e3, e4⟩ := asked_is asked
  have len : (flatC ops).length ≤ 20000 := by
    have := congrArg List.length e1
    unfold cast at this
    rw [List.length_map] at this
    omega
  refine ⟨a, ops, rfl, ?_, len, e2, e3, fun p hp => ?_, fun p G hp => ?_⟩
  · rw [iv_ints]
    have : (flatC ops).map (fun n : Nat => (n : Int)) = ns := e1.symm
    rw [this]
    exact sq
  · obtain ⟨x, hx, rfl⟩ := List.mem_map.mp hp
    exact TabS.nil (tabs x hx)
  · rw [d0is, e4]
    exact .lst (SqL.of hp) (dw_ints _)
end Rd
/-! All that is asked of the top, its addresses letters. -/
namespace Rd
open PySem PySem.Spec PyProof.Rows L2 LamX NdefX
theorem tab_by {K : PySem.W.Frag} {x : Str} {f c P : Addr} {oc oc2 : Value} {od od2 : Option Addr} {fd : FuncData} {vs : Array Value} {sl sl2 : Array (Option Value)} (a : PySem.W.nsIn K mainGlobals x = some (some (.ref f))) (l : K.lookup f = some ⟨oc, od, .func fd, sl⟩) (e : fd.code = .ref c)
    (l2 : K.lookup c = some ⟨oc2, od2, .fields vs, sl2⟩) (v : (vs[11]? : Option Value) = some (.ref P)) : PySem.W.tabIn K x = some (c, P) := by
  unfold PySem.W.tabIn
  rw [a]
  show (match K.lookup f with | some ⟨_, _, .func fd, _⟩ => _ | _ => none) = _
  rw [l]
  show (match fd.code with | .ref c => _ | _ => none) = _
  rw [e]
  show (match K.lookup c with | some ⟨_, _, .fields vs, _⟩ => _ | _ => none) = _
  rw [l2]
  show (match (vs[11]? : Option Value) with | some (.ref P) => some (c, P) | _ => none) = _
  rw [v]
theorem top_mk {K : PySem.W.Frag} {a0 a1 a2 a3 a4 a5 a6 a7 a8 a9 a10 a11 a12 a13 a14 a15 a16 a17 a18 a19 a20 a21 a22 a23 b0 b1 b2 b3 b4 b5 b6 b7 b8 b9 b10 b11 b12 b13 cR cE cC xL xN xM xS xU tC ct Pt : Addr} {t0 t1 t2 t3 t4 t5 t6 t7 t8 : Tok} {odT : Option Addr} {nT : Nat} {slT : Array (Option Value)}
    (d0 : DefK K "with_count" sCount a0)
    (d1 : DefK K "apart" sApart a1)
    (d2 : DefK K "near_enough" sNear a2)
    (d3 : DefK K "is_shown" sShown a3)
    (d4 : DefK K "not_shown" sNotShown a4)
    (d5 : DefK K "best_known" sBest a5)
    (d6 : DefK K "check_keys" sCheck a6)
    (d7 : DefK K "read_release" sRel a7)
    (d8 : DefK K "read_together" sTog a8)
    (d9 : DefK K "became" sBecame a9)
    (d10 : DefK K "answer_release" sARel a10)
    (d11 : DefK K "answer_put" sAPut a11)
    (d12 : DefK K "answer_doubt" sADoubt a12)
    (d13 : DefK K "answer_together" sATog a13)
    (d14 : DefK K "sure_as_number" sSureN a14)
    (d15 : DefK K "tell_entry" sTell a15)
    (d16 : DefK K "answer_entry" sAEntry a16)
    (d17 : DefK K "answer_shows" sAShows a17)
    (d18 : DefK K "answer_kept" sAKept a18)
    (d19 : DefK K "answer_would" sAWould a19)
    (d20 : DefK K "answer_undo" sAUndo a20)
    (d21 : DefK K "answer_far" sAFar a21)
    (d22 : DefK K "answer_call" sCall a22)
    (d23 : DefK K "answers" sMain a23)
    (m0 : MetK K cR "__init__" "Reader.__init__" sRInit b0)
    (m1 : MetK K cR "has_more" "Reader.has_more" sRMore b1)
    (m2 : MetK K cR "read_number" "Reader.read_number" sRNum b2)
    (m3 : MetK K cR "read_several" "Reader.read_several" sRSev b3)
    (m4 : MetK K cR "read_text" "Reader.read_text" sRText b4)
    (m5 : MetK K cE "__init__" "Entry.__init__" sEInit b5)
    (m6 : MetK K cC "__init__" "Catalogue.__init__" sCInit b6)
    (m7 : MetK K cC "remember" "Catalogue.remember" sCRem b7)
    (m8 : MetK K cC "go_back" "Catalogue.go_back" sCBack b8)
    (m9 : MetK K cC "known" "Catalogue.known" sCKnown b9)
    (m10 : MetK K cC "entry_of" "Catalogue.entry_of" sCOf b10)
    (m11 : MetK K cC "exchange" "Catalogue.exchange" sCExch b11)
    (m12 : MetK K cC "in_release" "Catalogue.in_release" sCIn b12)
    (m13 : MetK K cC "stands" "Catalogue.stands" sCStands b13)
    (c_cR : ClsK K "Reader" cR)
    (c_cE : ClsK K "Entry" cE)
    (c_cC : ClsK K "Catalogue" cC)
    (n_rNumbers : PySem.W.findIn K (.ref cR) "numbers" = some none)
    (n_rPlace : PySem.W.findIn K (.ref cR) "place" = some none)
    (n_eKey : PySem.W.findIn K (.ref cE) "key" = some none)
    (n_eText : PySem.W.findIn K (.ref cE) "text" = some none)
    (n_eTrans : PySem.W.findIn K (.ref cE) "translation" = some none)
    (n_eSure : PySem.W.findIn K (.ref cE) "sure" = some none)
    (n_eSource : PySem.W.findIn K (.ref cE) "source" = some none)
    (n_cEntries : PySem.W.findIn K (.ref cC) "entries" = some none)
    (n_cKept : PySem.W.findIn K (.ref cC) "kept" = some none)
    (n_cPast : PySem.W.findIn K (.ref cC) "past" = some none)
    (e_xL : ExcK K "NotLet" xL)
    (e_xN : ExcK K "NoEntry" xN)
    (e_xM : ExcK K "TooMuchKept" xM)
    (e_xS : ExcK K "NotSure" xS)
    (e_xU : ExcK K "NothingToUndo" xU)
    (s_xL_xL : PySem.W.subIn K (.ref xL) (.ref xL) = some true)
    (s_xN_xL : PySem.W.subIn K (.ref xN) (.ref xL) = some false)
    (s_xN_xN : PySem.W.subIn K (.ref xN) (.ref xN) = some true)
    (s_xM_xL : PySem.W.subIn K (.ref xM) (.ref xL) = some false)
    (s_xM_xN : PySem.W.subIn K (.ref xM) (.ref xN) = some false)
    (s_xM_xM : PySem.W.subIn K (.ref xM) (.ref xM) = some true)
    (s_xS_xL : PySem.W.subIn K (.ref xS) (.ref xL) = some false)
    (s_xS_xN : PySem.W.subIn K (.ref xS) (.ref xN) = some false)
    (s_xS_xM : PySem.W.subIn K (.ref xS) (.ref xM) = some false)
    (s_xS_xS : PySem.W.subIn K (.ref xS) (.ref xS) = some true)
    (s_xU_xL : PySem.W.subIn K (.ref xU) (.ref xL) = some false)
    (s_xU_xN : PySem.W.subIn K (.ref xU) (.ref xN) = some false)
    (s_xU_xM : PySem.W.subIn K (.ref xU) (.ref xM) = some false)
    (s_xU_xS : PySem.W.subIn K (.ref xU) (.ref xS) = some false)
    (s_xU_xU : PySem.W.subIn K (.ref xU) (.ref xU) = some true)
    (i_mostWords : PySem.W.nsIn K mainGlobals "MOST_WORDS" = some (some (.int 8 t0)))
    (i_highWord : PySem.W.nsIn K mainGlobals "HIGHEST_WORD" = some (some (.int 99 t1)))
    (i_mostKeys : PySem.W.nsIn K mainGlobals "MOST_KEYS" = some (some (.int 12 t2)))
    (i_highKey : PySem.W.nsIn K mainGlobals "HIGHEST_KEY" = some (some (.int 99 t3)))
    (i_mostKept : PySem.W.nsIn K mainGlobals "MOST_KEPT" = some (some (.int 30 t4)))
    (i_same : PySem.W.nsIn K mainGlobals "SAME" = some (some (.int 0 t5)))
    (i_ours : PySem.W.nsIn K mainGlobals "OURS_ALONE" = some (some (.int 1 t6)))
    (i_theirs : PySem.W.nsIn K mainGlobals "THEIRS_ALONE" = some (some (.int 2 t7)))
    (i_both : PySem.W.nsIn K mainGlobals "BOTH" = some (some (.int 3 t8)))
    (b_len : PySem.W.nsIn K mainGlobals "len" = some none)
    (b_max : PySem.W.nsIn K mainGlobals "max" = some none)
    (b_min : PySem.W.nsIn K mainGlobals "min" = some none)
    (b_list : PySem.W.nsIn K mainGlobals "list" = some none)
    (b_range : PySem.W.nsIn K mainGlobals "range" = some none)
    (b_enumerate : PySem.W.nsIn K mainGlobals "enumerate" = some none)
    (b_set : PySem.W.nsIn K mainGlobals "set" = some none)
    (b_zip : PySem.W.nsIn K mainGlobals "zip" = some none)
    (calls : PySem.W.nsIn K mainGlobals "CALLS" = some (some (.ref tC)))
    (tup : K.lookup tC = some ⟨.type "tuple", odT, .seq #[.ref a10, .ref a11, .ref a12, .ref a13, .ref a16, .ref a17, .ref a18, .ref a19, .ref a20, .ref a21] nT, slT⟩)
    (tab : PySem.W.tabIn K "best_known" = some (ct, Pt))
    : TopK K ⟨cR, cE, cC, xL, xN, xM, xS, xU⟩ (fun i => [a0, a1, a2, a3, a4, a5, a6, a7, a8, a9, a10, a11, a12, a13, a14, a15, a16, a17, a18, a19, a20, a21, a22, a23].getD i 0) (fun i => [b0, b1, b2, b3, b4, b5, b6, b7, b8, b9, b10, b11, b12, b13].getD i 0) tC ct Pt :=
  ⟨d0, d1, d2, d3, d4, d5, d6, d7, d8, d9, d10, d11, d12, d13, d14, d15, d16, d17, d18, d19, d20, d21, d22, d23, m0, m1, m2, m3, m4, m5, m6, m7, m8, m9, m10, m11, m12, m13, c_cR, c_cE, c_cC, n_rNumbers, n_rPlace, n_eKey, n_eText, n_eTrans, n_eSure, n_eSource, n_cEntries, n_cKept, n_cPast, e_xL, e_xN, e_xM, e_xS, e_xU, s_xL_xL, s_xN_xL, s_xN_xN, s_xM_xL, s_xM_xN, s_xM_xM, s_xS_xL, s_xS_xN, s_xS_xM, s_xS_xS, s_xU_xL, s_xU_xN, s_xU_xM, s_xU_xS, s_xU_xU, ⟨_, i_mostWords⟩, ⟨_, i_highWord⟩, ⟨_, i_mostKeys⟩, ⟨_, i_highKey⟩, ⟨_, i_mostKept⟩, ⟨_, i_same⟩, ⟨_, i_ours⟩, ⟨_, i_theirs⟩, ⟨_, i_both⟩, b_len, b_max, b_min, b_list, b_range, b_enumerate, b_set, b_zip, calls, ⟨_, _, _, tup⟩, tab⟩
end Rd
open PySem PySem.W PyProof.Rows
set_option maxRecDepth 100000 in
set_option maxHeartbeats 8000000 in
theorem PySem.Challenge.cw_releasesdesk_s01_answers_holds : PySem.Challenge.rw_releasesdesk_s01_answers.Holds := by
  w_on; k_headS; (case hw => exact ⟨[.list [.int 5, .int 0, .int 0]], by decide +kernel, by decide +kernel⟩)
  k_fillS
  refine Rd.walk_spec1 (r := PySem.Challenge.rw_releasesdesk_s01_answers) (k := 8) (x := "calls") (lo := 0) (hi := 4294967295) (l1 := 0) (l2 := 13000) (tabs := ["best_known"]) (sp := Rd.spTop) (by decide +kernel) ⟨rfl, by decide, by decide⟩ rfl (fun w h Y => PySem.W.kIn_of Y) ?nt ?recs ?F ?W
  case nt =>
    intro p
    first | rfl | kernel_rfl
  case recs =>
    intro y hy
    rw [List.mem_singleton.mp hy]
    exact ⟨_, rfl⟩
  case F =>
    intro w mg fa h Y KX G hmg
    refine' Rd.top_F KX G hmg (Rd.top_mk ?d0 ?d1 ?d2 ?d3 ?d4 ?d5 ?d6 ?d7 ?d8 ?d9 ?d10 ?d11 ?d12 ?d13 ?d14 ?d15 ?d16 ?d17 ?d18 ?d19 ?d20 ?d21 ?d22 ?d23 ?m0 ?m1 ?m2 ?m3 ?m4 ?m5 ?m6 ?m7 ?m8 ?m9 ?m10 ?m11 ?m12 ?m13 ?c_cR ?c_cE ?c_cC ?n_rNumbers ?n_rPlace ?n_eKey ?n_eText ?n_eTrans ?n_eSure ?n_eSource ?n_cEntries ?n_cKept ?n_cPast ?e_xL ?e_xN ?e_xM ?e_xS ?e_xU ?s_xL_xL ?s_xN_xL ?s_xN_xN ?s_xM_xL ?s_xM_xN ?s_xM_xM ?s_xS_xL ?s_xS_xN ?s_xS_xM ?s_xS_xS ?s_xU_xL ?s_xU_xN ?s_xU_xM ?s_xU_xS ?s_xU_xU ?i_mostWords ?i_highWord ?i_mostKeys ?i_highKey ?i_mostKept ?i_same ?i_ours ?i_theirs ?i_both ?b_len ?b_max ?b_min ?b_list ?b_range ?b_enumerate ?b_set ?b_zip ?calls ?tup ?tab)
    (case c_cR => refine' Rd.clsk ?a ?pg ?hd ?po ?sa ?mk ?kc; (case a => k_is); (case pg => k_is); (case hd => k_is); (case po => k_is); (case sa => k_is); (case mk => k_is); (case kc => k_is))
    (case c_cE => refine' Rd.clsk ?a ?pg ?hd ?po ?sa ?mk ?kc; (case a => k_is); (case pg => k_is); (case hd => k_is); (case po => k_is); (case sa => k_is); (case mk => k_is); (case kc => k_is))
    (case c_cC => refine' Rd.clsk ?a ?pg ?hd ?po ?sa ?mk ?kc; (case a => k_is); (case pg => k_is); (case hd => k_is); (case po => k_is); (case sa => k_is); (case mk => k_is); (case kc => k_is))
    (case e_xL => refine' Rd.ExcK.mk ?a ?is ?k ?s ?t ?c; (case a => k_is); (case is => k_exc); (case k => k_is); (case s => k_is); (case t => k_is); (case c => k_is))
    (case e_xN => refine' Rd.ExcK.mk ?a ?is ?k ?s ?t ?c; (case a => k_is); (case is => k_exc); (case k => k_is); (case s => k_is); (case t => k_is); (case c => k_is))
    (case e_xM => refine' Rd.ExcK.mk ?a ?is ?k ?s ?t ?c; (case a => k_is); (case is => k_exc); (case k => k_is); (case s => k_is); (case t => k_is); (case c => k_is))
    (case e_xS => refine' Rd.ExcK.mk ?a ?is ?k ?s ?t ?c; (case a => k_is); (case is => k_exc); (case k => k_is); (case s => k_is); (case t => k_is); (case c => k_is))
    (case e_xU => refine' Rd.ExcK.mk ?a ?is ?k ?s ?t ?c; (case a => k_is); (case is => k_exc); (case k => k_is); (case s => k_is); (case t => k_is); (case c => k_is))
    (case d0 => refine' Rd.defk ?a ?l ?c ?k; (case a => k_is); (case l => k_is); (case c => k_is); (case k => k_is))
    (case d1 => refine' Rd.defk ?a ?l ?c ?k; (case a => k_is); (case l => k_is); (case c => k_is); (case k => k_is))
    (case d2 => refine' Rd.defk ?a ?l ?c ?k; (case a => k_is); (case l => k_is); (case c => k_is); (case k => k_is))
    (case d3 => refine' Rd.defk ?a ?l ?c ?k; (case a => k_is); (case l => k_is); (case c => k_is); (case k => k_is))
    (case d4 => refine' Rd.defk ?a ?l ?c ?k; (case a => k_is); (case l => k_is); (case c => k_is); (case k => k_is))
    (case d5 => refine' Rd.defk ?a ?l ?c ?k; (case a => k_is); (case l => k_is); (case c => k_is); (case k => k_is))
    (case d6 => refine' Rd.defk ?a ?l ?c ?k; (case a => k_is); (case l => k_is); (case c => k_is); (case k => k_is))
    (case d7 => refine' Rd.defk ?a ?l ?c ?k; (case a => k_is); (case l => k_is); (case c => k_is); (case k => k_is))
    (case d8 => refine' Rd.defk ?a ?l ?c ?k; (case a => k_is); (case l => k_is); (case c => k_is); (case k => k_is))
    (case d9 => refine' Rd.defk ?a ?l ?c ?k; (case a => k_is); (case l => k_is); (case c => k_is); (case k => k_is))
    (case d10 => refine' Rd.defk ?a ?l ?c ?k; (case a => k_is); (case l => k_is); (case c => k_is); (case k => k_is))
    (case d11 => refine' Rd.defk ?a ?l ?c ?k; (case a => k_is); (case l => k_is); (case c => k_is); (case k => k_is))
    (case d12 => refine' Rd.defk ?a ?l ?c ?k; (case a => k_is); (case l => k_is); (case c => k_is); (case k => k_is))
    (case d13 => refine' Rd.defk ?a ?l ?c ?k; (case a => k_is); (case l => k_is); (case c => k_is); (case k => k_is))
    (case d14 => refine' Rd.defk ?a ?l ?c ?k; (case a => k_is); (case l => k_is); (case c => k_is); (case k => k_is))
    (case d15 => refine' Rd.defk ?a ?l ?c ?k; (case a => k_is); (case l => k_is); (case c => k_is); (case k => k_is))
    (case d16 => refine' Rd.defk ?a ?l ?c ?k; (case a => k_is); (case l => k_is); (case c => k_is); (case k => k_is))
    (case d17 => refine' Rd.defk ?a ?l ?c ?k; (case a => k_is); (case l => k_is); (case c => k_is); (case k => k_is))
    (case d18 => refine' Rd.defk ?a ?l ?c ?k; (case a => k_is); (case l => k_is); (case c => k_is); (case k => k_is))
    (case d19 => refine' Rd.defk ?a ?l ?c ?k; (case a => k_is); (case l => k_is); (case c => k_is); (case k => k_is))
    (case d20 => refine' Rd.defk ?a ?l ?c ?k; (case a => k_is); (case l => k_is); (case c => k_is); (case k => k_is))
    (case d21 => refine' Rd.defk ?a ?l ?c ?k; (case a => k_is); (case l => k_is); (case c => k_is); (case k => k_is))
    (case d22 => refine' Rd.defk ?a ?l ?c ?k; (case a => k_is); (case l => k_is); (case c => k_is); (case k => k_is))
    (case d23 => refine' Rd.defk ?a ?l ?c ?k; (case a => k_is); (case l => k_is); (case c => k_is); (case k => k_is))
    (case m0 => refine' Rd.metk ?a ?i ?l ?c ?k; (case a => k_is); (case i => k_is); (case l => k_is); (case c => k_is); (case k => k_is))
    (case m1 => refine' Rd.metk ?a ?i ?l ?c ?k; (case a => k_is); (case i => k_is); (case l => k_is); (case c => k_is); (case k => k_is))
    (case m2 => refine' Rd.metk ?a ?i ?l ?c ?k; (case a => k_is); (case i => k_is); (case l => k_is); (case c => k_is); (case k => k_is))
    (case m3 => refine' Rd.metk ?a ?i ?l ?c ?k; (case a => k_is); (case i => k_is); (case l => k_is); (case c => k_is); (case k => k_is))
    (case m4 => refine' Rd.metk ?a ?i ?l ?c ?k; (case a => k_is); (case i => k_is); (case l => k_is); (case c => k_is); (case k => k_is))
    (case m5 => refine' Rd.metk ?a ?i ?l ?c ?k; (case a => k_is); (case i => k_is); (case l => k_is); (case c => k_is); (case k => k_is))
    (case m6 => refine' Rd.metk ?a ?i ?l ?c ?k; (case a => k_is); (case i => k_is); (case l => k_is); (case c => k_is); (case k => k_is))
    (case m7 => refine' Rd.metk ?a ?i ?l ?c ?k; (case a => k_is); (case i => k_is); (case l => k_is); (case c => k_is); (case k => k_is))
    (case m8 => refine' Rd.metk ?a ?i ?l ?c ?k; (case a => k_is); (case i => k_is); (case l => k_is); (case c => k_is); (case k => k_is))
    (case m9 => refine' Rd.metk ?a ?i ?l ?c ?k; (case a => k_is); (case i => k_is); (case l => k_is); (case c => k_is); (case k => k_is))
    (case m10 => refine' Rd.metk ?a ?i ?l ?c ?k; (case a => k_is); (case i => k_is); (case l => k_is); (case c => k_is); (case k => k_is))
    (case m11 => refine' Rd.metk ?a ?i ?l ?c ?k; (case a => k_is); (case i => k_is); (case l => k_is); (case c => k_is); (case k => k_is))
    (case m12 => refine' Rd.metk ?a ?i ?l ?c ?k; (case a => k_is); (case i => k_is); (case l => k_is); (case c => k_is); (case k => k_is))
    (case m13 => refine' Rd.metk ?a ?i ?l ?c ?k; (case a => k_is); (case i => k_is); (case l => k_is); (case c => k_is); (case k => k_is))
    (case n_rNumbers => k_is)
    (case n_rPlace => k_is)
    (case n_eKey => k_is)
    (case n_eText => k_is)
    (case n_eTrans => k_is)
    (case n_eSure => k_is)
    (case n_eSource => k_is)
    (case n_cEntries => k_is)
    (case n_cKept => k_is)
    (case n_cPast => k_is)
    (case s_xL_xL => first | k_is | rfl)
    (case s_xN_xL => first | k_is | rfl)
    (case s_xN_xN => first | k_is | rfl)
    (case s_xM_xL => first | k_is | rfl)
    (case s_xM_xN => first | k_is | rfl)
    (case s_xM_xM => first | k_is | rfl)
    (case s_xS_xL => first | k_is | rfl)
    (case s_xS_xN => first | k_is | rfl)
    (case s_xS_xM => first | k_is | rfl)
    (case s_xS_xS => first | k_is | rfl)
    (case s_xU_xL => first | k_is | rfl)
    (case s_xU_xN => first | k_is | rfl)
    (case s_xU_xM => first | k_is | rfl)
    (case s_xU_xS => first | k_is | rfl)
    (case s_xU_xU => first | k_is | rfl)
    (case i_mostWords => k_is)
    (case i_highWord => k_is)
    (case i_mostKeys => k_is)
    (case i_highKey => k_is)
    (case i_mostKept => k_is)
    (case i_same => k_is)
    (case i_ours => k_is)
    (case i_theirs => k_is)
    (case i_both => k_is)
    (case b_len => k_is)
    (case b_max => k_is)
    (case b_min => k_is)
    (case b_list => k_is)
    (case b_range => k_is)
    (case b_enumerate => k_is)
    (case b_set => k_is)
    (case b_zip => k_is)
    (case calls => k_is)
    (case tup => k_is)
    (case tab => refine' Rd.tab_by ?a ?l ?e ?l2 ?v; (case a => k_is); (case l => k_is); (case e => rfl); (case l2 => k_is); (case v => rfl))
  case W =>
    intro K cs H a dn ns isNs within asked tabs sq
    have e0 : dn.1 = ns := by
      have h1 : [WData.list (dn.1.map WData.int)] = [WData.list (ns.map WData.int)] := isNs
      have h2 := WData.list.inj (List.cons.inj h1).1
      exact (List.map_inj_right (fun _ _ z => WData.int.inj z)).mp h2
    have q : ((Codec.inLen 0 13000 dn.1 && dn.1.all (Codec.inInt 0 4294967295)) && true) = true := within
    have q1 := (Bool.and_eq_true_iff.mp (Bool.and_eq_true_iff.mp q).1).1
    have small := (Codec.inNat_iff.mp q1).2
    subst e0
    exact Rd.top_want asked small rfl tabs sq
#print axioms PySem.Challenge.cw_releasesdesk_s01_answers_holds
