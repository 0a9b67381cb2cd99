import PyProof.Rows.All
import Wide.All
import OpenK.AllK
import Wide.FinOn
import PyProof.EqAt
import PyProof.EqKinds
import PyProof.TupleCall
import HandS.ForSpec
import HandS.ForMost
import HandS.SortKw
import HandS.Conv
import HandS.Nested
import HandS.Lambda
import HandS.Walk
import KE.GoesMore
import KE.GoesZip
import HandS.CallLocal
import HandS.Codes
import HandS.Defaults
import PySem.Challenge.RW_keyeditor_s01_answers
import HandS.HeadHook4
import KE.KStateDown
import KE.OsHead
import KE.OsGo
import HandS.Head4
import HandS.Spec
import HandS.EndTab
import HandS.ExcValue
set_option Elab.async false
set_option linter.all false
set_option maxRecDepth 100000
section
set_option maxHeartbeats 4500000
namespace KeSort
open PySem PySem.Spec PyProof.Rows L2 LamX NdefX SrtO
/-! ### a lambda with parameters, called -/
section
variable {K : PySem.W.Frag} {mg : Str → Option Value} {P : Program} {w : World} {base : Heap}
theorem lam_run {N ps fr : List Str} {name qual : Str} {params : Arguments} {body : Expr} {scope : Scope} {cl : List (Str × Addr)} {pm ctv : Value} {f c1 : Addr} {k : Nat} {A : Around} {outer : List Env} {s : Shared} {H : Hp}
    {us : List Value} {vs : List V} {ws : List (Option V)} {Q : VK} {E : XK} {tb : TE}
    (S : NScope N ps fr scope) (hr : Room (k + 1) A) (e0 : Env0 P w K mg base A outer s H)
    (hf : s.heap.get? f = some (PySem.W.kla_obj name qual params body scope cl pm c1 ctv)) (hc : H c1 = some (CodeO c1 qual))
    (C : CellsAt cl fr ws s.heap H) (r : Vals vs us) (hl : vs.length = ps.length)
    (hb : bindArgs (PySem.W.kla_fn name qual params body scope cl pm (.ref c1) ctv) ⟨us, []⟩ = pure (ps.zip us))
    (hbody : Room k (A.deeper (envF ⟨name, qual, params, [], scope, cl, c1⟩ f s.heap.objs.size)) → PE (ncx L2.CX0 P w K mg base N ⟨name, qual, params, [], scope, cl, c1⟩ f A outer s H E) body tb)
    (hq : tb (startF N vs ws) H Q) : codeAny (model P w) A (.call (.ref f) ⟨us, []⟩) (CR L2.CX0 outer P w H s Q E) s := by
  have lim : (s.heap.NoLimit) := e0.mod.nolimit.keeps fun b o e => (e0.bs b o e).1
  refine PySem.W.kla_callFunE hr.depth hf rfl S.co S.gen rfl (codeO_at e0.hok hc) ?_
  rw [hb]
  refine wpAny_pure (wpAny_newFunctionEnv S.nocell (fun ⟨n, _⟩ hy => S.par n (List.of_mem_zip hy).1) (fun h1 hns hsb => ⟨lim.fresh _ hsb, ?_⟩) S.kind)
  show codeAny _ _ (.expr body (envF ⟨name, qual, params, [], scope, cl, c1⟩ f s.heap.objs.size)) _ _
  have kp : ∀ b o, s.heap.get? b = some o → h1.get? b = some o := fun b o e => hsb.extBut b o (Nat.ne_of_lt (Heap.lt_size e)) (Heap.get?_push_of_some _ e)
  have J : Inv (ncx L2.CX0 P w K mg base N ⟨name, qual, params, [], scope, cl, c1⟩ f A outer s H E) [] (startF N vs ws) H { s with heap := h1, toks := s.toks + (ps.zip us).length } :=
    inv_startN S hr.hd e0 hl r C hns kp
  refine PySem.W.kla_codeExpr (wpAny_mono ((hbody (hr.deeper _)).run [] _ _ H Q J hq) (fun v s2 hv => ?_) fun e s2 hv => hv)
  obtain ⟨v2, H2, J2, rv, q⟩ := hv
  exact ⟨v2, H2, J2.os, J2.bare, J2.base, J2.hok, rv, q⟩
end
/-! ### an untracked object of ours is tracked from now on -/
theorem adopt {X : Cx} {pins : List (Addr × Obj)} {σ : L2.St} {H : Hp} {s : Shared} {a : Addr} {o : HO} (I : Inv X pins σ H s) (hn : H a = none) (h0 : X.s_0.heap.objs.size ≤ a) (hL : a ≠ X.env.locals)
    (hc : ∀ x c, X.env.cells.lookup x = some c → c ≠ a) (hp : ∀ p ∈ X.pn ++ pins, p.1 ≠ a) (hu : ∃ u, s.heap.get? a = some u) (new : ObjOk X.prog X.w (upd H a o) s.heap a o) : Inv X pins σ (upd H a o) s := by
  have sm : ∀ b u, H b = some u → b ≠ a := fun b u e => ne_of_none e hn
  have J := I.step (H' := upd H a o) (h' := s.heap) (g' := s.gens) (d' := s.drawn) (t' := s.toks) (ch := [a]) (fun b hb => by
      have e : b = a := by simpa using hb
      subst e
      exact ⟨.inr h0, hL, hc, hp⟩) (fun b u _ _ _ e _ => e) (fun b u _ _ _ e _ => ⟨u.slots, e⟩) (fun b u hb e n => by
      rw [upd_ne (fun z => hb (by simp [z]))]
      exact n) (fun b u _ e => ⟨u, e⟩) (fun b xs e => by rw [upd_ne (sm b _ e)]; exact e) (fun b u x e => by rw [upd_ne (sm b _ e)]; exact e)
    (fun b ps e => ⟨#[], by rw [upd_ne (sm b _ e), e]; simp⟩) (fun m hm => hm) (fun b u e => by
      by_cases hb : b = a
      · subst hb
        rw [upd_same] at e
        cases e
        exact new
      · rw [upd_ne hb] at e
        exact (I.hok b u e).stay (fun _ _ _ q => q) (fun c q => by rw [upd_ne (sm c _ q)]; exact q) fun c xs q => by rw [upd_ne (sm c _ q)]; exact q) I.bare
  exact J
theorem cr_range1 {X : Cx} : CallR X (.type "range") (fun vs H Q => ∃ j, vs = [V.int j] ∧ ∀ p, H p = none → Q (.ref p) (upd H p (.rng 0 j))) := by
  intro pins s; intro σ H vs us Q I r h
  obtain ⟨j, rfl, q⟩ := h
  obtain ⟨u1, rfl, ri⟩ := vals1 r
  obtain ⟨t, rfl⟩ := ri
  refine call_range_1 ⟨.ref s.heap.objs.size, upd H s.heap.objs.size (.rng 0 j), I.laid (t' := s.toks + 1 + 1) (fun b o e => Heap.get?_push_of_some _ e) (Nat.le_refl _) ?_, rfl, q _ (I.hok.fresh (Nat.le_refl _))⟩
  exact ⟨_, _, _, Heap.get?_push_size _ rfl⟩
/-! ### the order of pairs, by a function -/
theorem swo_by {α : Type} (g : α → Int × Int) : Swo fun x y => lexB (g x) (g y) := by
  refine (⟨fun x y h => ?_, fun x y z h1 h2 => ?_⟩)
  · have a := lexB_iff.mp h
    exact lexB_no.mpr (by omega)
  · have a := lexB_no.mp h1
    have b := lexB_no.mp h2
    exact lexB_no.mpr (by omega)
def ltk (key : Nat → Int × Int) (i j : Nat) : Bool := lexB (key i) (key j)
def numAt : Value → Nat
  | .int i _ => i.toNat
  | _ => 0
end KeSort
end
section
set_option maxHeartbeats 4500000
namespace KeSort
open PySem PySem.Spec PyProof.Rows L2 LamX NdefX SrtO
theorem small_to (n : Nat) (h : n ≤ 1000) : Builtin.Range.small 0 n 1 = true := by
  have e : Builtin.Range.rangeSize 0 (n : Int) 1 = n := by
    rw [rangeSize_one]
    split <;> omega
  unfold Builtin.Range.small
  rw [e]
  unfold Builtin.Range.rangeFitsLong
  simp
  omega
section
variable {X : Cx} {σ : L2.St} {H : Hp} {s : Shared} {pins : List (Addr × Obj)}
/-- an address of ours: none of the frame's own things -/
structure Mine (X : Cx) (pins : List (Addr × Obj)) (a : Addr) : Prop where
  ab : X.s_0.heap.objs.size ≤ a
  lo : a ≠ X.env.locals
  ce : ∀ x c, X.env.cells.lookup x = some c → c ≠ a
  pi : ∀ p ∈ X.pn ++ pins, p.1 ≠ a
  fr : a ∉ frs X.stack
theorem mine_of (I : Inv X pins σ H s) {a : Addr} (h : s.heap.objs.size ≤ a) : Mine X pins a := by
  refine ⟨Nat.le_trans I.sz h, Nat.ne_of_gt (Nat.lt_of_lt_of_le I.lt h), fun x c e z => ?_, fun p hp z => ?_, fun z => ?_⟩
  · obtain ⟨v, o, ho, _⟩ := I.cell x c e
    exact absurd (Nat.lt_of_lt_of_le (Heap.lt_size ho) (z ▸ h)) (Nat.lt_irrefl _)
  · have q := Heap.lt_size (I.pin p hp).1
    exact absurd (Nat.lt_of_lt_of_le q (z ▸ h)) (Nat.lt_irrefl _)
  · rcases List.mem_cons.mp (I.stkSub _ z) with e | e
    · exact absurd (Nat.lt_of_lt_of_le I.lt (e ▸ h)) (Nat.lt_irrefl _)
    · exact I.nofs h e
/-- what is known between two turns of the keys' loop -/
structure Turn (X : Cx) (pins : List (Addr × Obj)) (σ : L2.St) (H : Hp) (f a kS : Addr) (fo : Obj) (e1 : Nat) (key : Nat → Int × Int) (i : Nat) (s : Shared) (H1 : Hp) (ts : List Addr) (e : Nat) : Prop where
  inv : Inv X pins σ H1 s
  same : Same H H1
  fAt : s.heap.get? f = some fo
  fNo : H1 f = none
  aAt : s.heap.get? a = some (seqObj "list" #[] e1)
  aNo : H1 a = none
  kAt : s.heap.get? kS = some (seqObj "list" (ts.map Value.ref).toArray e)
  kNo : H1 kS = none
  len : ts.length = i
  tup : ∀ j t, ts[j]? = some t → H1 t = some (.tup [.int (key j).1, .int (key j).2])
abbrev Call1 (X : Cx) (pins : List (Addr × Obj)) (σ : L2.St) (H : Hp) (f : Addr) (fo : Obj) (key : Nat → Int × Int) (n : Nat) : Prop :=
  ∀ (i : Nat) (t : Tok) (s1 : Shared) (H1 : Hp), i < n → Inv X pins σ H1 s1 → Same H H1 → s1.heap.get? f = some fo → H1 f = none →
    wpAny (model X.prog X.w) X.A.in1.in1 (call (.ref f) [.int i t]) (fun v s2 => ∃ H2 tp, v = .ref tp ∧ Inv X pins σ H2 s2 ∧ Same H1 H2 ∧ H2 tp = some (.tup [.int (key i).1, .int (key i).2]) ∧ Un (frs X.stack) [] H1 H2 s1.heap s2.heap) (fun _ _ => False) s1
theorem turns {f a kS : Addr} {fo : Obj} {e1 n : Nat} {key : Nat → Int × Int} {vs : List Value} {P : PySem.Fin → Shared → Prop} {E : Value → Shared → Prop} (hn : n ≤ 1000) (hvl : vs.length = n) (hv : ∀ (i : Nat) (x : Value), vs[i]? = some x → ∃ t, x = .int i t)
    (ma : Mine X pins a) (mk : Mine X pins kS) (mf : f ∉ frs X.stack) (ka : kS ≠ a) (fk : f ≠ kS) (call1 : Call1 X pins σ H f fo key n) (T0 : Turn X pins σ H f a kS fo e1 key 0 s H [] 0)
    (h : ∀ s1 H1 ts e, Turn X pins σ H f a kS fo e1 key n s1 H1 ts e → wpAny (model X.prog X.w) X.A.in1.in1 (ksk_end a false vs.toArray e1 (.ref kS) (ts.map Value.ref).toArray) P E s1) :
    wpAny (model X.prog X.w) X.A.in1.in1 (ksk_rest a (.ref f) false vs.toArray e1 (.ref kS)) P E s := by
  unfold ksk_rest
  refine (wpAny_bind (wpAny_rule ?_))
  rw [List.forIn_toArray]
  refine wpAny_bind (ksk_fold (fun i s1 => ∃ H1 ts e, Turn X pins σ H f a kS fo e1 key i s1 H1 ts e) vs 0 s ⟨H, [], 0, T0⟩ ?_ ?_)
  · rintro j x s1 hx ⟨H1, ts, e, T⟩
    simp only [Nat.zero_add] at T ⊢
    obtain ⟨t, rfl⟩ := hv j x hx
    have hj : j < n := by
      rw [← hvl]
      exact (List.getElem?_eq_some_iff.mp hx).1
    refine wpAny_bind (wpAny_attempt (wpAny_mono (call1 j t s1 H1 hj T.inv T.same T.fAt T.fNo) (fun v s2 hq => ?_) fun _ _ q => q.elim))
    obtain ⟨H2, tp, rfl, I2, sm, ht, un⟩ := hq
    try dsimp only
    have nE : ∀ b : Addr, b ∉ ([] : List Addr) := fun b => by simp
    have k2 : s2.heap.get? kS = some (seqObj "list" (ts.map Value.ref).toArray e) := un.keep _ _ T.kAt T.kNo mk.fr (nE _)
    have sb := Heap.SameBut.update s2.heap kS (Obj.mapSeq (·.push (.ref tp)))
    obtain ⟨c2, hc2⟩ : ∃ c2, (s2.heap.update kS (Obj.mapSeq (·.push (.ref tp)))).get? kS = some (seqObj "list" ((ts.map Value.ref).toArray.push (.ref tp)) c2) := ⟨_, get?_update_seq k2 (·.push (.ref tp))⟩
    have hz : (ts.map Value.ref).toArray.size ≤ 1000 := by
      rw [List.size_toArray, List.length_map, T.len]
      omega
    refine wpAny_bind (listUpdate_at k2 rfl ?_ (by rw [sizeLine_eq]; omega) (Nat.le_trans (Nat.le_of_eq (Array.size_push ..)) (by rw [sizeLine_eq]; omega)))
    have kNo2 : H2 kS = none := un.free _ _ T.kAt T.kNo (nE _)
    have I3 : Inv X pins σ H2 { s2 with heap := s2.heap.update kS (Obj.mapSeq (·.push (.ref tp))) } := I2.turned (t' := s2.toks) (fun b o hb q => (sb.2 b hb).trans q) kNo2 mk.lo (.inr mk.ab) mk.ce mk.pi
    refine wpAny_pure ⟨rfl, H2, ts ++ [tp], c2, I3, T.same.trans sm, (sb.2 _ fk).trans (un.keep _ _ T.fAt T.fNo mf (nE _)), un.free _ _ T.fAt T.fNo (nE _), (sb.2 _ (Ne.symm ka)).trans (un.keep _ _ T.aAt T.aNo ma.fr (nE _)), un.free _ _ T.aAt T.aNo (nE _), ?_, kNo2, by rw [List.length_append, T.len]; rfl, ?_⟩
    · have e2 : (ts.map Value.ref).toArray.push (.ref tp) = ((ts ++ [tp]).map Value.ref).toArray := by simp
      rw [← e2]
      exact hc2
    · intro i t2 hi
      by_cases hlt : i < ts.length
      · rw [List.getElem?_append_left hlt] at hi
        exact sm _ _ (T.tup i t2 hi)
      · rw [List.getElem?_append_right (by omega)] at hi
        have e0 : i - ts.length = 0 := by
          rcases Nat.eq_zero_or_pos (i - ts.length) with z | z
          · exact z
          · rw [List.getElem?_eq_none (by simp; omega)] at hi
            cases hi
        rw [e0] at hi
        have e3 : tp = t2 := Option.some.inj hi
        have e4 : i = j := by
          have := T.len
          omega
        rw [← e3, e4]
        exact ht
  · rintro s1 ⟨H1, ts, e, T⟩
    rw [Nat.zero_add, hvl] at T
    refine wpAny_bind (listItems_at T.kAt rfl ?_)
    exact h s1 H1 ts e T
end
end KeSort
end
section
set_option maxHeartbeats 4500000
namespace KeSort
open PySem PySem.Spec PyProof.Rows L2 LamX NdefX SrtO
section
variable {X : Cx} {σ : L2.St} {H : Hp} {s : Shared} {pins : List (Addr × Obj)}
theorem int_rel : ∀ (l : List Value), (∀ v ∈ l, ∃ i : Nat, ∃ t, v = Value.int i t) → Vals ((l.map numAt).map fun i : Nat => V.int i) l
  | [], _ => .nil
  | v :: l, h => by
    obtain ⟨i, t, rfl⟩ := h v (List.mem_cons_self ..)
    exact .cons ⟨t, rfl⟩ (int_rel l fun u hu => h u (List.mem_cons_of_mem _ hu))
theorem num_range {vs : List Value} {n : Nat} (hvl : vs.length = n) (hv : ∀ (i : Nat) (x : Value), vs[i]? = some x → ∃ t, x = .int i t) : vs.map numAt = List.range n := by
  apply List.ext_getElem
  · rw [List.length_map, List.length_range, hvl]
  · intro i h1 h2
    rw [List.getElem_map, List.getElem_range]
    rw [List.length_map] at h1
    obtain ⟨t, e⟩ := hv i vs[i] (List.getElem?_eq_getElem h1)
    rw [e]
    exact Int.toNat_natCast i
/-- the last part: what was sorted is put back -/
theorem tail_ {f a kS : Addr} {fo : Obj} {e1 n : Nat} {key : Nat → Int × Int} {vs : List Value} {P : PySem.Fin → Shared → Prop} {E : Value → Shared → Prop} {s1 : Shared} {H1 : Hp} {ts : List Addr} {e : Nat} {st : SortSt} (hn : n ≤ 1000) (hvl : vs.length = n)
    (hv : ∀ (i : Nat) (x : Value), vs[i]? = some x → ∃ t, x = .int i t) (ma : Mine X pins a) (mk : Mine X pins kS) (ka : kS ≠ a) (T : Turn X pins σ H f a kS fo e1 key n s1 H1 ts e)
    (hs : Srtd (fun p q : Keyed => lexB (key (numAt p.2)) (key (numAt q.2))) (arrOf st).toList) (hb : Stb (fun p q : Keyed => lexB (key (numAt p.2)) (key (numAt q.2))) (arrOf st).toList ((ts.map Value.ref).zip vs)) (hf : failedOf st = none)
    (h : ∀ s2 H2 (out : List Nat), Inv X pins σ H2 s2 → Same H H2 → H2 a = some (.lst (out.map fun i : Nat => V.int i)) → Srtd (ltk key) out → Stb (ltk key) out (List.range n) → P (.done (.ret .none)) s2) :
    wpAny (model X.prog X.w) X.A.in1.in1 (ksk_tail a false e1 (.ref kS) st) P E s1 := by
  have el : ((ts.map Value.ref).zip vs).map (fun p : Keyed => p.2) = vs := by
    rw [List.map_snd_zip]
    rw [List.length_map, T.len, hvl]
    exact Nat.le_refl _
  have hm : ∀ v ∈ ((arrOf st).map (·.2)).toList, ∃ i : Nat, ∃ t, v = Value.int i t := fun v hq => by
    rw [Array.toList_map] at hq
    obtain ⟨p, hp, rfl⟩ := (List.mem_map.mp hq)
    have hz := hb.perm.mem_iff.mp hp
    have hw : p.2 ∈ vs := by
      rw [← el]
      exact List.mem_map.mpr ⟨p, hz, rfl⟩
    obtain ⟨i, hi⟩ := List.mem_iff_getElem?.mp hw
    obtain ⟨t, et⟩ := hv i _ hi
    exact ⟨i, t, et⟩
  have hsz : ((arrOf st).map (·.2)).size = n := by
    have q := hb.perm.length_eq
    rw [Array.length_toList, List.length_zip, List.length_map, T.len, hvl] at q
    rw [Array.size_map]
    omega
  have hO : Swo (ltk key) := swo_by key
  have eo : ((arrOf st).map (·.2)).toList.map numAt = (arrOf st).toList.map fun p : Keyed => numAt p.2 := by
    rw [Array.toList_map]; rw [List.map_map]
    rfl
  have ez : ((ts.map Value.ref).zip vs).map (fun p : Keyed => numAt p.2) = List.range n := by
    have q := congrArg (List.map numAt) el
    rw [List.map_map, num_range hvl hv] at q
    exact q
  have q1 : Srtd (ltk key) (((arrOf st).map (·.2)).toList.map numAt) := by
    rw [eo]
    exact srtd_map (f := fun p : Keyed => numAt p.2) hs
  have q2 : Stb (ltk key) (((arrOf st).map (·.2)).toList.map numAt) (List.range n) := by
    rw [eo, ← ez]
    exact Stb.map hO (fun p : Keyed => numAt p.2) hb
  have s1b := Heap.SameBut.update s1.heap kS (Obj.mapSeq fun _ => (#[] : Array Value))
  have aAt1 : (s1.heap.update kS (Obj.mapSeq fun _ => (#[] : Array Value))).get? a = some (seqObj "list" #[] e1) := (s1b.2 a (Ne.symm ka)).trans T.aAt
  have s2b := Heap.SameBut.update (s1.heap.update kS (Obj.mapSeq fun _ => (#[] : Array Value))) a (Obj.mapSeq fun _ => (arrOf st).map (·.2))
  obtain ⟨c2, hc2⟩ : ∃ c2, ((s1.heap.update kS (Obj.mapSeq fun _ => (#[] : Array Value))).update a (Obj.mapSeq fun _ => (arrOf st).map (·.2))).get? a = some (seqObj "list" ((arrOf st).map (·.2)) c2) := ⟨_, get?_update_seq aAt1 fun _ => (arrOf st).map (·.2)⟩
  have I1 : Inv X pins σ H1 { s1 with heap := s1.heap.update kS (Obj.mapSeq fun _ => (#[] : Array Value)) } := T.inv.turned (t' := s1.toks) (fun b o hb q => (s1b.2 b hb).trans q) T.kNo mk.lo (.inr mk.ab) mk.ce mk.pi
  have I2 : Inv X pins σ H1 { s1 with heap := (s1.heap.update kS (Obj.mapSeq fun _ => (#[] : Array Value))).update a (Obj.mapSeq fun _ => (arrOf st).map (·.2)) } := I1.turned (t' := s1.toks) (fun b o hb q => (s2b.2 b hb).trans q) T.aNo ma.lo (.inr ma.ab) ma.ce ma.pi
  have I3 := adopt (o := .lst ((((arrOf st).map (·.2)).toList.map numAt).map fun i : Nat => V.int i)) I2 T.aNo ma.ab ma.lo ma.ce ma.pi ⟨_, hc2⟩ ⟨by
    rw [List.length_map, List.length_map, Array.length_toList, hsz, sizeLine_eq]
    omega, ((arrOf st).map (·.2)).toList, c2, int_rel _ hm, by rw [Array.toArray_toList]; exact hc2⟩
  unfold ksk_tail
  try dsimp only
  refine wpAny_bind (listUpdate_at T.kAt rfl ?_ (by rw [List.size_toArray, List.length_map, T.len, sizeLine_eq]; omega) (Nat.zero_le _))
  refine (wpAny_bind (wpAny_letGo ?_))
  refine wpAny_bind (seqEpoch_at aAt1 rfl ?_)
  refine wpAny_bind (listUpdate_at aAt1 rfl ?_ (Nat.zero_le _) (by simp only [Bool.false_eq_true, if_false]; rw [hsz, sizeLine_eq]; omega))
  rw [hf]
  simp only [if_false, Bool.false_eq_true, bne_self_eq_false]
  refine wpAny_pure (h _ _ _ I3 (fun b o q => ?_) upd_same q1 q2)
  have q3 := T.same b o q
  rw [upd_ne (ne_of_none q3 T.aNo)]
  exact q3
end
end KeSort
end
section
set_option maxHeartbeats 4500000
namespace KeSort
open PySem PySem.Spec PyProof.Rows L2 LamX NdefX SrtO
section
variable {X : Cx} {σ : L2.St} {H : Hp} {s : Shared} {pins : List (Addr × Obj)}
/-- the pair that a tracked tuple holds -/
def pairAt (H : Hp) : Value → Int × Int
  | .ref t => match H t with
    | some (.tup [.int x, .int y]) => (x, y)
    | _ => (0, 0)
  | _ => (0, 0)
theorem pairAt_eq {H : Hp} {t : Addr} {x y : Int} (h : H t = some (.tup [.int x, .int y])) : pairAt H (.ref t) = (x, y) := by
  unfold pairAt
  simp only [h]
theorem ends_ {f a kS : Addr} {fo : Obj} {e1 n : Nat} {key : Nat → Int × Int} {vs : List Value} {P : PySem.Fin → Shared → Prop} {E : Value → Shared → Prop} {s1 : Shared} {H1 : Hp} {ts : List Addr} {e : Nat} (hn : n ≤ 1000) (hvl : vs.length = n)
    (hv : ∀ (i : Nat) (x : Value), vs[i]? = some x → ∃ t, x = .int i t) (ma : Mine X pins a) (mk : Mine X pins kS) (ka : kS ≠ a) (T : Turn X pins σ H f a kS fo e1 key n s1 H1 ts e)
    (h : ∀ s2 H2 (out : List Nat), Inv X pins σ H2 s2 → Same H H2 → H2 a = some (.lst (out.map fun i : Nat => V.int i)) → Srtd (ltk key) out → Stb (ltk key) out (List.range n) → P (.done (.ret .none)) s2) :
    wpAny (model X.prog X.w) X.A.in1.in1 (ksk_end a false vs.toArray e1 (.ref kS) (ts.map Value.ref).toArray) P E s1 := by
  have e0 : ((ts.map Value.ref).toArray.zip vs.toArray).toList = (ts.map Value.ref).zip vs := by simp
  unfold ksk_end
  try dsimp only
  simp only [if_false, Bool.false_eq_true]
  by_cases h2 : (vs.toArray.size < 2)
  · rw [if_pos h2, if_pos h2]
    refine (wpAny_bind (wpAny_pure ?_))
    rw [StateT.run_pure]
    refine (wpAny_bind (wpAny_pure ?_))
    try dsimp only
    refine tail_ (st := SortSt.mk' general' ((ts.map Value.ref).toArray.zip vs.toArray) #[] 7 none) hn hvl hv ma mk ka T ?_ (Stb.of_eq e0) rfl h
    show Srtd _ ((ts.map Value.ref).toArray.zip vs.toArray).toList
    rw [e0]
    rw [List.size_toArray] at h2
    have hl : ((ts.map Value.ref).zip vs).length < 2 := by
      rw [List.length_zip]
      omega
    match (ts.map Value.ref).zip vs, hl with
    | [], _ => exact (List.Pairwise.nil)
    | [x], _ => exact List.pairwise_singleton ..
  · rw [if_neg h2, if_neg h2]
    rw [List.size_toArray] at h2
    have hpair : ∀ v ∈ ts.map Value.ref, Srt.IsPair s1.heap v (pairAt H1 v).1 (pairAt H1 v).2 := fun v hm => by
      obtain ⟨t, ht, rfl⟩ := (List.mem_map.mp hm)
      obtain ⟨j, hj⟩ := List.mem_iff_getElem?.mp ht
      have q := T.tup j t hj
      rw [pairAt_eq q]
      obtain ⟨_, its, r2, o, ho, hc, m, hd⟩ := T.inv.hok _ _ q
      obtain ⟨u1, u2, rfl, ri, rj⟩ := (vals2 r2)
      obtain ⟨t1, rfl⟩ := ri
      obtain ⟨t2, rfl⟩ := rj
      exact ⟨t, o, t1, t2, m, rfl, ho, hc, hd⟩
    have hmem : ∀ p ∈ (ts.map Value.ref).zip vs, p.1 ∈ ts.map Value.ref ∧ pairAt H1 p.1 = key (numAt p.2) := fun p hp => by
      refine ⟨(List.of_mem_zip (a := p.1) (b := p.2) hp).1, ?_⟩
      obtain ⟨j, hj⟩ := (List.mem_iff_getElem?.mp hp)
      rw [List.getElem?_zip_eq_some] at hj
      obtain ⟨hj1, hj2⟩ := hj
      rw [List.getElem?_map] at hj1
      cases et : ts[j]? with
      | none =>
        rw [et] at hj1
        cases hj1
      | some t =>
        rw [et] at hj1
        have e5 : Value.ref t = p.1 := Option.some.inj hj1
        obtain ⟨t3, e6⟩ := hv j _ hj2
        rw [← e5, e6, pairAt_eq (T.tup j t et)]
        show ((key j).1, (key j).2) = key (Int.toNat (j : Int))
        rw [Int.toNat_natCast]
    obtain ⟨fs, k1, k2, k3⟩ := Srt.firsts_of fun v hm => ⟨_, _, hpair v hm⟩
    refine wpAny_bind (PySem.W.kat_kind (T := .type "int") k1 (by rw [k2, List.length_map, T.len]; omega) (fun u hm => ?_) (by rfl) ?_)
    · obtain ⟨x, t, rfl⟩ := k3 u hm
      exact PySem.W.Looks.now
    have et : (Value.type "int" != Value.type "tuple") = true := by first | decide +kernel | rfl | decide
    rw [et]
    have hcmp : Cmp X.prog X.w X.A.in1.in1 s1 (tuples' true) (fun p => p ∈ (ts.map Value.ref).zip vs) (fun p q : Keyed => lexB (key (numAt p.2)) (key (numAt q.2))) := fun p q hp hq => by
      have z := pair_cmp (prog := X.prog) (w := X.w) (A := X.A.in1.in1) hpair p q (hmem p hp).1 (hmem q hq).1
      have z2 : lt2 (fun v u => lexB (pairAt H1 v) (pairAt H1 u)) p q = lexB (key (numAt p.2)) (key (numAt q.2)) := by
        show lexB (pairAt H1 p.1) (pairAt H1 q.1) = _
        rw [(hmem p hp).2, (hmem q hq).2]
      exact wpAny_mono z (fun r s2 hr => ⟨hr.1, hr.2.trans z2⟩) fun _ _ z => z
    refine wpAny_bind (wpAny_mono (wpS_sortO (st0 := SortSt.mk' (tuples' true) ((ts.map Value.ref).toArray.zip vs.toArray) #[] 7 none)
      (Q := fun _ st2 => Srtd (fun p q : Keyed => lexB (key (numAt p.2)) (key (numAt q.2))) (arrOf st2).toList ∧ Stb (fun p q : Keyed => lexB (key (numAt p.2)) (key (numAt q.2))) (arrOf st2).toList ((ts.map Value.ref).toArray.zip vs.toArray).toList ∧ failedOf st2 = none)
      (swo_by fun p : Keyed => key (numAt p.2)) hcmp rfl (fun p hp => by rw [← e0]; exact hp) rfl rfl fun st2 a1 a2 a3 => ⟨a1, a2, a3⟩) ?_ fun _ _ z => z)
    rintro ⟨⟨⟩, st2⟩ s2 ⟨rfl, b1, b2, b3⟩
    try dsimp only
    rw [e0] at b2
    exact tail_ hn hvl hv ma mk ka T b1 b2 b3 h
end
end KeSort
end
section
set_option maxHeartbeats 4500000
namespace KeSort
open PySem PySem.Spec PyProof.Rows L2 LamX NdefX SrtO
section
variable {X : Cx} {σ : L2.St} {H : Hp} {s : Shared} {pins : List (Addr × Obj)}
theorem sorted_keyed {f r : Addr} {fo : Obj} {n : Nat} {key : Nat → Int × Int} {Q : Value → Shared → Prop} {E : Value → Shared → Prop} (I : Inv X pins σ H s) (hh : X.A.handled = none) (hr : H r = some (.rng 0 n)) (hn : n ≤ 1000)
    (hf : s.heap.get? f = some fo) (hfn : H f = none) (mf : f ∉ frs X.stack) (call1 : Call1 X pins σ H f fo key n)
    (h : ∀ s2 H2 p (out : List Nat), Inv X pins σ H2 s2 → Same H H2 → H p = none → H2 p = some (.lst (out.map fun i : Nat => V.int i)) → Srtd (ltk key) out → Stb (ltk key) out (List.range n) → Q (.ref p) s2) :
    wpAny (model X.prog X.w) X.A (call (.builtin "sorted") [.ref r] [(Str.ofString "key", .ref f)]) Q E s := by
  obtain ⟨t, u, v, hro⟩ := I.hok r _ hr
  refine call_function_entry_kw kind_sorted plain_sorted entry_sorted (ksk_s1 _ _) ?_
  unfold Builtin.«sorted»
  refine (wpAny_bind (m := checkCount "sorted" 1 1 _) (wpAny_pure ?_))
  refine wpAny_bind (collect_range (A := X.A.in1) (n := n) hh hro (small_to n hn) (by rw [rangeSize_one]; split <;> omega) (Nat.le_trans hn (by decide)) fun h1 tk acc kp hacc => ?_)
  have I1 : Inv X pins σ H { s with heap := h1, toks := tk } := I.kept kp
  have hvl : acc.toList.length = n := by rw [Array.length_toList]; exact hacc.1
  have hv : ∀ (i : Nat) (x : Value), acc.toList[i]? = some x → ∃ t, x = .int i t := fun i x hx => by
    rw [Array.getElem?_toList] at hx
    obtain ⟨t, e⟩ := hacc.2 i x hx
    refine ⟨t, ?_⟩
    rw [e]
    congr 1
    omega
  refine wpAny_bind (wpAny_newList ?_ (by rw [hvl]; rw [sizeLine_eq]; omega))
  have hoL : (h1.push (seqObj "list" acc.toList.toArray 0)).get? h1.objs.size = some (seqObj "list" acc.toList.toArray 0) := Heap.get?_push_size _ rfl
  refine wpAny_bind (wpAny_holding (wpAny_call_entry_kw slot_list_sort ⟨_, hoL, rfl⟩ entry_list_sort ?_ (ksk_l1 _ _)))
  rw [ksk_t1]
  have s1b := Heap.SameBut.update (h1.push (seqObj "list" acc.toList.toArray 0)) h1.objs.size (Obj.mapSeq fun _ => (#[] : Array Value))
  obtain ⟨e1, ho1⟩ : ∃ e1, ((h1.push (seqObj "list" acc.toList.toArray 0)).update h1.objs.size (Obj.mapSeq fun _ => (#[] : Array Value))).get? h1.objs.size = some (seqObj "list" #[] e1) := ⟨_, get?_update_seq hoL fun _ => #[]⟩
  have kp2 : ∀ b o, h1.get? b = some o → ((h1.push (seqObj "list" acc.toList.toArray 0)).update h1.objs.size (Obj.mapSeq fun _ => (#[] : Array Value))).get? b = some o := fun b o q =>
    (s1b.2 b (Nat.ne_of_lt (Heap.lt_size q))).trans (Heap.get?_push_of_some _ q)
  have hkS : (((h1.push (seqObj "list" acc.toList.toArray 0)).update h1.objs.size (Obj.mapSeq fun _ => (#[] : Array Value))).push (seqObj "tuple" acc.toList.toArray 0)).objs.size = h1.objs.size + 2 := by
    rw [size_push', Heap.size_update, size_push']
  unfold ksk_tree
  refine wpAny_bind (listItems_at hoL rfl ?_)
  refine wpAny_bind (listUpdate_at hoL rfl ?_ (by rw [List.size_toArray, hvl, sizeLine_eq]; omega) (Nat.zero_le _))
  refine (wpAny_bind (seqEpoch_at ho1 rfl ?_))
  refine wpAny_bind (wpAny_newTuple ?_ (by show acc.toList.length ≤ _; rw [hvl, sizeLine_eq]; omega))
  refine (wpAny_bind (wpAny_newList ?_ (Nat.zero_le _)))
  refine wpAny_holding ?_
  have kp3 : ∀ b o, h1.get? b = some o → ((((h1.push (seqObj "list" acc.toList.toArray 0)).update h1.objs.size (Obj.mapSeq fun _ => (#[] : Array Value))).push (seqObj "tuple" acc.toList.toArray 0)).push (seqObj "list" #[] 0)).get? b = some o := fun b o q =>
    Heap.get?_push_of_some _ (Heap.get?_push_of_some _ (kp2 b o q))
  have I2 : Inv X pins σ H { s with heap := (((h1.push (seqObj "list" acc.toList.toArray 0)).update h1.objs.size (Obj.mapSeq fun _ => (#[] : Array Value))).push (seqObj "tuple" acc.toList.toArray 0)).push (seqObj "list" #[] 0), toks := tk } := I1.kept kp3
  have ma : Mine X pins h1.objs.size := mine_of I1 (Nat.le_refl _)
  have mk : Mine X pins (((h1.push (seqObj "list" acc.toList.toArray 0)).update h1.objs.size (Obj.mapSeq fun _ => (#[] : Array Value))).push (seqObj "tuple" acc.toList.toArray 0)).objs.size := mine_of I1 (by rw [hkS]; exact Nat.le_add_right _ _)
  have ka : (((h1.push (seqObj "list" acc.toList.toArray 0)).update h1.objs.size (Obj.mapSeq fun _ => (#[] : Array Value))).push (seqObj "tuple" acc.toList.toArray 0)).objs.size ≠ h1.objs.size := by
    rw [hkS]
    omega
  have hf1 : h1.get? f = some fo := kp f fo hf
  refine turns (n := n) (key := key) (fo := fo) hn hvl hv ma mk mf ka (by rw [hkS]; exact Nat.ne_of_lt (Nat.lt_of_lt_of_le (Heap.lt_size hf1) (Nat.le_add_right _ _))) call1
    ⟨I2, Same.refl H, kp3 _ _ hf1, hfn, Heap.get?_push_of_some _ (Heap.get?_push_of_some _ ho1), I1.hok.fresh (Nat.le_refl _), Heap.get?_push_size _ rfl, I1.hok.fresh (by rw [hkS]; exact Nat.le_add_right _ _), rfl, fun j t hj => by simp at hj⟩ fun s3 H3 ts e T => ?_
  refine ends_ hn hvl hv ma mk ka T fun s4 H4 out J sm ha o1 o2 => ⟨_, rfl, ?_⟩
  exact wpAny_pure ⟨_, rfl, h s4 H4 _ out J sm (I1.hok.fresh (Nat.le_refl _)) ha o1 o2⟩
/-- the reading of sorted(r, key=lambda k: body), r a range: js tells the slots that the lambda captures -/
def tSortR (T : List (Addr × Str)) (N1 : List Str) (js : List Nat) (ta : TA) (tb : TE) : TE := fun σ H Q => ta σ H fun vs H1 => ∃ (r : Addr) (n : Nat) (key : Nat → Int × Int), vs = [.ref r] ∧ H1 r = some (.rng 0 n) ∧ n ≤ 1000 ∧ Tabs T H1 ∧
  (∀ (i : Nat) (H2 : Hp), i < n → ExtN H1 H2 → Tabs T H2 → tb (startF N1 [.int i] (js.map (slotAt σ))) H2 fun v H3 => ∃ tp, v = .ref tp ∧ H3 tp = some (.tup [.int (key i).1, .int (key i).2]) ∧ Same H2 H3) ∧
  ∀ (H2 : Hp) (p : Addr) (out : List Nat), ExtN H1 H2 → Tabs T H2 → (∀ b o, H1 b = some o → (∀ ps, o ≠ .tbl ps) → b ≠ p) → H2 p = some (.lst (out.map fun i : Nat => V.int i)) → Srtd (ltk key) out → Stb (ltk key) out (List.range n) → Q (.ref p) H2
theorem pe_sortR {T : List (Addr × Str)} {N1 fr : List Str} {kn : Str} {js : List Nat} {c P : Addr} {k : Nat} {params : Arguments} {body e : Expr} {scope : Scope} {ta : TA} {tb : TE} {p1 lpos kpos pos : Pos}
    (gs : Gl X "sorted") (ms : X.mg "sorted" = none) (ha : PA X [e] ta)
    (TB : TabB X.base X.mg c P) (hcode : X.env.code = .ref c) (hmT : (P, X.env.qual ++ "<lambda>") ∈ T) (hu : ∀ p ∈ T, p.1 = P → p.2 = X.env.qual ++ "<lambda>") (hr : Room (k + 3) X.A) (S : NScope N1 [kn] fr scope)
    (hfree : ∀ y ∈ scope.names, y.2 = .free → X.env.scope.names.lookup y.1 = some .cell ∨ X.env.scope.names.lookup y.1 = some .free) (hfr : ∀ y ∈ fr, (y, NameKind.free) ∈ scope.names) (hjs : js.map (fun j => X.N[j]?) = fr.map some)
    (hdef : defaultsOf params X.env = ([], []))
    (hbind : ∀ (q : Str) (cl : List (Str × Addr)) (pm cv ctv u : Value), bindArgs (PySem.W.kla_fn "<lambda>" q params body scope cl pm cv ctv) ⟨[u], []⟩ = pure (([kn] : List Str).zip [u]))
    (hbody : ∀ (A : Around) (outer : List Env) (s : Shared) (H : Hp) (f c1 : Addr) (cl : List (Str × Addr)), Room k (A.deeper (envF ⟨"<lambda>", X.env.qual ++ "<lambda>", params, [], scope, cl, c1⟩ f s.heap.objs.size)) →
      PE (ncx L2.CX0 X.prog X.w X.K X.mg X.base N1 ⟨"<lambda>", X.env.qual ++ "<lambda>", params, [], scope, cl, c1⟩ f A outer s H L2.E0) body tb)
    (hst : backTo pos (starEach [e] X.env) = (false, eval e X.env) :: backTo pos (starEach [] X.env) := by rfl) (hpl : (backTo pos (starEach [e] X.env)).any (·.1) = false := by rfl) :
    PE X (.Call (.Name "sorted" p1) [e] [⟨some "key", .Lambda params body scope lpos, kpos⟩] pos) (tSortR T N1 js ta tb) := by
  refine (⟨fun pins s σ H Q I h => ?_⟩)
  refine wpAny_Call_Name_kw (ld_blt (u := .builtin "sorted") I gs ms (by decide +kernel) ?_)
  refine PyProof.Rows.callWith_kw (thn (ha.run pos pins s σ H _ I h) fun us s1 hq => ?_) hst hpl (by rfl) (by rfl)
  obtain ⟨vs, H1, I1, r1, r, n, key, rfl, hr1, hn, hT, hk, hout⟩ := hq
  obtain rfl := Vals.ref1 r1
  show wpAny _ _ (evalAll ((do let v ← eval (.Lambda params body scope lpos) X.env; standAt pos; pure v) :: [])) _ _ s1
  have hfre : ∀ y ∈ scope.names, y.2 = .free → ∃ c, X.env.cells.lookup y.1 = some c := fun y hy q => (hfree y hy q).elim (fun z => I.ok.has _ (.inl z)) fun z => I.ok.has _ (.inr z)
  refine wpAny_evalAll_cons (wpAny_bind (lam_make2 I1 TB hcode hmT hu hT hdef hfre fun f c1 pm ctv H2 s2 I2 eN T2 hf hfn hfs hco => wpAny_bind (wpAny_standAt (wpAny_pure ?_))))
  refine wpAny_evalAll_nil ?_
  have hr2 : H2 r = some (.rng 0 n) := eN _ _ hr1 (fun ps z => by cases z)
  show wpAny _ _ (call (.builtin "sorted") [.ref r] [(Str.ofString "key", .ref f)]) _ _ s2
  refine sorted_keyed (key := key) I2 hr.hd hr2 hn hf hfn hfs (fun i t s3 H3 hi I3 sm hf3 hfn3 => ?_) fun s3 H3 p out I3 sm hp hl o1 o2 => ?_
  · have T3 : Tabs T H3 := T2.ext sm
    have eN3 : ExtN H1 H3 := eN.trans (ExtN.of sm)
    have cap := cells_of I3 (Caps.made (fr := fr) (js := js) I3.ok hfree hfr hjs)
    have rc := lam_run (K := X.K) (mg := X.mg) (base := X.base) (vs := [.int i]) (E := L2.E0) S (hr.in1.in1) I3.env0.in1.in1 hf3 (sm _ _ hco) cap (.cons ⟨t, rfl⟩ .nil) rfl (hbind _ _ _ _ _ _) (fun q => hbody _ _ _ _ _ _ _ q) (hk i H3 hi eN3 T3)
    refine wpAny_call (codeAny_mono rc fun fl s4 hq => ?_)
    cases fl with
    | error z => exact hq.elim
    | ok fl =>
      cases fl with
      | ret u =>
        have hq2 : CE X.stack X.prog X.w H3 s3 _ u s4 := hq
        obtain ⟨v, H4, a1, a2, a3, a4, a5, tp, rfl, a6, a7⟩ := id hq2
        obtain rfl : u = Value.ref tp := a5
        obtain ⟨hh, g, d, t4, os4⟩ := s4
        obtain rfl : os4 = s3.os := a1
        exact ⟨H4, tp, rfl, I3.call (h' := hh) (g' := g) (d' := d) (t' := t4) (ch := []) a3 a4 a2 (fun b z => absurd z (by simp)), a7, a6, a3⟩
      | next => exact False.elim hq
      | brk => exact False.elim hq
      | cont => exact False.elim hq
  · exact ⟨.ref p, H3, I3, rfl, hout H3 p out (eN.trans (ExtN.of sm)) (T2.ext sm) (fun b o hb hnt => ne_of_none (eN b o hb hnt) hp) hl o1 o2⟩
end
end KeSort
end
section
set_option maxHeartbeats 4500000
namespace KeZip
open PySem PySem.Spec L2 PyProof.Rows
/-- three lists of one length as they stand at each turn, the items in new triples -/
def It3 (K : PySem.W.Frag) (a b c : Addr) : It :=
  ⟨fun i H => ∃ (xs ys zs : List V), SqL K H a xs ∧ SqL K H b ys ∧ SqL K H c zs ∧ i < xs.length ∧ i < ys.length ∧ i < zs.length,
    fun i H v H2 => ∃ T x y z, v = .ref T ∧ H T = none ∧ H2 = upd H T (.tup [x, y, z]) ∧ (∀ xs, SqL K H a xs → xs[i]? = some x) ∧ (∀ ys, SqL K H b ys → ys[i]? = some y) ∧ ∀ zs, SqL K H c zs → zs[i]? = some z,
    fun i H => ∃ xs ys zs : List V, SqL K H a xs ∧ SqL K H b ys ∧ SqL K H c zs ∧ xs.length = i ∧ ys.length = i ∧ zs.length = i⟩
theorem iter_at {h h2 : Heap} {i l : Addr} {k : Nat} (x : h.IsListIter i l k) (e : ∀ o, h.get? i = some o → h2.get? i = some o) : h2.IsListIter i l k := x.at e
theorem turn3 {P : Program} {w : World} {K : PySem.W.Frag} {elts : List Expr} {kk : Nat} {tpos : Pos} {a b c z TI TO i1 i2 i3 : Addr} (S : ZipSep3 z TI TO i1 i2 i3 [i1, a] [i2, b] [i3, c]) (na : a ≠ i1) (nb : b ≠ i2) (nc : c ≠ i3) :
    Turn P w K (.Tuple elts kk tpos) (It3 K a b c) [z, TI, TO, i1, i2, i3] z (fun i h => IsZip h z TI TO .none ∧ IsTupOf3 h TI (.ref i1) (.ref i2) (.ref i3) ∧ (∃ x y t, IsTupOf3 h TO x y t) ∧ h.IsListIter i1 a i ∧ h.IsListIter i2 b i ∧ h.IsListIter i3 c i) where
  mem := by simp
  obj := fun i h st d hd => by
    obtain ⟨hz, hTI, ⟨x, y, t, hTO⟩, ⟨o1, e1, _, d1⟩, ⟨o2, e2, _, d2⟩, ⟨o3, e3, _, d3⟩⟩ := st
    have e9 : d = z ∨ d = TI ∨ d = TO ∨ d = i1 ∨ d = i2 ∨ d = i3 := by simpa using hd
    rcases e9 with q | q | q | q | q | q
    · rw [(q)]; exact ⟨_, hz, fun v q => nomatch q⟩
    · rw [(q)]; exact ⟨_, hTI, fun v q => nomatch q⟩
    · rw [(q)]; exact ⟨_, hTO, fun v q => nomatch q⟩
    · rw [(q)]; exact ⟨o1, e1, fun v q => by rw [d1] at q; cases q⟩
    · rw [(q)]; exact ⟨o2, e2, fun v q => by rw [d2] at q; cases q⟩
    · rw [q]; exact ⟨o3, e3, fun v q => by rw [d3] at q; cases q⟩
  keep := fun i h h2 st k => by
    obtain ⟨hz, hTI, ⟨x, y, t, hTO⟩, h1, h3, h4⟩ := st
    exact ⟨k z (by simp) _ hz, k TI (by simp) _ hTI, ⟨x, y, t, k TO (by simp) _ hTO⟩, iter_at h1 fun o q => k i1 (by simp) o q, iter_at h3 fun o q => k i2 (by simp) o q, iter_at h4 fun o q => k i3 (by simp) o q⟩
  item := by
    intro X hP; intro hw hK hc i pins s σ H E I hf st hg
    subst hP hw hK
    obtain ⟨hz, hTI, ⟨x0, y0, t0, hTO⟩, h1, h2, h3⟩ := st
    obtain ⟨xs, ys, zs, hqx, hqy, hqz, hx, hy, hzz⟩ := hg
    obtain ⟨its, rv, p, _⟩ := (I.list hqx)
    obtain ⟨its2, rv2, p2, _⟩ := (I.list hqy)
    obtain ⟨its3, rv3, p3, _⟩ := I.list hqz
    have hh : X.A.in1.handled = none := I.ok.hd hc
    have l1 := rv.length
    have l2 := rv2.length
    have l3 := rv3.length
    have hzl : (z < s.heap.objs.size) := Heap.lt_size hz
    refine wpAny_pyNext_zipD3_item S (Draws.list hh i1 a na its.toArray) (Draws.list hh i2 b nb its2.toArray) (Draws.list hh i3 c nc its3.toArray) hz hTI hTO ⟨h1, p.isList⟩ ⟨h2, p2.isList⟩ ⟨h3, p3.isList⟩ (by simp; omega) (by simp; omega) (by simp; omega)
      fun u1 u2 u3 h' tk y1 y2 y3 b1 b2 d1 d2 d3 b5 b6 hk => ?_
    refine ⟨_, rfl, wpAny_letOwnedTupleGo_zip (s := { s with heap := h', toks := tk }) b1 fun h'' z'' sb => ?_⟩
    have r1 : ∃ x, xs[i]? = some x ∧ RelV x u1 := by
      obtain ⟨u, hu, ru⟩ := rv.get (List.getElem?_eq_getElem hx)
      have e : u = u1 := by
        have y1' : its[i]? = some u1 := by simpa using y1
        rw [hu] at y1'
        exact Option.some.inj y1'
      subst e
      exact ⟨_, List.getElem?_eq_getElem hx, ru⟩
    have r2 : ∃ x, ys[i]? = some x ∧ RelV x u2 := by
      obtain ⟨u, hu, ru⟩ := rv2.get (List.getElem?_eq_getElem hy)
      have e : u = u2 := by
        have y2' : its2[i]? = some u2 := by simpa using y2
        rw [hu] at y2'
        exact Option.some.inj y2'
      subst e
      exact ⟨_, List.getElem?_eq_getElem hy, ru⟩
    have r3 : ∃ x, zs[i]? = some x ∧ RelV x u3 := by
      obtain ⟨u, hu, ru⟩ := rv3.get (List.getElem?_eq_getElem hzz)
      have e : u = u3 := by
        have y3' : its3[i]? = some u3 := by simpa using y3
        rw [hu] at y3'
        exact Option.some.inj y3'
      subst e
      exact ⟨_, List.getElem?_eq_getElem hzz, ru⟩
    obtain ⟨x, ex, rx⟩ := r1
    obtain ⟨y, ey, ry⟩ := r2
    obtain ⟨t, et, rt⟩ := r3
    have hT2 : h''.get? s.heap.objs.size = some { cls := .type "tuple", data := .seq #[u1, u2, u3] } := (sb.2 _ (Nat.ne_of_gt hzl)).trans b5
    have new : ObjOk X.prog X.w (upd H s.heap.objs.size (.tup [x, y, t])) h'' s.heap.objs.size (.tup [x, y, t]) :=
      ⟨by show 3 ≤ sizeLine; decide, [u1, u2, u3], .cons rx (.cons ry (.cons rt .nil)), ⟨_, hT2, rfl, _, rfl⟩⟩
    have I1 : Inv X pins σ (upd H s.heap.objs.size (.tup [x, y, t])) { s with heap := h'', toks := tk } :=
      I.turnedNew (t' := tk) (ch := [z, TI, TO, i1, i2, i3]) (fun d o hb q => (sb.2 d (fun q2 => hb (by simp [q2]))).trans (hk d o (fun q2 => hb (by simp [q2])) (fun q2 => hb (by simp [q2])) (fun q2 => hb (by simp [q2])) (fun q2 => hb (by simp [q2])) (fun q2 => hb (by simp [q2])) q)) hf (Nat.le_refl _) new
    refine ⟨.ref s.heap.objs.size, _, I1, rfl, ⟨_, x, y, t, rfl, I.hok.fresh (Nat.le_refl _), rfl, fun l hl => by rw [I.list_inj hl hqx]; exact ex, fun l hl => by rw [I.list_inj hl hqy]; exact ey, fun l hl => by rw [I.list_inj hl hqz]; exact et⟩, ⟨z'', ?_, ⟨u1, u2, u3, ?_⟩, ?_, ?_, ?_⟩, fun d hcm => ?_⟩
    · exact (sb.2 _ S.TIz).trans (hk _ _ S.TIz S.TITO S.TIi1 S.TIi2 S.TIi3 hTI)
    · exact (sb.2 _ S.TOz).trans b2
    · exact iter_at d1.1 fun o q => (sb.2 _ (Ne.symm S.zi1)).trans q
    · exact iter_at d2.1 fun o q => (sb.2 _ (Ne.symm S.zi2)).trans q
    · exact iter_at d3.1 fun o q => (sb.2 _ (Ne.symm S.zi3)).trans q
    · have hlt : d < s.heap.objs.size := by
        have e9 : d = z ∨ d = TI ∨ d = TO ∨ d = i1 ∨ d = i2 ∨ d = i3 := by simpa using hcm
        rcases e9 with q | q | q | q | q | q
        · rw [q]; exact hzl
        · rw [(q)]; exact Heap.lt_size hTI
        · rw [(q)]; exact Heap.lt_size hTO
        · rw [(q)]; obtain ⟨_, e1, _⟩ := h1; exact Heap.lt_size e1
        · rw [(q)]; obtain ⟨_, e2, _⟩ := h2; exact Heap.lt_size e2
        · rw [q]; obtain ⟨_, e3, _⟩ := h3; exact Heap.lt_size e3
      rw [(upd_ne (Nat.ne_of_lt hlt))]
      exact (hf d hcm).1
  done := by
    intro X hP; intro hw hK hc i pins s σ H E I hf st hg
    subst hP hw hK
    obtain ⟨hz, hTI, ⟨x0, y0, t0, hTO⟩, h1, h2, h3⟩ := st
    obtain ⟨xs, ys, zs, hqx, hqy, hqz, hx, hy, hzz⟩ := hg
    obtain ⟨its, rv, p, _⟩ := (I.list hqx)
    obtain ⟨its2, rv2, p2, _⟩ := (I.list hqy)
    obtain ⟨its3, rv3, p3, _⟩ := I.list hqz
    have hh : X.A.in1.handled = none := I.ok.hd hc
    have l1 := rv.length
    have l2 := rv2.length
    have l3 := rv3.length
    exact wpAny_pyNext_zipD3_end S (Draws.list hh i1 a na its.toArray) (Draws.list hh i2 b nb its2.toArray) (Draws.list hh i3 c nc its3.toArray) hz hTI hTO ⟨h1, p.isList⟩ ⟨h2, p2.isList⟩ ⟨h3, p3.isList⟩ (by simp; omega) (by simp; omega) (by simp; omega) (by simp; omega)
      fun h' tk hk => ⟨rfl, I.turnedL (t' := tk) (ch := [z, TI, TO, i1, i2, i3]) (fun d o hb q => hk d o (fun q2 => hb (by simp [q2])) (fun q2 => hb (by simp [q2])) (fun q2 => hb (by simp [q2])) (fun q2 => hb (by simp [q2])) (fun q2 => hb (by simp [q2])) q) hf⟩
  self := fun _ _ _ _ _ st h => wpAny_pyIter_zip st.1 h
theorem sep_of (n a b c : Nat) (la : a < n) (lb : b < n) (lc : c < n) : ZipSep3 (n + 5) (n + 3) (n + 4) n (n + 1) (n + 2) [n, a] [n + 1, b] [n + 2, c] := by
  constructor <;> first | (simp; done) | (change ¬ @Eq Nat _ _; omega) | (simp; change ¬ @Eq Nat _ _; omega)
def iZip3 (K : PySem.W.Frag) (ta : TA) : TI := fun σ H R => ta σ H fun vs H1 => ∃ a b c xs ys zs, vs = [.ref a, .ref b, .ref c] ∧ SqL K H1 a xs ∧ SqL K H1 b ys ∧ SqL K H1 c zs ∧ R (It3 K a b c) H1
theorem pi_zip3 {X : Cx} {e e2 e3 : Expr} {ta : TA} {p pos tpos : Pos} {elts : List Expr} {kk : Nat} (hg : Gl X "zip") (hm : X.mg "zip" = none) (ha : PA X [e, e2, e3] ta)
    (hs : starEach [e, e2, e3] X.env = (false, eval e X.env) :: starEach [e2, e3] X.env := by rfl) (hpl : (backTo pos (starEach [e2, e3] X.env)).any (·.1) = false := by rfl) :
    PI X (.Tuple elts kk tpos) (.Call (.Name "zip" p) [e, e2, e3] [] pos) (iZip3 X.K ta) := by
  refine (⟨fun pins s σ H R I h => ?_⟩)
  refine Call_ (ld_blt I hg hm PyProof.Rows.boot_zip (PyProof.Rows.callWith_type1 (thn (ha.run pos pins s σ H _ I h) fun us s1 hq => ?_) hs hpl))
  obtain ⟨vs, H1, I1, r1, a, b, c, xs, ys, zs, rfl, hqx, hqy, hqz, q⟩ := hq
  cases r1 with
  | cons ra rr =>
    cases rr with
    | cons rb rr =>
      cases rr with
      | cons rc rr =>
        cases rr
        cases ra
        cases rb
        cases rc
        obtain ⟨its, rv, p1, _⟩ := (I1.list hqx)
        obtain ⟨its2, rv2, p2, _⟩ := (I1.list hqy)
        obtain ⟨its3, rv3, p3, _⟩ := I1.list hqz
        have la : (a < s1.heap.objs.size) := p1.lt
        have lb : (b < s1.heap.objs.size) := p2.lt
        have lc : c < s1.heap.objs.size := p3.lt
        refine zip_begins3 (begins_list a its.toArray) (begins_list b its2.toArray) (begins_list c its3.toArray) p1.isList p2.isList p3.isList fun h2 hz hTI hTO h3 h4 h5 hsz hk => wpAny_pyIter_zip hz ?_
        have I2 : Inv X pins σ H1 { s1 with heap := h2 } := I1.kept (t' := s1.toks) hk
        have sep := sep_of s1.heap.objs.size a b c la lb lc
        refine ⟨s1.heap.objs.size + 5, [s1.heap.objs.size + 5, s1.heap.objs.size + 3, s1.heap.objs.size + 4, s1.heap.objs.size, s1.heap.objs.size + 1, s1.heap.objs.size + 2], _, _, H1, rfl, I2, turn3 sep (Nat.ne_of_lt la) (Nat.ne_of_lt (Nat.lt_succ_of_lt lb)) (Nat.ne_of_lt (Nat.lt_succ_of_lt (Nat.lt_succ_of_lt lc))), ⟨hz, hTI, ⟨_, _, _, hTO⟩, ⟨_, h3, rfl, rfl⟩, ⟨_, h4, rfl, rfl⟩, ⟨_, h5, rfl, rfl⟩⟩, fun d hd => ?_, q⟩
        have hle : s1.heap.objs.size ≤ d := by
          simp only [List.mem_cons, List.not_mem_nil, or_false] at hd
          rcases hd with e | e | e | e | e | e <;> rw [e] <;> first | exact Nat.le_refl _ | exact Nat.le_add_right _ _
        exact (I1.fpOk hle (I1.hok.fresh hle))
/-- a for over three lists of one length -/
theorem walk3 {K : PySem.W.Frag} {a b c : Addr} {xs ys zs : List V} {n : Nat} (h1 : xs.length = n) (h2 : ys.length = n) (h3 : zs.length = n) :
    Walk (It3 K a b c) n (fun H => SqL K H a xs ∧ SqL K H b ys ∧ SqL K H c zs) (fun i H v H2 => ∃ T x y z, v = .ref T ∧ H T = none ∧ H2 = upd H T (.tup [x, y, z]) ∧ xs[i]? = some x ∧ ys[i]? = some y ∧ zs[i]? = some z) :=
  ⟨fun i H hi q => ⟨xs, ys, zs, q.1, q.2.1, q.2.2, by omega, by omega, by omega⟩, fun H q => ⟨xs, ys, zs, q.1, q.2.1, q.2.2, h1, h2, h3⟩,
    fun i H v H2 hi q ⟨T, x, y, z, e1, e2, e3, e4, e5, e6⟩ => ⟨T, x, y, z, e1, e2, e3, e4 xs q.1, e5 ys q.2.1, e6 zs q.2.2⟩⟩
end KeZip
end
section
set_option maxHeartbeats 4500000
namespace Ke
open PySem PySem.Spec L2 LamX PyProof.Rows
/-! ### the defs as the top leaves them -/
abbrev FnP (K : PySem.W.Frag) (x q : Str) (st : Stmt) (f : Addr) (fd : FuncData) : Prop := FunD K x q (defArgs st) (defBody st) (defScope st) [] [] f fd
def DefG (K : PySem.W.Frag) (mg : Str → Option Value) (x : Str) (st : Stmt) : Prop := ∃ f fd, mg x = some (.ref f) ∧ FnP K x x st f fd
def MetG (K : PySem.W.Frag) (C : Addr) (m q : Str) (st : Stmt) : Prop := ∃ f fd, Meth K C m f ∧ FnP K m q st f fd
def MakG (K : PySem.W.Frag) (mg : Str → Option Value) (x : Str) (C : Addr) (q : Str) (st : Stmt) : Prop := ∃ f fd, mg x = some (.ref C) ∧ Mk K C f ∧ FnP K "__init__" q st f fd
/-- a def whose code object stands at c -/
def DefT (K : PySem.W.Frag) (mg : Str → Option Value) (x : Str) (st : Stmt) (c : Addr) : Prop := ∃ (f : Addr) (oc kV doc pm ct : Value) (od an : Option Addr) (osl : Array (Option Value)), mg x = some (.ref f) ∧
  K.lookup f = some ⟨oc, od, .func (PySem.W.fnOf x x (defArgs st) (defBody st) (defScope st) .none kV doc pm an (.ref c) ct), osl⟩ ∧ PySem.W.codeIn K (.ref c) x = true ∧ PySem.W.keepIn K (.ref f) = true
abbrev BindH (x q : Str) (st : Stmt) (ps : List Str) : Prop := ∀ (kV doc pm : Value) (an : Option Addr) (cdv ct : Value) (us : List Value), us.length = ps.length → bindArgs (PySem.W.fnOf x q (defArgs st) (defBody st) (defScope st) .none kV doc pm an cdv ct) ⟨us, []⟩ = pure (ps.zip us)
section
variable {K : PySem.W.Frag} {mg : Str → Option Value} {P : Program} {w : World} {base : Heap}
abbrev BodyH (P : Program) (w : World) (K : PySem.W.Frag) (mg : Str → Option Value) (base : Heap) (N : List Str) (q : Str) (st : Stmt) (k : Nat) (sp : Sp) : Prop :=
  ∀ (f : Addr) (cdv : Value) (A : Around) (outer : List Env) (s : Shared) (H : Hp) (vs : List V) (Q : VK) (E : XK), Room k (A.deeper (envOfC q (defScope st) s.heap.objs.size f cdv)) → sp vs H Q E →
    ∃ t, PSs (cxOf C8.CX0 P w K mg base N q (defScope st) f cdv A outer s H E).nox (defBody st) t ∧ t { nx := fun _ H2 => Q .non H2, rt := Q } (start N vs) H
theorem cal_of {x : Str} {st : Stmt} {N ps : List Str} {k : Nat} {sp : Sp} (D : DefG K mg x st) (S : FnScope N ps (defScope st)) (hb : BindH x x st ps) (len : ∀ vs H Q E, sp vs H Q E → vs.length = ps.length)
    (hbody : BodyH P w K mg base N x st k sp) : C8.Cal P w K mg base (k + 1) x sp [] := by
  obtain ⟨f, fd, g, F⟩ := D
  refine ⟨f, fd, ps, [], F.ok S len (fun cdv A outer s H vs Q E hr h => ?_), g, F.kp, F.bindsN hb, .nil⟩
  obtain ⟨t, h1, h2⟩ := hbody f cdv A outer s H vs Q E hr h
  exact ⟨t, h1.nox, h2⟩
theorem met_of {m q : Str} {C : Addr} {st : Stmt} {N ps : List Str} {k : Nat} {sp : Sp} (c : Cls K C) (D : MetG K C m q st) (S : FnScope N ps (defScope st)) (hb : BindH m q st ps) (len : ∀ vs H Q E, sp vs H Q E → vs.length = ps.length)
    (hbody : BodyH P w K mg base N q st k sp) : C8.Met P w K mg base (k + 1) C m sp [] := by
  obtain ⟨f, fd, g, F⟩ := D
  refine ⟨f, fd, ps, [], c, g, F.ok S len (fun cdv A outer s H vs Q E hr h => ?_), F.bindsN hb, .nil⟩
  obtain ⟨t, h1, h2⟩ := hbody f cdv A outer s H vs Q E hr h
  exact ⟨t, h1.nox, h2⟩
theorem mak_of {x q : Str} {C : Addr} {st : Stmt} {N ps : List Str} {k : Nat} {sp : Sp} (D : MakG K mg x C q st) (S : FnScope N ps (defScope st)) (hb : BindH "__init__" q st ps) (len : ∀ vs H Q E, sp vs H Q E → vs.length = ps.length)
    (hbody : BodyH P w K mg base N q st k sp) : C8.Mak P w K mg base (k + 1) x C sp [] := by
  obtain ⟨f, fd, g, M, F⟩ := D
  refine ⟨f, fd, ps, [], M, F.ok S len (fun cdv A outer s H vs Q E hr h => ?_), g, F.bindsN hb, .nil⟩
  obtain ⟨t, h1, h2⟩ := hbody f cdv A outer s H vs Q E hr h
  exact ⟨t, h1.nox, h2⟩
/-- the def that the name stands for, as a value that is called -/
theorem held_of {x : Str} {k : Nat} {sp : Sp} {f : Addr} (c : C8.Cal P w K mg base k x sp []) (g : mg x = some (.ref f)) : Held P w K mg base k f sp := by
  obtain ⟨f2, fd, ps, ds, F, g2, kp, b, d⟩ := c.ex
  cases g.symm.trans g2
  cases d
  exact ⟨fd, ps, F, kp, b⟩
end
/-! ### a local name that holds a def, called -/
def tCallH (Hd : Addr → Sp → Prop) (i : Nat) (t : TA) : TE := fun σ H Q => ∃ f sp, σ[i]? = some (some (.ref f)) ∧ Hd f sp ∧ t σ H fun vs H1 => sp vs H1 Q (fun _ _ _ => False)
theorem pe_callH {X : Cx} {k i : Nat} {x : Str} {p pos : Pos} {e : Expr} {es : List Expr} {t : TA} (hr : Room k X.A) (hN : X.N[i]? = some x) (hv : Vis X.env.scope x) (ha : PA X (e :: es) t)
    (hdb : ((x == ("__debug__" : Str)) = false) := by decide) (hcd : ((x == ("__classdict__" : Str)) = false) := by decide)
    (he : (starEach (e :: es) X.env = (false, eval e X.env) :: starEach es X.env) := by rfl) (hpl : ((backTo pos (starEach es X.env)).any (·.1) = false) := by rfl) :
    PE X (.Call (.Name x p) (e :: es) [] pos) (tCallH (Held X.prog X.w X.K X.mg X.base k) i t) := by
  refine (⟨fun pins s σ H Q I h => ?_⟩)
  obtain ⟨f, sp, h1, h2, h3⟩ := h
  exact (pe_callA (S := fun g => if g = f then some sp else none) (fun g sp2 hg => by
    by_cases z : g = f
    · simp only [z, if_true, Option.some.injEq] at hg
      rw [z, ← hg]
      exact h2
    · simp only [z, if_false] at hg
      cases hg) hr hN hv ha hdb hcd he hpl).run pins s σ H Q I ⟨f, sp, h1, by simp, h3⟩
/-! ### a written dict of defs by numbers -/
inductive WEs (mg : Str → Option Value) : List DictEntry → List (Int × Str) → Prop
  | nil : WEs mg [] []
  | cons {e : DictEntry} {k : Int} {n : Str} {f : Addr} {es : List DictEntry} {rs : List (Int × Str)} : e.hash = hashInt k → Value.isInt k e.key = true → e.val = .ref f → mg n = some (.ref f) → WEs mg es rs → WEs mg (e :: es) ((k, n) :: rs)
structure WD (K : PySem.W.Frag) (mg : Str → Option Value) (d : Addr) (rows : List (Int × Str)) : Prop where
  ex : ∃ es ep, K.lookup d = some ⟨.type "dict", none, .dict es ep, #[]⟩ ∧ WEs mg es.toList rows
  nd : (rows.map (·.1)).Nodup
  ns : (d == sysModules) = false
section
variable {X : Cx} {d : Addr} {rows : List (Int × Str)}
theorem wes_pairs {P : Program} {w : World} {mg : Str → Option Value} : ∀ {es : List DictEntry} {rs : List (Int × Str)}, WEs mg es rs → (∀ e ∈ es, ∃ k, (mixKind P w).is k e.key = true ∧ e.hash = (mixKind P w).hash k) ∧
    ∃ kvs : List (Key × Value), Pairs (mixKind P w) es kvs ∧ kvs.map (·.1) = rs.map (fun r => Sum.inl r.1) ∧ ∀ k n, rs.lookup k = some n → ∃ f, mg n = some (.ref f) ∧ valueAt kvs (Sum.inl k) = some (.ref f)
  | _, _, .nil => ⟨fun e he => by simp at he, [], .nil, rfl, fun k n h => by simp at h⟩
  | _, _, .cons (e := e) (k := k) (n := n) (f := f) (es := es) (rs := rs) h1 h2 h3 h4 h5 => by
    obtain ⟨a1, kvs, a2, a3, a4⟩ := wes_pairs (P := P) (w := w) h5
    refine ⟨fun e2 he => ?_, (Sum.inl k, .ref f) :: kvs, .cons h2 h3 a2, by simp [a3], fun k2 n2 hl => ?_⟩
    · rcases List.mem_cons.mp he with z | z
      · rw [z]
        exact ⟨Sum.inl k, h2, h1⟩
      · exact a1 e2 z
    · by_cases z : k2 = k
      · subst z
        simp only [Option.some.injEq, List.lookup, beq_self_eq_true] at hl
        rw [← hl]
        exact ⟨f, h4, by simp [valueAt]⟩
      · have z2 : (k2 == k) = false := beq_eq_false_iff_ne.mpr z
        simp only [List.lookup, z2] at hl
        obtain ⟨g, b1, b2⟩ := a4 k2 n2 hl
        refine ⟨g, b1, ?_⟩
        have z3 : ¬ (Sum.inl k : Key) = Sum.inl k2 := fun q => z (Sum.inl.inj q).symm
        unfold valueAt at b2 ⊢
        rw [List.find?_cons_of_neg (by simpa using z3)]
        exact b2
theorem wd_of {pins : List (Addr × Obj)} {σ : L2.St} {H : Hp} {s : Shared} (t : WD X.K X.mg d rows) (I : Inv X pins σ H s) : ∃ kvs : List (Key × Value), s.heap.DictOf (mixKind X.prog X.w) d kvs ∧ kvs.map (·.1) = rows.map (fun r => Sum.inl r.1) ∧
    ∀ k n, rows.lookup k = some n → ∃ f, X.mg n = some (.ref f) ∧ valueAt kvs (Sum.inl k) = some (.ref f) := by
  obtain ⟨es, ep, lk, hw⟩ := t.ex
  obtain ⟨a1, kvs, a2, a3, a4⟩ := wes_pairs (P := X.prog) (w := X.w) hw
  refine ⟨kvs, ⟨_, es, ep, I.kIn _ _ lk, ⟨rfl, rfl, rfl⟩, rfl, fun e he => a1 e (by simpa using he), a2, ?_⟩, a3, a4⟩
  rw [a3]
  have nd := t.nd
  have e : rows.map (fun r => (Sum.inl r.1 : Key)) = (rows.map (·.1)).map Sum.inl := by simp
  rw [e]
  exact List.Pairwise.map _ (fun a b h q => h (Sum.inl.inj q)) nd
theorem at_none {kvs : List (Key × Value)} {rs : List (Int × Str)} {k : Int} (e : kvs.map (·.1) = rs.map (fun r => Sum.inl r.1)) (h : rs.lookup k = none) : valueAt kvs (Sum.inl k) = none := by
  unfold valueAt
  rw [Option.map_eq_none_iff, List.find?_eq_none]
  intro kv hm
  have h1 : kv.1 ∈ rs.map (fun r => (Sum.inl r.1 : Key)) := by
    rw [← e]
    exact List.mem_map.mpr ⟨kv, hm, rfl⟩
  obtain ⟨r, hr, er⟩ := List.mem_map.mp h1
  simp only [decide_eq_true_eq]
  intro q
  have e2 : r.1 = k := Sum.inl.inj (er.trans q)
  have := List.lookup_eq_none_iff.mp h r hr
  rw [e2] at this
  simp at this
theorem op_inW (t : WD X.K X.mg d rows) : OpR X (compareOp .In) (fun x y H Q => ∃ k : Int, x = .int k ∧ y = .ref d ∧ Q (.bl (rows.lookup k).isSome) H) := by
  intro pins s; intro σ H x y v u Q I rx ry h
  obtain ⟨k, rfl, rfl, q⟩ := h
  obtain rfl : u = Value.ref d := ry
  obtain ⟨kvs, hd, e, hv⟩ := wd_of t I
  refine wpAny_in_of (kV_is (k := Sum.inl k) rx) t.ns hd.mapOf ?_
  have z : (valueAt kvs (Sum.inl k)).isSome = (rows.lookup k).isSome := by
    cases l : rows.lookup k with
    | none => rw [at_none e l]; rfl
    | some n =>
      obtain ⟨f, _, b⟩ := hv k n l
      rw [b]; rfl
  rw [z]
  exact ⟨.bl (rows.lookup k).isSome, H, I.tok _, rfl, q⟩
theorem op_notInW (t : WD X.K X.mg d rows) : OpR X (compareOp .NotIn) (fun x y H Q => ∃ k : Int, x = .int k ∧ y = .ref d ∧ Q (.bl (!(rows.lookup k).isSome)) H) := by
  intro pins s; intro σ H x y v u Q I rx ry h
  obtain ⟨k, rfl, rfl, q⟩ := h
  obtain rfl : u = Value.ref d := ry
  obtain ⟨kvs, hd, e, hv⟩ := wd_of t I
  refine wpAny_notIn_of (kV_is (k := Sum.inl k) rx) t.ns hd.mapOf ?_
  have z : (valueAt kvs (Sum.inl k)).isSome = (rows.lookup k).isSome := by
    cases l : rows.lookup k with
    | none => rw [at_none e l]; rfl
    | some n =>
      obtain ⟨f, _, b⟩ := hv k n l
      rw [b]; rfl
  rw [z]
  exact ⟨.bl (!(rows.lookup k).isSome), H, I.tok _, rfl, q⟩
theorem ix_W (t : WD X.K X.mg d rows) : IxR X (fun x y H Q => ∃ (k : Int) (n : Str), x = .ref d ∧ y = .int k ∧ rows.lookup k = some n ∧ ∀ f, X.mg n = some (.ref f) → Q (.ref f) H) := by
  intro value slice; intro pins s σ H x y v u Q I rx ry h hs
  obtain ⟨k, n, rfl, rfl, l, q⟩ := h
  obtain rfl : v = Value.ref d := rx
  obtain ⟨kvs, hd, e, hv⟩ := wd_of t I
  obtain ⟨f, g, b⟩ := hv k n l
  exact tail_any hd.typeIs slot_dict_getitem.lookup (wpAny_getItem_of (kV_is (k := Sum.inl k) ry) hd.mapOf b ⟨.ref f, H, I.tok _, rfl, q f g⟩) hs
end
/-! ### the text by places -/
def top (i : Nat) : Stmt := PySem.Challenge.pw_keyeditor_s01_answers.main.body.getD i (.Pass ⟨0, 0, 0, 0⟩)
abbrev s_caret : Stmt := top 16
abbrev s_spanning : Stmt := top 17
abbrev s_touches : Stmt := top 18
abbrev s_made_one : Stmt := top 19
abbrev s_tidied : Stmt := top 20
abbrev s_carried_selections : Stmt := top 21
abbrev s_line_begin : Stmt := top 24
abbrev s_line_end : Stmt := top 25
abbrev s_is_great_letter : Stmt := top 26
abbrev s_is_small_letter : Stmt := top 27
abbrev s_is_digit : Stmt := top 28
abbrev s_is_word_byte : Stmt := top 29
abbrev s_with_case_swapped : Stmt := top 30
abbrev s_first_place : Stmt := top 31
abbrev s_all_places : Stmt := top 32
abbrev s_length_after : Stmt := top 33
abbrev s_text_after : Stmt := top 34
abbrev s_begins_after : Stmt := top 35
abbrev s_alike_ahead : Stmt := top 36
abbrev s_alike_behind : Stmt := top 37
abbrev s_step_left : Stmt := top 40
abbrev s_step_right : Stmt := top 41
abbrev s_step_down : Stmt := top 42
abbrev s_step_up : Stmt := top 43
abbrev s_step_word_on : Stmt := top 44
abbrev s_step_word_back : Stmt := top 45
abbrev s_place_after : Stmt := top 48
abbrev s_hands_after : Stmt := top 49
abbrev s_move_carets : Stmt := top 50
abbrev s_move_hands : Stmt := top 51
abbrev s_whole_lines : Stmt := top 52
abbrev s_choose_lines : Stmt := top 53
abbrev s_choose_whole_text : Stmt := top 54
abbrev s_choose_hands : Stmt := top 55
abbrev s_choose_main_alone : Stmt := top 56
abbrev s_choose_next_main : Stmt := top 57
abbrev s_keep_aside : Stmt := top 58
abbrev s_choose_kept : Stmt := top 59
abbrev s_do_choosing : Stmt := top 61
abbrev s_exchange_at_all : Stmt := top 63
abbrev s_bytes_of_each : Stmt := top 64
abbrev s_exchanges_of_each : Stmt := top 65
abbrev s_exchange_for_as_many : Stmt := top 66
abbrev s_copy_pieces : Stmt := top 67
abbrev s_take_out : Stmt := top 68
abbrev s_puts_for_each : Stmt := top 69
abbrev s_put_pieces_at : Stmt := top 70
abbrev s_put_pieces_behind : Stmt := top 71
abbrev s_put_pieces_ahead : Stmt := top 72
abbrev s_swap_case : Stmt := top 73
abbrev s_select_carets : Stmt := top 74
abbrev s_select_begins : Stmt := top 75
abbrev s_select_ends : Stmt := top 76
abbrev s_put_in_byte : Stmt := top 77
abbrev s_take_out_bytes_ahead : Stmt := top 78
abbrev s_insert_at_begins : Stmt := top 79
abbrev s_insert_at_ends : Stmt := top 80
abbrev s_insert_instead : Stmt := top 81
abbrev s_insert_on_new_line : Stmt := top 82
abbrev s_ask_for_byte : Stmt := top 83
abbrev s_do_editing : Stmt := top 86
abbrev s_begin_edit : Stmt := top 87
abbrev s_do_insert_key : Stmt := top 88
abbrev s_do_byte_of_r : Stmt := top 89
abbrev s_matches_in : Stmt := top 91
abbrev s_pieces_between : Stmt := top 92
abbrev s_select_found : Stmt := top 93
abbrev s_choose_matches : Stmt := top 94
abbrev s_choose_pieces_between : Stmt := top 95
abbrev s_place_of_searched : Stmt := top 96
abbrev s_found_of_searched : Stmt := top 97
abbrev s_choose_found : Stmt := top 98
abbrev s_add_found : Stmt := top 99
abbrev s_search : Stmt := top 100
abbrev s_do_finding : Stmt := top 103
abbrev s_begin_prompt : Stmt := top 104
abbrev s_answer_prompt : Stmt := top 105
abbrev s_do_prompt_key : Stmt := top 106
abbrev s_undo : Stmt := top 110
abbrev s_redo : Stmt := top 111
abbrev s_let_come : Stmt := top 112
abbrev s_play_last_change : Stmt := top 113
abbrev s_play_macro : Stmt := top 114
abbrev s_is_digit_of_count : Stmt := top 116
abbrev s_begin_longer_command : Stmt := top 117
abbrev s_do_whole_command : Stmt := top 118
abbrev s_do_normal_key : Stmt := top 119
abbrev s_do_key : Stmt := top 120
abbrev s_switch_recording : Stmt := top 121
abbrev s_do_with_what_comes : Stmt := top 122
abbrev s_press : Stmt := top 123
abbrev s_is_refused : Stmt := top 130
abbrev s_counted : Stmt := top 131
abbrev s_places_of : Stmt := top 132
abbrev s_answer_of_selected : Stmt := top 133
abbrev s_answer_of_keys : Stmt := top 134
abbrev s_answer_of_shows : Stmt := top 135
abbrev s_answer_of_selections : Stmt := top 136
abbrev s_answer_of_registers : Stmt := top 137
abbrev s_answer_of_macro : Stmt := top 138
abbrev s_answer_of_steps : Stmt := top 139
abbrev s_answer_of : Stmt := top 141
abbrev s_calls_in : Stmt := top 142
abbrev s_answers : Stmt := top 143
abbrev s_Selection_init : Stmt := inClass (top 14) 0
abbrev s_Selection_begin : Stmt := inClass (top 14) 1
abbrev s_Selection_end : Stmt := inClass (top 14) 2
abbrev s_Selection_is_caret : Stmt := inClass (top 14) 3
abbrev s_Selection_looks_left : Stmt := inClass (top 14) 4
abbrev s_Selections_init : Stmt := inClass (top 15) 0
abbrev s_Selections_main_one : Stmt := inClass (top 15) 1
abbrev s_Carrier_init : Stmt := inClass (top 38) 0
abbrev s_Carrier_carried : Stmt := inClass (top 38) 1
abbrev s_Moment_init : Stmt := inClass (top 125) 0
abbrev s_Editor_init : Stmt := inClass (top 126) 0
abbrev s_Editor_now : Stmt := inClass (top 126) 1
abbrev s_Editor_times : Stmt := inClass (top 126) 2
abbrev s_Editor_select : Stmt := inClass (top 126) 3
abbrev s_Editor_become : Stmt := inClass (top 126) 4
abbrev s_Editor_go_back_to : Stmt := inClass (top 126) 5
abbrev s_Editor_add_to_command : Stmt := inClass (top 126) 6
abbrev s_Editor_end_command : Stmt := inClass (top 126) 7
abbrev s_Editor_end_command_as_step : Stmt := inClass (top 126) 8
abbrev N_caret : List Str := ["place"]
theorem sc_caret : FnScope N_caret ["place"] (defScope s_caret) := ⟨rfl, rfl, rfl, by decide +kernel, rfl, by decide +kernel, by decide +kernel⟩
abbrev N_spanning : List Str := ["begin", "end", "looks_left"]
theorem sc_spanning : FnScope N_spanning ["begin", "end", "looks_left"] (defScope s_spanning) := ⟨rfl, rfl, rfl, by decide +kernel, rfl, by decide +kernel, by decide +kernel⟩
abbrev N_touches : List Str := ["first", "second"]
theorem sc_touches : FnScope N_touches ["first", "second"] (defScope s_touches) := ⟨rfl, rfl, rfl, by decide +kernel, rfl, by decide +kernel, by decide +kernel⟩
abbrev N_made_one : List Str := ["first", "second", "second_is_main", "looking"]
theorem sc_made_one : FnScope N_made_one ["first", "second", "second_is_main"] (defScope s_made_one) := ⟨rfl, rfl, rfl, by decide +kernel, rfl, by decide +kernel, by decide +kernel⟩
abbrev N_tidied : List Str := ["each", "main", "order", "apart", "new_main", "k"]
theorem sc_tidied : FnScope N_tidied ["each", "main"] (defScope s_tidied) := ⟨rfl, rfl, rfl, by decide +kernel, rfl, by decide +kernel, by decide +kernel⟩
abbrev N_carried_selections : List Str := ["selections", "carrier", "moved", "one"]
theorem sc_carried_selections : FnScope N_carried_selections ["selections", "carrier"] (defScope s_carried_selections) := ⟨rfl, rfl, rfl, by decide +kernel, rfl, by decide +kernel, by decide +kernel⟩
abbrev N_line_begin : List Str := ["text", "place"]
theorem sc_line_begin : FnScope N_line_begin ["text", "place"] (defScope s_line_begin) := ⟨rfl, rfl, rfl, by decide +kernel, rfl, by decide +kernel, by decide +kernel⟩
abbrev N_line_end : List Str := ["text", "place"]
theorem sc_line_end : FnScope N_line_end ["text", "place"] (defScope s_line_end) := ⟨rfl, rfl, rfl, by decide +kernel, rfl, by decide +kernel, by decide +kernel⟩
abbrev N_is_great_letter : List Str := ["byte"]
theorem sc_is_great_letter : FnScope N_is_great_letter ["byte"] (defScope s_is_great_letter) := ⟨rfl, rfl, rfl, by decide +kernel, rfl, by decide +kernel, by decide +kernel⟩
abbrev N_is_small_letter : List Str := ["byte"]
theorem sc_is_small_letter : FnScope N_is_small_letter ["byte"] (defScope s_is_small_letter) := ⟨rfl, rfl, rfl, by decide +kernel, rfl, by decide +kernel, by decide +kernel⟩
abbrev N_is_digit : List Str := ["byte"]
theorem sc_is_digit : FnScope N_is_digit ["byte"] (defScope s_is_digit) := ⟨rfl, rfl, rfl, by decide +kernel, rfl, by decide +kernel, by decide +kernel⟩
abbrev N_is_word_byte : List Str := ["byte"]
theorem sc_is_word_byte : FnScope N_is_word_byte ["byte"] (defScope s_is_word_byte) := ⟨rfl, rfl, rfl, by decide +kernel, rfl, by decide +kernel, by decide +kernel⟩
abbrev N_with_case_swapped : List Str := ["byte"]
theorem sc_with_case_swapped : FnScope N_with_case_swapped ["byte"] (defScope s_with_case_swapped) := ⟨rfl, rfl, rfl, by decide +kernel, rfl, by decide +kernel, by decide +kernel⟩
abbrev N_first_place : List Str := ["text", "wanted", "begin", "end", "place"]
theorem sc_first_place : FnScope N_first_place ["text", "wanted", "begin", "end"] (defScope s_first_place) := ⟨rfl, rfl, rfl, by decide +kernel, rfl, by decide +kernel, by decide +kernel⟩
abbrev N_all_places : List Str := ["text", "wanted", "begin", "end", "places", "place"]
theorem sc_all_places : FnScope N_all_places ["text", "wanted", "begin", "end"] (defScope s_all_places) := ⟨rfl, rfl, rfl, by decide +kernel, rfl, by decide +kernel, by decide +kernel⟩
abbrev N_length_after : List Str := ["text", "exchanges", "length", "begin", "end", "put"]
theorem sc_length_after : FnScope N_length_after ["text", "exchanges"] (defScope s_length_after) := ⟨rfl, rfl, rfl, by decide +kernel, rfl, by decide +kernel, by decide +kernel⟩
abbrev N_text_after : List Str := ["text", "exchanges", "changed", "taken", "begin", "end", "put"]
theorem sc_text_after : FnScope N_text_after ["text", "exchanges"] (defScope s_text_after) := ⟨rfl, rfl, rfl, by decide +kernel, rfl, by decide +kernel, by decide +kernel⟩
abbrev N_begins_after : List Str := ["exchanges", "begins", "moved", "begin", "end", "put"]
theorem sc_begins_after : FnScope N_begins_after ["exchanges"] (defScope s_begins_after) := ⟨rfl, rfl, rfl, by decide +kernel, rfl, by decide +kernel, by decide +kernel⟩
abbrev N_alike_ahead : List Str := ["old", "new", "most", "alike"]
theorem sc_alike_ahead : FnScope N_alike_ahead ["old", "new"] (defScope s_alike_ahead) := ⟨rfl, rfl, rfl, by decide +kernel, rfl, by decide +kernel, by decide +kernel⟩
abbrev N_alike_behind : List Str := ["old", "new", "ahead", "most", "alike"]
theorem sc_alike_behind : FnScope N_alike_behind ["old", "new", "ahead"] (defScope s_alike_behind) := ⟨rfl, rfl, rfl, by decide +kernel, rfl, by decide +kernel, by decide +kernel⟩
abbrev N_step_left : List Str := ["text", "place"]
theorem sc_step_left : FnScope N_step_left ["text", "place"] (defScope s_step_left) := ⟨rfl, rfl, rfl, by decide +kernel, rfl, by decide +kernel, by decide +kernel⟩
abbrev N_step_right : List Str := ["text", "place"]
theorem sc_step_right : FnScope N_step_right ["text", "place"] (defScope s_step_right) := ⟨rfl, rfl, rfl, by decide +kernel, rfl, by decide +kernel, by decide +kernel⟩
abbrev N_step_down : List Str := ["text", "place", "end", "column"]
theorem sc_step_down : FnScope N_step_down ["text", "place"] (defScope s_step_down) := ⟨rfl, rfl, rfl, by decide +kernel, rfl, by decide +kernel, by decide +kernel⟩
abbrev N_step_up : List Str := ["text", "place", "begin"]
theorem sc_step_up : FnScope N_step_up ["text", "place"] (defScope s_step_up) := ⟨rfl, rfl, rfl, by decide +kernel, rfl, by decide +kernel, by decide +kernel⟩
abbrev N_step_word_on : List Str := ["text", "place"]
theorem sc_step_word_on : FnScope N_step_word_on ["text", "place"] (defScope s_step_word_on) := ⟨rfl, rfl, rfl, by decide +kernel, rfl, by decide +kernel, by decide +kernel⟩
abbrev N_step_word_back : List Str := ["text", "place"]
theorem sc_step_word_back : FnScope N_step_word_back ["text", "place"] (defScope s_step_word_back) := ⟨rfl, rfl, rfl, by decide +kernel, rfl, by decide +kernel, by decide +kernel⟩
abbrev N_place_after : List Str := ["text", "place", "step", "times", "time", "stepped"]
theorem sc_place_after : FnScope N_place_after ["text", "place", "step", "times"] (defScope s_place_after) := ⟨rfl, rfl, rfl, by decide +kernel, rfl, by decide +kernel, by decide +kernel⟩
abbrev N_hands_after : List Str := ["editor", "step", "one"]
theorem sc_hands_after : FnScope N_hands_after ["editor", "step"] (defScope s_hands_after) := ⟨rfl, rfl, rfl, by decide +kernel, rfl, by decide +kernel, by decide +kernel⟩
abbrev N_move_carets : List Str := ["editor", "key", "hands", "hand"]
theorem sc_move_carets : FnScope N_move_carets ["editor", "key"] (defScope s_move_carets) := ⟨rfl, rfl, rfl, by decide +kernel, rfl, by decide +kernel, by decide +kernel⟩
abbrev N_move_hands : List Str := ["editor", "key", "hands", "anchors", "one", "anchor", "hand"]
theorem sc_move_hands : FnScope N_move_hands ["editor", "key"] (defScope s_move_hands) := ⟨rfl, rfl, rfl, by decide +kernel, rfl, by decide +kernel, by decide +kernel⟩
abbrev N_whole_lines : List Str := ["text", "one", "last", "end"]
theorem sc_whole_lines : FnScope N_whole_lines ["text", "one"] (defScope s_whole_lines) := ⟨rfl, rfl, rfl, by decide +kernel, rfl, by decide +kernel, by decide +kernel⟩
abbrev N_choose_lines : List Str := ["editor", "one"]
theorem sc_choose_lines : FnScope N_choose_lines ["editor"] (defScope s_choose_lines) := ⟨rfl, rfl, rfl, by decide +kernel, rfl, by decide +kernel, by decide +kernel⟩
abbrev N_choose_whole_text : List Str := ["editor"]
theorem sc_choose_whole_text : FnScope N_choose_whole_text ["editor"] (defScope s_choose_whole_text) := ⟨rfl, rfl, rfl, by decide +kernel, rfl, by decide +kernel, by decide +kernel⟩
abbrev N_choose_hands : List Str := ["editor", "one"]
theorem sc_choose_hands : FnScope N_choose_hands ["editor"] (defScope s_choose_hands) := ⟨rfl, rfl, rfl, by decide +kernel, rfl, by decide +kernel, by decide +kernel⟩
abbrev N_choose_main_alone : List Str := ["editor"]
theorem sc_choose_main_alone : FnScope N_choose_main_alone ["editor"] (defScope s_choose_main_alone) := ⟨rfl, rfl, rfl, by decide +kernel, rfl, by decide +kernel, by decide +kernel⟩
abbrev N_choose_next_main : List Str := ["editor", "each"]
theorem sc_choose_next_main : FnScope N_choose_next_main ["editor"] (defScope s_choose_next_main) := ⟨rfl, rfl, rfl, by decide +kernel, rfl, by decide +kernel, by decide +kernel⟩
abbrev N_keep_aside : List Str := ["editor"]
theorem sc_keep_aside : FnScope N_keep_aside ["editor"] (defScope s_keep_aside) := ⟨rfl, rfl, rfl, by decide +kernel, rfl, by decide +kernel, by decide +kernel⟩
abbrev N_choose_kept : List Str := ["editor"]
theorem sc_choose_kept : FnScope N_choose_kept ["editor"] (defScope s_choose_kept) := ⟨rfl, rfl, rfl, by decide +kernel, rfl, by decide +kernel, by decide +kernel⟩
abbrev N_do_choosing : List Str := ["editor", "key", "action"]
theorem sc_do_choosing : FnScope N_do_choosing ["editor", "key"] (defScope s_do_choosing) := ⟨rfl, rfl, rfl, by decide +kernel, rfl, by decide +kernel, by decide +kernel⟩
abbrev N_exchange_at_all : List Str := ["editor", "exchanges", "begins", "chosen", "one", "begin", "exchange"]
theorem sc_exchange_at_all : FnScope N_exchange_at_all ["editor", "exchanges"] (defScope s_exchange_at_all) := ⟨rfl, rfl, rfl, by decide +kernel, rfl, by decide +kernel, by decide +kernel⟩
abbrev N_bytes_of_each : List Str := ["editor", "one"]
theorem sc_bytes_of_each : FnScope N_bytes_of_each ["editor"] (defScope s_bytes_of_each) := ⟨rfl, rfl, rfl, by decide +kernel, rfl, by decide +kernel, by decide +kernel⟩
abbrev N_exchanges_of_each : List Str := ["editor", "puts", "one", "put"]
theorem sc_exchanges_of_each : FnScope N_exchanges_of_each ["editor", "puts"] (defScope s_exchanges_of_each) := ⟨rfl, rfl, rfl, by decide +kernel, rfl, by decide +kernel, by decide +kernel⟩
abbrev N_exchange_for_as_many : List Str := ["editor", "puts"]
theorem sc_exchange_for_as_many : FnScope N_exchange_for_as_many ["editor", "puts"] (defScope s_exchange_for_as_many) := ⟨rfl, rfl, rfl, by decide +kernel, rfl, by decide +kernel, by decide +kernel⟩
abbrev N_copy_pieces : List Str := ["editor"]
theorem sc_copy_pieces : FnScope N_copy_pieces ["editor"] (defScope s_copy_pieces) := ⟨rfl, rfl, rfl, by decide +kernel, rfl, by decide +kernel, by decide +kernel⟩
abbrev N_take_out : List Str := ["editor", "one"]
theorem sc_take_out : FnScope N_take_out ["editor"] (defScope s_take_out) := ⟨rfl, rfl, rfl, by decide +kernel, rfl, by decide +kernel, by decide +kernel⟩
abbrev N_puts_for_each : List Str := ["editor", "each", "together", "piece", "one"]
theorem sc_puts_for_each : FnScope N_puts_for_each ["editor"] (defScope s_puts_for_each) := ⟨rfl, rfl, rfl, by decide +kernel, rfl, by decide +kernel, by decide +kernel⟩
abbrev N_put_pieces_at : List Str := ["editor", "places", "puts", "place", "put"]
theorem sc_put_pieces_at : FnScope N_put_pieces_at ["editor", "places"] (defScope s_put_pieces_at) := ⟨rfl, rfl, rfl, by decide +kernel, rfl, by decide +kernel, by decide +kernel⟩
abbrev N_put_pieces_behind : List Str := ["editor", "one"]
theorem sc_put_pieces_behind : FnScope N_put_pieces_behind ["editor"] (defScope s_put_pieces_behind) := ⟨rfl, rfl, rfl, by decide +kernel, rfl, by decide +kernel, by decide +kernel⟩
abbrev N_put_pieces_ahead : List Str := ["editor", "one"]
theorem sc_put_pieces_ahead : FnScope N_put_pieces_ahead ["editor"] (defScope s_put_pieces_ahead) := ⟨rfl, rfl, rfl, by decide +kernel, rfl, by decide +kernel, by decide +kernel⟩
abbrev N_swap_case : List Str := ["editor", "swapped", "piece", "byte"]
theorem sc_swap_case : FnScope N_swap_case ["editor"] (defScope s_swap_case) := ⟨rfl, rfl, rfl, by decide +kernel, rfl, by decide +kernel, by decide +kernel⟩
abbrev N_select_carets : List Str := ["editor", "places", "place"]
theorem sc_select_carets : FnScope N_select_carets ["editor", "places"] (defScope s_select_carets) := ⟨rfl, rfl, rfl, by decide +kernel, rfl, by decide +kernel, by decide +kernel⟩
abbrev N_select_begins : List Str := ["editor", "one"]
theorem sc_select_begins : FnScope N_select_begins ["editor"] (defScope s_select_begins) := ⟨rfl, rfl, rfl, by decide +kernel, rfl, by decide +kernel, by decide +kernel⟩
abbrev N_select_ends : List Str := ["editor", "one"]
theorem sc_select_ends : FnScope N_select_ends ["editor"] (defScope s_select_ends) := ⟨rfl, rfl, rfl, by decide +kernel, rfl, by decide +kernel, by decide +kernel⟩
abbrev N_put_in_byte : List Str := ["editor", "byte", "one"]
theorem sc_put_in_byte : FnScope N_put_in_byte ["editor", "byte"] (defScope s_put_in_byte) := ⟨rfl, rfl, rfl, by decide +kernel, rfl, by decide +kernel, by decide +kernel⟩
abbrev N_take_out_bytes_ahead : List Str := ["editor", "places", "one", "place"]
theorem sc_take_out_bytes_ahead : FnScope N_take_out_bytes_ahead ["editor"] (defScope s_take_out_bytes_ahead) := ⟨rfl, rfl, rfl, by decide +kernel, rfl, by decide +kernel, by decide +kernel⟩
abbrev N_insert_at_begins : List Str := ["editor"]
theorem sc_insert_at_begins : FnScope N_insert_at_begins ["editor"] (defScope s_insert_at_begins) := ⟨rfl, rfl, rfl, by decide +kernel, rfl, by decide +kernel, by decide +kernel⟩
abbrev N_insert_at_ends : List Str := ["editor"]
theorem sc_insert_at_ends : FnScope N_insert_at_ends ["editor"] (defScope s_insert_at_ends) := ⟨rfl, rfl, rfl, by decide +kernel, rfl, by decide +kernel, by decide +kernel⟩
abbrev N_insert_instead : List Str := ["editor"]
theorem sc_insert_instead : FnScope N_insert_instead ["editor"] (defScope s_insert_instead) := ⟨rfl, rfl, rfl, by decide +kernel, rfl, by decide +kernel, by decide +kernel⟩
abbrev N_insert_on_new_line : List Str := ["editor", "one"]
theorem sc_insert_on_new_line : FnScope N_insert_on_new_line ["editor"] (defScope s_insert_on_new_line) := ⟨rfl, rfl, rfl, by decide +kernel, rfl, by decide +kernel, by decide +kernel⟩
abbrev N_ask_for_byte : List Str := ["editor"]
theorem sc_ask_for_byte : FnScope N_ask_for_byte ["editor"] (defScope s_ask_for_byte) := ⟨rfl, rfl, rfl, by decide +kernel, rfl, by decide +kernel, by decide +kernel⟩
abbrev N_do_editing : List Str := ["editor", "key", "action"]
theorem sc_do_editing : FnScope N_do_editing ["editor", "key"] (defScope s_do_editing) := ⟨rfl, rfl, rfl, by decide +kernel, rfl, by decide +kernel, by decide +kernel⟩
abbrev N_begin_edit : List Str := ["editor", "key", "action"]
theorem sc_begin_edit : FnScope N_begin_edit ["editor", "key"] (defScope s_begin_edit) := ⟨rfl, rfl, rfl, by decide +kernel, rfl, by decide +kernel, by decide +kernel⟩
abbrev N_do_insert_key : List Str := ["editor", "key"]
theorem sc_do_insert_key : FnScope N_do_insert_key ["editor", "key"] (defScope s_do_insert_key) := ⟨rfl, rfl, rfl, by decide +kernel, rfl, by decide +kernel, by decide +kernel⟩
abbrev N_do_byte_of_r : List Str := ["editor", "key", "puts", "piece", "byte"]
theorem sc_do_byte_of_r : FnScope N_do_byte_of_r ["editor", "key"] (defScope s_do_byte_of_r) := ⟨rfl, rfl, rfl, by decide +kernel, rfl, by decide +kernel, by decide +kernel⟩
abbrev N_matches_in : List Str := ["text", "wanted", "one", "places", "place"]
theorem sc_matches_in : FnScope N_matches_in ["text", "wanted", "one"] (defScope s_matches_in) := ⟨rfl, rfl, rfl, by decide +kernel, rfl, by decide +kernel, by decide +kernel⟩
abbrev N_pieces_between : List Str := ["text", "wanted", "one", "pieces", "begin", "match"]
theorem sc_pieces_between : FnScope N_pieces_between ["text", "wanted", "one"] (defScope s_pieces_between) := ⟨rfl, rfl, rfl, by decide +kernel, rfl, by decide +kernel, by decide +kernel⟩
abbrev N_select_found : List Str := ["editor", "found"]
theorem sc_select_found : FnScope N_select_found ["editor", "found"] (defScope s_select_found) := ⟨rfl, rfl, rfl, by decide +kernel, rfl, by decide +kernel, by decide +kernel⟩
abbrev N_choose_matches : List Str := ["editor", "wanted", "found", "one"]
theorem sc_choose_matches : FnScope N_choose_matches ["editor", "wanted"] (defScope s_choose_matches) := ⟨rfl, rfl, rfl, by decide +kernel, rfl, by decide +kernel, by decide +kernel⟩
abbrev N_choose_pieces_between : List Str := ["editor", "wanted", "found", "one"]
theorem sc_choose_pieces_between : FnScope N_choose_pieces_between ["editor", "wanted"] (defScope s_choose_pieces_between) := ⟨rfl, rfl, rfl, by decide +kernel, rfl, by decide +kernel, by decide +kernel⟩
abbrev N_place_of_searched : List Str := ["editor", "wanted", "end", "place"]
theorem sc_place_of_searched : FnScope N_place_of_searched ["editor"] (defScope s_place_of_searched) := ⟨rfl, rfl, rfl, by decide +kernel, rfl, by decide +kernel, by decide +kernel⟩
abbrev N_found_of_searched : List Str := ["editor", "place"]
theorem sc_found_of_searched : FnScope N_found_of_searched ["editor"] (defScope s_found_of_searched) := ⟨rfl, rfl, rfl, by decide +kernel, rfl, by decide +kernel, by decide +kernel⟩
abbrev N_choose_found : List Str := ["editor"]
theorem sc_choose_found : FnScope N_choose_found ["editor"] (defScope s_choose_found) := ⟨rfl, rfl, rfl, by decide +kernel, rfl, by decide +kernel, by decide +kernel⟩
abbrev N_add_found : List Str := ["editor", "each", "found"]
theorem sc_add_found : FnScope N_add_found ["editor"] (defScope s_add_found) := ⟨rfl, rfl, rfl, by decide +kernel, rfl, by decide +kernel, by decide +kernel⟩
abbrev N_search : List Str := ["editor", "wanted"]
theorem sc_search : FnScope N_search ["editor", "wanted"] (defScope s_search) := ⟨rfl, rfl, rfl, by decide +kernel, rfl, by decide +kernel, by decide +kernel⟩
abbrev N_do_finding : List Str := ["editor", "key", "action"]
theorem sc_do_finding : FnScope N_do_finding ["editor", "key"] (defScope s_do_finding) := ⟨rfl, rfl, rfl, by decide +kernel, rfl, by decide +kernel, by decide +kernel⟩
abbrev N_begin_prompt : List Str := ["editor", "key"]
theorem sc_begin_prompt : FnScope N_begin_prompt ["editor", "key"] (defScope s_begin_prompt) := ⟨rfl, rfl, rfl, by decide +kernel, rfl, by decide +kernel, by decide +kernel⟩
abbrev N_answer_prompt : List Str := ["editor", "action"]
theorem sc_answer_prompt : FnScope N_answer_prompt ["editor"] (defScope s_answer_prompt) := ⟨rfl, rfl, rfl, by decide +kernel, rfl, by decide +kernel, by decide +kernel⟩
abbrev N_do_prompt_key : List Str := ["editor", "key"]
theorem sc_do_prompt_key : FnScope N_do_prompt_key ["editor", "key"] (defScope s_do_prompt_key) := ⟨rfl, rfl, rfl, by decide +kernel, rfl, by decide +kernel, by decide +kernel⟩
abbrev N_undo : List Str := ["editor", "time"]
theorem sc_undo : FnScope N_undo ["editor"] (defScope s_undo) := ⟨rfl, rfl, rfl, by decide +kernel, rfl, by decide +kernel, by decide +kernel⟩
abbrev N_redo : List Str := ["editor", "time"]
theorem sc_redo : FnScope N_redo ["editor"] (defScope s_redo) := ⟨rfl, rfl, rfl, by decide +kernel, rfl, by decide +kernel, by decide +kernel⟩
abbrev N_let_come : List Str := ["editor", "came", "coming", "time"]
theorem sc_let_come : FnScope N_let_come ["editor", "came"] (defScope s_let_come) := ⟨rfl, rfl, rfl, by decide +kernel, rfl, by decide +kernel, by decide +kernel⟩
abbrev N_play_last_change : List Str := ["editor"]
theorem sc_play_last_change : FnScope N_play_last_change ["editor"] (defScope s_play_last_change) := ⟨rfl, rfl, rfl, by decide +kernel, rfl, by decide +kernel, by decide +kernel⟩
abbrev N_play_macro : List Str := ["editor"]
theorem sc_play_macro : FnScope N_play_macro ["editor"] (defScope s_play_macro) := ⟨rfl, rfl, rfl, by decide +kernel, rfl, by decide +kernel, by decide +kernel⟩
abbrev N_is_digit_of_count : List Str := ["editor", "key"]
theorem sc_is_digit_of_count : FnScope N_is_digit_of_count ["editor", "key"] (defScope s_is_digit_of_count) := ⟨rfl, rfl, rfl, by decide +kernel, rfl, by decide +kernel, by decide +kernel⟩
abbrev N_begin_longer_command : List Str := ["editor", "key"]
theorem sc_begin_longer_command : FnScope N_begin_longer_command ["editor", "key"] (defScope s_begin_longer_command) := ⟨rfl, rfl, rfl, by decide +kernel, rfl, by decide +kernel, by decide +kernel⟩
abbrev N_do_whole_command : List Str := ["editor", "key"]
theorem sc_do_whole_command : FnScope N_do_whole_command ["editor", "key"] (defScope s_do_whole_command) := ⟨rfl, rfl, rfl, by decide +kernel, rfl, by decide +kernel, by decide +kernel⟩
abbrev N_do_normal_key : List Str := ["editor", "key", "action"]
theorem sc_do_normal_key : FnScope N_do_normal_key ["editor", "key"] (defScope s_do_normal_key) := ⟨rfl, rfl, rfl, by decide +kernel, rfl, by decide +kernel, by decide +kernel⟩
abbrev N_do_key : List Str := ["editor", "key"]
theorem sc_do_key : FnScope N_do_key ["editor", "key"] (defScope s_do_key) := ⟨rfl, rfl, rfl, by decide +kernel, rfl, by decide +kernel, by decide +kernel⟩
abbrev N_switch_recording : List Str := ["editor"]
theorem sc_switch_recording : FnScope N_switch_recording ["editor"] (defScope s_switch_recording) := ⟨rfl, rfl, rfl, by decide +kernel, rfl, by decide +kernel, by decide +kernel⟩
abbrev N_do_with_what_comes : List Str := ["editor", "key", "left"]
theorem sc_do_with_what_comes : FnScope N_do_with_what_comes ["editor", "key"] (defScope s_do_with_what_comes) := ⟨rfl, rfl, rfl, by decide +kernel, rfl, by decide +kernel, by decide +kernel⟩
abbrev N_press : List Str := ["editor", "key"]
theorem sc_press : FnScope N_press ["editor", "key"] (defScope s_press) := ⟨rfl, rfl, rfl, by decide +kernel, rfl, by decide +kernel, by decide +kernel⟩
abbrev N_is_refused : List Str := ["call", "row", "most", "number"]
theorem sc_is_refused : FnScope N_is_refused ["call", "row"] (defScope s_is_refused) := ⟨rfl, rfl, rfl, by decide +kernel, rfl, by decide +kernel, by decide +kernel⟩
abbrev N_counted : List Str := ["numbers"]
theorem sc_counted : FnScope N_counted ["numbers"] (defScope s_counted) := ⟨rfl, rfl, rfl, by decide +kernel, rfl, by decide +kernel, by decide +kernel⟩
abbrev N_places_of : List Str := ["selections", "places", "one"]
theorem sc_places_of : FnScope N_places_of ["selections"] (defScope s_places_of) := ⟨rfl, rfl, rfl, by decide +kernel, rfl, by decide +kernel, by decide +kernel⟩
abbrev N_answer_of_selected : List Str := ["editor"]
theorem sc_answer_of_selected : FnScope N_answer_of_selected ["editor"] (defScope s_answer_of_selected) := ⟨rfl, rfl, rfl, by decide +kernel, rfl, by decide +kernel, by decide +kernel⟩
abbrev N_answer_of_keys : List Str := ["editor", "keys", "key"]
theorem sc_answer_of_keys : FnScope N_answer_of_keys ["editor", "keys"] (defScope s_answer_of_keys) := ⟨rfl, rfl, rfl, by decide +kernel, rfl, by decide +kernel, by decide +kernel⟩
abbrev N_answer_of_shows : List Str := ["editor"]
theorem sc_answer_of_shows : FnScope N_answer_of_shows ["editor"] (defScope s_answer_of_shows) := ⟨rfl, rfl, rfl, by decide +kernel, rfl, by decide +kernel, by decide +kernel⟩
abbrev N_answer_of_selections : List Str := ["editor"]
theorem sc_answer_of_selections : FnScope N_answer_of_selections ["editor"] (defScope s_answer_of_selections) := ⟨rfl, rfl, rfl, by decide +kernel, rfl, by decide +kernel, by decide +kernel⟩
abbrev N_answer_of_registers : List Str := ["editor", "answer", "piece"]
theorem sc_answer_of_registers : FnScope N_answer_of_registers ["editor"] (defScope s_answer_of_registers) := ⟨rfl, rfl, rfl, by decide +kernel, rfl, by decide +kernel, by decide +kernel⟩
abbrev N_answer_of_macro : List Str := ["editor"]
theorem sc_answer_of_macro : FnScope N_answer_of_macro ["editor"] (defScope s_answer_of_macro) := ⟨rfl, rfl, rfl, by decide +kernel, rfl, by decide +kernel, by decide +kernel⟩
abbrev N_answer_of_steps : List Str := ["editor"]
theorem sc_answer_of_steps : FnScope N_answer_of_steps ["editor"] (defScope s_answer_of_steps) := ⟨rfl, rfl, rfl, by decide +kernel, rfl, by decide +kernel, by decide +kernel⟩
abbrev N_answer_of : List Str := ["editor", "call", "row", "action"]
theorem sc_answer_of : FnScope N_answer_of ["editor", "call", "row"] (defScope s_answer_of) := ⟨rfl, rfl, rfl, by decide +kernel, rfl, by decide +kernel, by decide +kernel⟩
abbrev N_calls_in : List Str := ["numbers", "calls", "at", "call", "row", "behind"]
theorem sc_calls_in : FnScope N_calls_in ["numbers"] (defScope s_calls_in) := ⟨rfl, rfl, rfl, by decide +kernel, rfl, by decide +kernel, by decide +kernel⟩
abbrev N_answers : List Str := ["calls", "editor", "given", "call", "row", "answer"]
theorem sc_answers : FnScope N_answers ["calls"] (defScope s_answers) := ⟨rfl, rfl, rfl, by decide +kernel, rfl, by decide +kernel, by decide +kernel⟩
abbrev N_Selection_init : List Str := ["self", "anchor", "hand"]
theorem sc_Selection_init : FnScope N_Selection_init ["self", "anchor", "hand"] (defScope s_Selection_init) := ⟨rfl, rfl, rfl, by decide +kernel, rfl, by decide +kernel, by decide +kernel⟩
abbrev N_Selection_begin : List Str := ["self"]
theorem sc_Selection_begin : FnScope N_Selection_begin ["self"] (defScope s_Selection_begin) := ⟨rfl, rfl, rfl, by decide +kernel, rfl, by decide +kernel, by decide +kernel⟩
abbrev N_Selection_end : List Str := ["self"]
theorem sc_Selection_end : FnScope N_Selection_end ["self"] (defScope s_Selection_end) := ⟨rfl, rfl, rfl, by decide +kernel, rfl, by decide +kernel, by decide +kernel⟩
abbrev N_Selection_is_caret : List Str := ["self"]
theorem sc_Selection_is_caret : FnScope N_Selection_is_caret ["self"] (defScope s_Selection_is_caret) := ⟨rfl, rfl, rfl, by decide +kernel, rfl, by decide +kernel, by decide +kernel⟩
abbrev N_Selection_looks_left : List Str := ["self"]
theorem sc_Selection_looks_left : FnScope N_Selection_looks_left ["self"] (defScope s_Selection_looks_left) := ⟨rfl, rfl, rfl, by decide +kernel, rfl, by decide +kernel, by decide +kernel⟩
abbrev N_Selections_init : List Str := ["self", "each", "main"]
theorem sc_Selections_init : FnScope N_Selections_init ["self", "each", "main"] (defScope s_Selections_init) := ⟨rfl, rfl, rfl, by decide +kernel, rfl, by decide +kernel, by decide +kernel⟩
abbrev N_Selections_main_one : List Str := ["self"]
theorem sc_Selections_main_one : FnScope N_Selections_main_one ["self"] (defScope s_Selections_main_one) := ⟨rfl, rfl, rfl, by decide +kernel, rfl, by decide +kernel, by decide +kernel⟩
abbrev N_Carrier_init : List Str := ["self", "old", "new"]
theorem sc_Carrier_init : FnScope N_Carrier_init ["self", "old", "new"] (defScope s_Carrier_init) := ⟨rfl, rfl, rfl, by decide +kernel, rfl, by decide +kernel, by decide +kernel⟩
abbrev N_Carrier_carried : List Str := ["self", "place", "from_end"]
theorem sc_Carrier_carried : FnScope N_Carrier_carried ["self", "place"] (defScope s_Carrier_carried) := ⟨rfl, rfl, rfl, by decide +kernel, rfl, by decide +kernel, by decide +kernel⟩
abbrev N_Moment_init : List Str := ["self", "text", "selected"]
theorem sc_Moment_init : FnScope N_Moment_init ["self", "text", "selected"] (defScope s_Moment_init) := ⟨rfl, rfl, rfl, by decide +kernel, rfl, by decide +kernel, by decide +kernel⟩
abbrev N_Editor_init : List Str := ["self", "text"]
theorem sc_Editor_init : FnScope N_Editor_init ["self", "text"] (defScope s_Editor_init) := ⟨rfl, rfl, rfl, by decide +kernel, rfl, by decide +kernel, by decide +kernel⟩
abbrev N_Editor_now : List Str := ["self"]
theorem sc_Editor_now : FnScope N_Editor_now ["self"] (defScope s_Editor_now) := ⟨rfl, rfl, rfl, by decide +kernel, rfl, by decide +kernel, by decide +kernel⟩
abbrev N_Editor_times : List Str := ["self"]
theorem sc_Editor_times : FnScope N_Editor_times ["self"] (defScope s_Editor_times) := ⟨rfl, rfl, rfl, by decide +kernel, rfl, by decide +kernel, by decide +kernel⟩
abbrev N_Editor_select : List Str := ["self", "each", "main"]
theorem sc_Editor_select : FnScope N_Editor_select ["self", "each", "main"] (defScope s_Editor_select) := ⟨rfl, rfl, rfl, by decide +kernel, rfl, by decide +kernel, by decide +kernel⟩
abbrev N_Editor_become : List Str := ["self", "text"]
theorem sc_Editor_become : FnScope N_Editor_become ["self", "text"] (defScope s_Editor_become) := ⟨rfl, rfl, rfl, by decide +kernel, rfl, by decide +kernel, by decide +kernel⟩
abbrev N_Editor_go_back_to : List Str := ["self", "moment"]
theorem sc_Editor_go_back_to : FnScope N_Editor_go_back_to ["self", "moment"] (defScope s_Editor_go_back_to) := ⟨rfl, rfl, rfl, by decide +kernel, rfl, by decide +kernel, by decide +kernel⟩
abbrev N_Editor_add_to_command : List Str := ["self", "key"]
theorem sc_Editor_add_to_command : FnScope N_Editor_add_to_command ["self", "key"] (defScope s_Editor_add_to_command) := ⟨rfl, rfl, rfl, by decide +kernel, rfl, by decide +kernel, by decide +kernel⟩
abbrev N_Editor_end_command : List Str := ["self"]
theorem sc_Editor_end_command : FnScope N_Editor_end_command ["self"] (defScope s_Editor_end_command) := ⟨rfl, rfl, rfl, by decide +kernel, rfl, by decide +kernel, by decide +kernel⟩
abbrev N_Editor_end_command_as_step : List Str := ["self"]
theorem sc_Editor_end_command_as_step : FnScope N_Editor_end_command_as_step ["self"] (defScope s_Editor_end_command_as_step) := ⟨rfl, rfl, rfl, by decide +kernel, rfl, by decide +kernel, by decide +kernel⟩
structure Ca where
  sel : Addr
  sels : Addr
  car : Addr
  mom : Addr
  ed : Addr
  tSTEPS_OF_CARETS : Addr
  tSTEPS_OF_HANDS : Addr
  tCHOOSING : Addr
  tEDITING : Addr
  tBEGINNING_EDITS : Addr
  tFINDING : Addr
  tPROMPTS : Addr
  tNEVER_STEPS : Addr
  tTELLING : Addr
  tc : Addr
  tP : Addr
def rows_STEPS_OF_CARETS : List (Int × Str) := [(104, "step_left"), (108, "step_right"), (106, "step_down"), (107, "step_up"), (119, "step_word_on"), (98, "step_word_back")]
def rows_STEPS_OF_HANDS : List (Int × Str) := [(72, "step_left"), (76, "step_right"), (74, "step_down"), (75, "step_up"), (87, "step_word_on"), (66, "step_word_back")]
def rows_CHOOSING : List (Int × Str) := [(120, "choose_lines"), (37, "choose_whole_text"), (59, "choose_hands"), (44, "choose_main_alone"), (41, "choose_next_main"), (122, "keep_aside"), (90, "choose_kept")]
def rows_EDITING : List (Int × Str) := [(100, "take_out"), (121, "copy_pieces"), (112, "put_pieces_behind"), (80, "put_pieces_ahead"), (126, "swap_case")]
def rows_BEGINNING_EDITS : List (Int × Str) := [(105, "insert_at_begins"), (97, "insert_at_ends"), (99, "insert_instead"), (111, "insert_on_new_line"), (114, "ask_for_byte")]
def rows_FINDING : List (Int × Str) := [(110, "choose_found"), (78, "add_found")]
def rows_PROMPTS : List (Int × Str) := [(115, "choose_matches"), (83, "choose_pieces_between"), (47, "search")]
def rows_NEVER_STEPS : List (Int × Str) := [(117, "undo"), (85, "redo"), (46, "play_last_change"), (64, "play_macro")]
def rows_TELLING : List (Int × Str) := [(2, "answer_of_shows"), (3, "answer_of_selections"), (4, "answer_of_registers"), (5, "answer_of_macro"), (6, "answer_of_steps")]
structure Gs (K : PySem.W.Frag) (mg : Str → Option Value) (C : Ca) : Prop where
  d_caret : DefG K mg "caret" s_caret
  d_spanning : DefG K mg "spanning" s_spanning
  d_touches : DefG K mg "touches" s_touches
  d_made_one : DefG K mg "made_one" s_made_one
  d_tidied : DefT K mg "tidied" s_tidied C.tc
  d_carried_selections : DefG K mg "carried_selections" s_carried_selections
  d_line_begin : DefG K mg "line_begin" s_line_begin
  d_line_end : DefG K mg "line_end" s_line_end
  d_is_great_letter : DefG K mg "is_great_letter" s_is_great_letter
  d_is_small_letter : DefG K mg "is_small_letter" s_is_small_letter
  d_is_digit : DefG K mg "is_digit" s_is_digit
  d_is_word_byte : DefG K mg "is_word_byte" s_is_word_byte
  d_with_case_swapped : DefG K mg "with_case_swapped" s_with_case_swapped
  d_first_place : DefG K mg "first_place" s_first_place
  d_all_places : DefG K mg "all_places" s_all_places
  d_length_after : DefG K mg "length_after" s_length_after
  d_text_after : DefG K mg "text_after" s_text_after
  d_begins_after : DefG K mg "begins_after" s_begins_after
  d_alike_ahead : DefG K mg "alike_ahead" s_alike_ahead
  d_alike_behind : DefG K mg "alike_behind" s_alike_behind
  d_step_left : DefG K mg "step_left" s_step_left
  d_step_right : DefG K mg "step_right" s_step_right
  d_step_down : DefG K mg "step_down" s_step_down
  d_step_up : DefG K mg "step_up" s_step_up
  d_step_word_on : DefG K mg "step_word_on" s_step_word_on
  d_step_word_back : DefG K mg "step_word_back" s_step_word_back
  d_place_after : DefG K mg "place_after" s_place_after
  d_hands_after : DefG K mg "hands_after" s_hands_after
  d_move_carets : DefG K mg "move_carets" s_move_carets
  d_move_hands : DefG K mg "move_hands" s_move_hands
  d_whole_lines : DefG K mg "whole_lines" s_whole_lines
  d_choose_lines : DefG K mg "choose_lines" s_choose_lines
  d_choose_whole_text : DefG K mg "choose_whole_text" s_choose_whole_text
  d_choose_hands : DefG K mg "choose_hands" s_choose_hands
  d_choose_main_alone : DefG K mg "choose_main_alone" s_choose_main_alone
  d_choose_next_main : DefG K mg "choose_next_main" s_choose_next_main
  d_keep_aside : DefG K mg "keep_aside" s_keep_aside
  d_choose_kept : DefG K mg "choose_kept" s_choose_kept
  d_do_choosing : DefG K mg "do_choosing" s_do_choosing
  d_exchange_at_all : DefG K mg "exchange_at_all" s_exchange_at_all
  d_bytes_of_each : DefG K mg "bytes_of_each" s_bytes_of_each
  d_exchanges_of_each : DefG K mg "exchanges_of_each" s_exchanges_of_each
  d_exchange_for_as_many : DefG K mg "exchange_for_as_many" s_exchange_for_as_many
  d_copy_pieces : DefG K mg "copy_pieces" s_copy_pieces
  d_take_out : DefG K mg "take_out" s_take_out
  d_puts_for_each : DefG K mg "puts_for_each" s_puts_for_each
  d_put_pieces_at : DefG K mg "put_pieces_at" s_put_pieces_at
  d_put_pieces_behind : DefG K mg "put_pieces_behind" s_put_pieces_behind
  d_put_pieces_ahead : DefG K mg "put_pieces_ahead" s_put_pieces_ahead
  d_swap_case : DefG K mg "swap_case" s_swap_case
  d_select_carets : DefG K mg "select_carets" s_select_carets
  d_select_begins : DefG K mg "select_begins" s_select_begins
  d_select_ends : DefG K mg "select_ends" s_select_ends
  d_put_in_byte : DefG K mg "put_in_byte" s_put_in_byte
  d_take_out_bytes_ahead : DefG K mg "take_out_bytes_ahead" s_take_out_bytes_ahead
  d_insert_at_begins : DefG K mg "insert_at_begins" s_insert_at_begins
  d_insert_at_ends : DefG K mg "insert_at_ends" s_insert_at_ends
  d_insert_instead : DefG K mg "insert_instead" s_insert_instead
  d_insert_on_new_line : DefG K mg "insert_on_new_line" s_insert_on_new_line
  d_ask_for_byte : DefG K mg "ask_for_byte" s_ask_for_byte
  d_do_editing : DefG K mg "do_editing" s_do_editing
  d_begin_edit : DefG K mg "begin_edit" s_begin_edit
  d_do_insert_key : DefG K mg "do_insert_key" s_do_insert_key
  d_do_byte_of_r : DefG K mg "do_byte_of_r" s_do_byte_of_r
  d_matches_in : DefG K mg "matches_in" s_matches_in
  d_pieces_between : DefG K mg "pieces_between" s_pieces_between
  d_select_found : DefG K mg "select_found" s_select_found
  d_choose_matches : DefG K mg "choose_matches" s_choose_matches
  d_choose_pieces_between : DefG K mg "choose_pieces_between" s_choose_pieces_between
  d_place_of_searched : DefG K mg "place_of_searched" s_place_of_searched
  d_found_of_searched : DefG K mg "found_of_searched" s_found_of_searched
  d_choose_found : DefG K mg "choose_found" s_choose_found
  d_add_found : DefG K mg "add_found" s_add_found
  d_search : DefG K mg "search" s_search
  d_do_finding : DefG K mg "do_finding" s_do_finding
  d_begin_prompt : DefG K mg "begin_prompt" s_begin_prompt
  d_answer_prompt : DefG K mg "answer_prompt" s_answer_prompt
  d_do_prompt_key : DefG K mg "do_prompt_key" s_do_prompt_key
  d_undo : DefG K mg "undo" s_undo
  d_redo : DefG K mg "redo" s_redo
  d_let_come : DefG K mg "let_come" s_let_come
  d_play_last_change : DefG K mg "play_last_change" s_play_last_change
  d_play_macro : DefG K mg "play_macro" s_play_macro
  d_is_digit_of_count : DefG K mg "is_digit_of_count" s_is_digit_of_count
  d_begin_longer_command : DefG K mg "begin_longer_command" s_begin_longer_command
  d_do_whole_command : DefG K mg "do_whole_command" s_do_whole_command
  d_do_normal_key : DefG K mg "do_normal_key" s_do_normal_key
  d_do_key : DefG K mg "do_key" s_do_key
  d_switch_recording : DefG K mg "switch_recording" s_switch_recording
  d_do_with_what_comes : DefG K mg "do_with_what_comes" s_do_with_what_comes
  d_press : DefG K mg "press" s_press
  d_is_refused : DefG K mg "is_refused" s_is_refused
  d_counted : DefG K mg "counted" s_counted
  d_places_of : DefG K mg "places_of" s_places_of
  d_answer_of_selected : DefG K mg "answer_of_selected" s_answer_of_selected
  d_answer_of_keys : DefG K mg "answer_of_keys" s_answer_of_keys
  d_answer_of_shows : DefG K mg "answer_of_shows" s_answer_of_shows
  d_answer_of_selections : DefG K mg "answer_of_selections" s_answer_of_selections
  d_answer_of_registers : DefG K mg "answer_of_registers" s_answer_of_registers
  d_answer_of_macro : DefG K mg "answer_of_macro" s_answer_of_macro
  d_answer_of_steps : DefG K mg "answer_of_steps" s_answer_of_steps
  d_answer_of : DefG K mg "answer_of" s_answer_of
  d_calls_in : DefG K mg "calls_in" s_calls_in
  d_answers : DefG K mg "answers" s_answers
  d_Selection_init : MakG K mg "Selection" C.sel "Selection.__init__" s_Selection_init
  d_Selection_begin : MetG K C.sel "begin" "Selection.begin" s_Selection_begin
  d_Selection_end : MetG K C.sel "end" "Selection.end" s_Selection_end
  d_Selection_is_caret : MetG K C.sel "is_caret" "Selection.is_caret" s_Selection_is_caret
  d_Selection_looks_left : MetG K C.sel "looks_left" "Selection.looks_left" s_Selection_looks_left
  d_Selections_init : MakG K mg "Selections" C.sels "Selections.__init__" s_Selections_init
  d_Selections_main_one : MetG K C.sels "main_one" "Selections.main_one" s_Selections_main_one
  d_Carrier_init : MakG K mg "Carrier" C.car "Carrier.__init__" s_Carrier_init
  d_Carrier_carried : MetG K C.car "carried" "Carrier.carried" s_Carrier_carried
  d_Moment_init : MakG K mg "Moment" C.mom "Moment.__init__" s_Moment_init
  d_Editor_init : MakG K mg "Editor" C.ed "Editor.__init__" s_Editor_init
  d_Editor_now : MetG K C.ed "now" "Editor.now" s_Editor_now
  d_Editor_times : MetG K C.ed "times" "Editor.times" s_Editor_times
  d_Editor_select : MetG K C.ed "select" "Editor.select" s_Editor_select
  d_Editor_become : MetG K C.ed "become" "Editor.become" s_Editor_become
  d_Editor_go_back_to : MetG K C.ed "go_back_to" "Editor.go_back_to" s_Editor_go_back_to
  d_Editor_add_to_command : MetG K C.ed "add_to_command" "Editor.add_to_command" s_Editor_add_to_command
  d_Editor_end_command : MetG K C.ed "end_command" "Editor.end_command" s_Editor_end_command
  d_Editor_end_command_as_step : MetG K C.ed "end_command_as_step" "Editor.end_command_as_step" s_Editor_end_command_as_step
  k_Selection : Cls K C.sel
  k_Selections : Cls K C.sels
  k_Carrier : Cls K C.car
  k_Moment : Cls K C.mom
  k_Editor : Cls K C.ed
  n_Selection_anchor : NoAttr K C.sel "anchor"
  n_Selection_hand : NoAttr K C.sel "hand"
  n_Selections_each : NoAttr K C.sels "each"
  n_Selections_main : NoAttr K C.sels "main"
  n_Carrier_ahead : NoAttr K C.car "ahead"
  n_Carrier_behind : NoAttr K C.car "behind"
  n_Carrier_old_length : NoAttr K C.car "old_length"
  n_Carrier_new_length : NoAttr K C.car "new_length"
  n_Moment_text : NoAttr K C.mom "text"
  n_Moment_selected : NoAttr K C.mom "selected"
  n_Editor_text : NoAttr K C.ed "text"
  n_Editor_selected : NoAttr K C.ed "selected"
  n_Editor_kept : NoAttr K C.ed "kept"
  n_Editor_mode : NoAttr K C.ed "mode"
  n_Editor_count : NoAttr K C.ed "count"
  n_Editor_pieces : NoAttr K C.ed "pieces"
  n_Editor_searched : NoAttr K C.ed "searched"
  n_Editor_prompt : NoAttr K C.ed "prompt"
  n_Editor_prompt_key : NoAttr K C.ed "prompt_key"
  n_Editor_undoable : NoAttr K C.ed "undoable"
  n_Editor_redoable : NoAttr K C.ed "redoable"
  n_Editor_last_change : NoAttr K C.ed "last_change"
  n_Editor_macro : NoAttr K C.ed "macro"
  n_Editor_recorded : NoAttr K C.ed "recorded"
  n_Editor_coming : NoAttr K C.ed "coming"
  n_Editor_under_way : NoAttr K C.ed "under_way"
  n_Editor_before : NoAttr K C.ed "before"
  c_NORMAL : ∃ u, mg "NORMAL" = some u ∧ RelV (.int 0) u
  c_INSERT : ∃ u, mg "INSERT" = some u ∧ RelV (.int 1) u
  c_PROMPT : ∃ u, mg "PROMPT" = some u ∧ RelV (.int 2) u
  c_BYTE_OF_R : ∃ u, mg "BYTE_OF_R" = some u ∧ RelV (.int 3) u
  c_MOST_BYTES : ∃ u, mg "MOST_BYTES" = some u ∧ RelV (.int 200) u
  c_MOST_KEYS : ∃ u, mg "MOST_KEYS" = some u ∧ RelV (.int 60) u
  c_GREATEST_BYTE : ∃ u, mg "GREATEST_BYTE" = some u ∧ RelV (.int 255) u
  c_MOST_SELECTIONS : ∃ u, mg "MOST_SELECTIONS" = some u ∧ RelV (.int 30) u
  c_GREATEST_COUNT : ∃ u, mg "GREATEST_COUNT" = some u ∧ RelV (.int 99) u
  c_MOST_KEYS_FOR_ONE : ∃ u, mg "MOST_KEYS_FOR_ONE" = some u ∧ RelV (.int 500) u
  c_LINE_FEED : ∃ u, mg "LINE_FEED" = some u ∧ RelV (.int 10) u
  c_ESCAPE : ∃ u, mg "ESCAPE" = some u ∧ RelV (.int 27) u
  c_RUBOUT : ∃ u, mg "RUBOUT" = some u ∧ RelV (.int 127) u
  c_UNDERLINE : ∃ u, mg "UNDERLINE" = some u ∧ RelV (.int 95) u
  c_DIGIT_0 : ∃ u, mg "DIGIT_0" = some u ∧ RelV (.int 48) u
  c_KEY_Q : ∃ u, mg "KEY_Q" = some u ∧ RelV (.int 113) u
  c_TEXT : ∃ u, mg "TEXT" = some u ∧ RelV (.int 0) u
  c_KEYS : ∃ u, mg "KEYS" = some u ∧ RelV (.int 1) u
  g_STEPS_OF_CARETS : ∃ u, mg "STEPS_OF_CARETS" = some u ∧ RelV (.ref C.tSTEPS_OF_CARETS) u
  t_STEPS_OF_CARETS : WD K mg C.tSTEPS_OF_CARETS rows_STEPS_OF_CARETS
  g_STEPS_OF_HANDS : ∃ u, mg "STEPS_OF_HANDS" = some u ∧ RelV (.ref C.tSTEPS_OF_HANDS) u
  t_STEPS_OF_HANDS : WD K mg C.tSTEPS_OF_HANDS rows_STEPS_OF_HANDS
  g_CHOOSING : ∃ u, mg "CHOOSING" = some u ∧ RelV (.ref C.tCHOOSING) u
  t_CHOOSING : WD K mg C.tCHOOSING rows_CHOOSING
  g_EDITING : ∃ u, mg "EDITING" = some u ∧ RelV (.ref C.tEDITING) u
  t_EDITING : WD K mg C.tEDITING rows_EDITING
  g_BEGINNING_EDITS : ∃ u, mg "BEGINNING_EDITS" = some u ∧ RelV (.ref C.tBEGINNING_EDITS) u
  t_BEGINNING_EDITS : WD K mg C.tBEGINNING_EDITS rows_BEGINNING_EDITS
  g_FINDING : ∃ u, mg "FINDING" = some u ∧ RelV (.ref C.tFINDING) u
  t_FINDING : WD K mg C.tFINDING rows_FINDING
  g_PROMPTS : ∃ u, mg "PROMPTS" = some u ∧ RelV (.ref C.tPROMPTS) u
  t_PROMPTS : WD K mg C.tPROMPTS rows_PROMPTS
  g_NEVER_STEPS : ∃ u, mg "NEVER_STEPS" = some u ∧ RelV (.ref C.tNEVER_STEPS) u
  t_NEVER_STEPS : WD K mg C.tNEVER_STEPS rows_NEVER_STEPS
  g_TELLING : ∃ u, mg "TELLING" = some u ∧ RelV (.ref C.tTELLING) u
  t_TELLING : WD K mg C.tTELLING rows_TELLING
  b_len : mg "len" = none
  b_min : mg "min" = none
  b_max : mg "max" = none
  b_range : mg "range" = none
  b_sorted : mg "sorted" = none
  b_zip : mg "zip" = none
  b_any : mg "any" = none
  b_ValueError : mg "ValueError" = none
end Ke
end
section
set_option maxHeartbeats 4500000
namespace Ke
open PySem PySem.Spec L2 PyProof.Rows

def fas0 : List He.Fa := [.glo "caret", .glo "spanning", .glo "touches", .glo "made_one", .glo "tidied", .glo "carried_selections", .glo "line_begin", .glo "line_end", .glo "is_great_letter", .glo "is_small_letter", .glo "is_digit", .glo "is_word_byte", .glo "with_case_swapped", .glo "first_place", .glo "all_places", .glo "length_after", .glo "text_after", .glo "begins_after", .glo "alike_ahead", .glo "alike_behind"]
def fas1 : List He.Fa := [.glo "step_left", .glo "step_right", .glo "step_down", .glo "step_up", .glo "step_word_on", .glo "step_word_back", .glo "place_after", .glo "hands_after", .glo "move_carets", .glo "move_hands", .glo "whole_lines", .glo "choose_lines", .glo "choose_whole_text", .glo "choose_hands", .glo "choose_main_alone", .glo "choose_next_main", .glo "keep_aside", .glo "choose_kept", .glo "do_choosing", .glo "exchange_at_all"]
def fas2 : List He.Fa := [.glo "bytes_of_each", .glo "exchanges_of_each", .glo "exchange_for_as_many", .glo "copy_pieces", .glo "take_out", .glo "puts_for_each", .glo "put_pieces_at", .glo "put_pieces_behind", .glo "put_pieces_ahead", .glo "swap_case", .glo "select_carets", .glo "select_begins", .glo "select_ends", .glo "put_in_byte", .glo "take_out_bytes_ahead", .glo "insert_at_begins", .glo "insert_at_ends", .glo "insert_instead", .glo "insert_on_new_line", .glo "ask_for_byte"]
def fas3 : List He.Fa := [.glo "do_editing", .glo "begin_edit", .glo "do_insert_key", .glo "do_byte_of_r", .glo "matches_in", .glo "pieces_between", .glo "select_found", .glo "choose_matches", .glo "choose_pieces_between", .glo "place_of_searched", .glo "found_of_searched", .glo "choose_found", .glo "add_found", .glo "search", .glo "do_finding", .glo "begin_prompt", .glo "answer_prompt", .glo "do_prompt_key", .glo "undo", .glo "redo"]
def fas4 : List He.Fa := [.glo "let_come", .glo "play_last_change", .glo "play_macro", .glo "is_digit_of_count", .glo "begin_longer_command", .glo "do_whole_command", .glo "do_normal_key", .glo "do_key", .glo "switch_recording", .glo "do_with_what_comes", .glo "press", .glo "is_refused", .glo "counted", .glo "places_of", .glo "answer_of_selected", .glo "answer_of_keys", .glo "answer_of_shows", .glo "answer_of_selections", .glo "answer_of_registers", .glo "answer_of_macro"]
def fas5 : List He.Fa := [.glo "answer_of_steps", .glo "answer_of", .glo "calls_in", .glo "answers", .glo "Selection", .cls "Selection", .mkr "Selection", .noat "Selection" "anchor", .noat "Selection" "hand", .glo "Selections", .cls "Selections", .mkr "Selections", .noat "Selections" "each", .noat "Selections" "main", .glo "Carrier", .cls "Carrier", .mkr "Carrier", .noat "Carrier" "ahead", .noat "Carrier" "behind", .noat "Carrier" "old_length"]
def fas6 : List He.Fa := [.noat "Carrier" "new_length", .glo "Moment", .cls "Moment", .mkr "Moment", .noat "Moment" "text", .noat "Moment" "selected", .glo "Editor", .cls "Editor", .mkr "Editor", .noat "Editor" "text", .noat "Editor" "selected", .noat "Editor" "kept", .noat "Editor" "mode", .noat "Editor" "count", .noat "Editor" "pieces", .noat "Editor" "searched", .noat "Editor" "prompt", .noat "Editor" "prompt_key", .noat "Editor" "undoable", .noat "Editor" "redoable"]
def fas7 : List He.Fa := [.noat "Editor" "last_change", .noat "Editor" "macro", .noat "Editor" "recorded", .noat "Editor" "coming", .noat "Editor" "under_way", .noat "Editor" "before", .meth "Selection" "begin", .meth "Selection" "end", .meth "Selection" "is_caret", .meth "Selection" "looks_left", .meth "Selections" "main_one", .meth "Carrier" "carried", .meth "Editor" "now", .meth "Editor" "times", .meth "Editor" "select", .meth "Editor" "become", .meth "Editor" "go_back_to", .meth "Editor" "add_to_command", .meth "Editor" "end_command", .meth "Editor" "end_command_as_step"]
def fas8 : List He.Fa := [.int "NORMAL" 0, .int "INSERT" 1, .int "PROMPT" 2, .int "BYTE_OF_R" 3, .int "MOST_BYTES" 200, .int "MOST_KEYS" 60, .int "GREATEST_BYTE" 255, .int "MOST_SELECTIONS" 30, .int "GREATEST_COUNT" 99, .int "MOST_KEYS_FOR_ONE" 500, .int "LINE_FEED" 10, .int "ESCAPE" 27, .int "RUBOUT" 127, .int "UNDERLINE" 95, .int "DIGIT_0" 48, .int "KEY_Q" 113, .int "TEXT" 0, .int "KEYS" 1, .glo "STEPS_OF_CARETS", .glo "STEPS_OF_HANDS"]
def fas9 : List He.Fa := [.glo "CHOOSING", .glo "EDITING", .glo "BEGINNING_EDITS", .glo "FINDING", .glo "PROMPTS", .glo "NEVER_STEPS", .glo "TELLING", .free "len", .free "min", .free "max", .free "range", .free "sorted", .free "zip", .free "any", .free "ValueError"]
def fas : List He.Fa := fas0 ++ (fas1 ++ (fas2 ++ (fas3 ++ (fas4 ++ (fas5 ++ (fas6 ++ (fas7 ++ (fas8 ++ (fas9)))))))))
def fns0 : List He.DefD := [⟨("caret", none), "caret", "caret", defArgs s_caret, defBody s_caret, defScope s_caret, [], []⟩, ⟨("spanning", none), "spanning", "spanning", defArgs s_spanning, defBody s_spanning, defScope s_spanning, [], []⟩, ⟨("touches", none), "touches", "touches", defArgs s_touches, defBody s_touches, defScope s_touches, [], []⟩, ⟨("made_one", none), "made_one", "made_one", defArgs s_made_one, defBody s_made_one, defScope s_made_one, [], []⟩, ⟨("tidied", none), "tidied", "tidied", defArgs s_tidied, defBody s_tidied, defScope s_tidied, [], []⟩, ⟨("carried_selections", none), "carried_selections", "carried_selections", defArgs s_carried_selections, defBody s_carried_selections, defScope s_carried_selections, [], []⟩, ⟨("line_begin", none), "line_begin", "line_begin", defArgs s_line_begin, defBody s_line_begin, defScope s_line_begin, [], []⟩, ⟨("line_end", none), "line_end", "line_end", defArgs s_line_end, defBody s_line_end, defScope s_line_end, [], []⟩, ⟨("is_great_letter", none), "is_great_letter", "is_great_letter", defArgs s_is_great_letter, defBody s_is_great_letter, defScope s_is_great_letter, [], []⟩, ⟨("is_small_letter", none), "is_small_letter", "is_small_letter", defArgs s_is_small_letter, defBody s_is_small_letter, defScope s_is_small_letter, [], []⟩]
def fns1 : List He.DefD := [⟨("is_digit", none), "is_digit", "is_digit", defArgs s_is_digit, defBody s_is_digit, defScope s_is_digit, [], []⟩, ⟨("is_word_byte", none), "is_word_byte", "is_word_byte", defArgs s_is_word_byte, defBody s_is_word_byte, defScope s_is_word_byte, [], []⟩, ⟨("with_case_swapped", none), "with_case_swapped", "with_case_swapped", defArgs s_with_case_swapped, defBody s_with_case_swapped, defScope s_with_case_swapped, [], []⟩, ⟨("first_place", none), "first_place", "first_place", defArgs s_first_place, defBody s_first_place, defScope s_first_place, [], []⟩, ⟨("all_places", none), "all_places", "all_places", defArgs s_all_places, defBody s_all_places, defScope s_all_places, [], []⟩, ⟨("length_after", none), "length_after", "length_after", defArgs s_length_after, defBody s_length_after, defScope s_length_after, [], []⟩, ⟨("text_after", none), "text_after", "text_after", defArgs s_text_after, defBody s_text_after, defScope s_text_after, [], []⟩, ⟨("begins_after", none), "begins_after", "begins_after", defArgs s_begins_after, defBody s_begins_after, defScope s_begins_after, [], []⟩, ⟨("alike_ahead", none), "alike_ahead", "alike_ahead", defArgs s_alike_ahead, defBody s_alike_ahead, defScope s_alike_ahead, [], []⟩, ⟨("alike_behind", none), "alike_behind", "alike_behind", defArgs s_alike_behind, defBody s_alike_behind, defScope s_alike_behind, [], []⟩]
def fns2 : List He.DefD := [⟨("step_left", none), "step_left", "step_left", defArgs s_step_left, defBody s_step_left, defScope s_step_left, [], []⟩, ⟨("step_right", none), "step_right", "step_right", defArgs s_step_right, defBody s_step_right, defScope s_step_right, [], []⟩, ⟨("step_down", none), "step_down", "step_down", defArgs s_step_down, defBody s_step_down, defScope s_step_down, [], []⟩, ⟨("step_up", none), "step_up", "step_up", defArgs s_step_up, defBody s_step_up, defScope s_step_up, [], []⟩, ⟨("step_word_on", none), "step_word_on", "step_word_on", defArgs s_step_word_on, defBody s_step_word_on, defScope s_step_word_on, [], []⟩, ⟨("step_word_back", none), "step_word_back", "step_word_back", defArgs s_step_word_back, defBody s_step_word_back, defScope s_step_word_back, [], []⟩, ⟨("place_after", none), "place_after", "place_after", defArgs s_place_after, defBody s_place_after, defScope s_place_after, [], []⟩, ⟨("hands_after", none), "hands_after", "hands_after", defArgs s_hands_after, defBody s_hands_after, defScope s_hands_after, [], []⟩, ⟨("move_carets", none), "move_carets", "move_carets", defArgs s_move_carets, defBody s_move_carets, defScope s_move_carets, [], []⟩, ⟨("move_hands", none), "move_hands", "move_hands", defArgs s_move_hands, defBody s_move_hands, defScope s_move_hands, [], []⟩]
def fns3 : List He.DefD := [⟨("whole_lines", none), "whole_lines", "whole_lines", defArgs s_whole_lines, defBody s_whole_lines, defScope s_whole_lines, [], []⟩, ⟨("choose_lines", none), "choose_lines", "choose_lines", defArgs s_choose_lines, defBody s_choose_lines, defScope s_choose_lines, [], []⟩, ⟨("choose_whole_text", none), "choose_whole_text", "choose_whole_text", defArgs s_choose_whole_text, defBody s_choose_whole_text, defScope s_choose_whole_text, [], []⟩, ⟨("choose_hands", none), "choose_hands", "choose_hands", defArgs s_choose_hands, defBody s_choose_hands, defScope s_choose_hands, [], []⟩, ⟨("choose_main_alone", none), "choose_main_alone", "choose_main_alone", defArgs s_choose_main_alone, defBody s_choose_main_alone, defScope s_choose_main_alone, [], []⟩, ⟨("choose_next_main", none), "choose_next_main", "choose_next_main", defArgs s_choose_next_main, defBody s_choose_next_main, defScope s_choose_next_main, [], []⟩, ⟨("keep_aside", none), "keep_aside", "keep_aside", defArgs s_keep_aside, defBody s_keep_aside, defScope s_keep_aside, [], []⟩, ⟨("choose_kept", none), "choose_kept", "choose_kept", defArgs s_choose_kept, defBody s_choose_kept, defScope s_choose_kept, [], []⟩, ⟨("do_choosing", none), "do_choosing", "do_choosing", defArgs s_do_choosing, defBody s_do_choosing, defScope s_do_choosing, [], []⟩, ⟨("exchange_at_all", none), "exchange_at_all", "exchange_at_all", defArgs s_exchange_at_all, defBody s_exchange_at_all, defScope s_exchange_at_all, [], []⟩]
def fns4 : List He.DefD := [⟨("bytes_of_each", none), "bytes_of_each", "bytes_of_each", defArgs s_bytes_of_each, defBody s_bytes_of_each, defScope s_bytes_of_each, [], []⟩, ⟨("exchanges_of_each", none), "exchanges_of_each", "exchanges_of_each", defArgs s_exchanges_of_each, defBody s_exchanges_of_each, defScope s_exchanges_of_each, [], []⟩, ⟨("exchange_for_as_many", none), "exchange_for_as_many", "exchange_for_as_many", defArgs s_exchange_for_as_many, defBody s_exchange_for_as_many, defScope s_exchange_for_as_many, [], []⟩, ⟨("copy_pieces", none), "copy_pieces", "copy_pieces", defArgs s_copy_pieces, defBody s_copy_pieces, defScope s_copy_pieces, [], []⟩, ⟨("take_out", none), "take_out", "take_out", defArgs s_take_out, defBody s_take_out, defScope s_take_out, [], []⟩, ⟨("puts_for_each", none), "puts_for_each", "puts_for_each", defArgs s_puts_for_each, defBody s_puts_for_each, defScope s_puts_for_each, [], []⟩, ⟨("put_pieces_at", none), "put_pieces_at", "put_pieces_at", defArgs s_put_pieces_at, defBody s_put_pieces_at, defScope s_put_pieces_at, [], []⟩, ⟨("put_pieces_behind", none), "put_pieces_behind", "put_pieces_behind", defArgs s_put_pieces_behind, defBody s_put_pieces_behind, defScope s_put_pieces_behind, [], []⟩, ⟨("put_pieces_ahead", none), "put_pieces_ahead", "put_pieces_ahead", defArgs s_put_pieces_ahead, defBody s_put_pieces_ahead, defScope s_put_pieces_ahead, [], []⟩, ⟨("swap_case", none), "swap_case", "swap_case", defArgs s_swap_case, defBody s_swap_case, defScope s_swap_case, [], []⟩]
def fns5 : List He.DefD := [⟨("select_carets", none), "select_carets", "select_carets", defArgs s_select_carets, defBody s_select_carets, defScope s_select_carets, [], []⟩, ⟨("select_begins", none), "select_begins", "select_begins", defArgs s_select_begins, defBody s_select_begins, defScope s_select_begins, [], []⟩, ⟨("select_ends", none), "select_ends", "select_ends", defArgs s_select_ends, defBody s_select_ends, defScope s_select_ends, [], []⟩, ⟨("put_in_byte", none), "put_in_byte", "put_in_byte", defArgs s_put_in_byte, defBody s_put_in_byte, defScope s_put_in_byte, [], []⟩, ⟨("take_out_bytes_ahead", none), "take_out_bytes_ahead", "take_out_bytes_ahead", defArgs s_take_out_bytes_ahead, defBody s_take_out_bytes_ahead, defScope s_take_out_bytes_ahead, [], []⟩, ⟨("insert_at_begins", none), "insert_at_begins", "insert_at_begins", defArgs s_insert_at_begins, defBody s_insert_at_begins, defScope s_insert_at_begins, [], []⟩, ⟨("insert_at_ends", none), "insert_at_ends", "insert_at_ends", defArgs s_insert_at_ends, defBody s_insert_at_ends, defScope s_insert_at_ends, [], []⟩, ⟨("insert_instead", none), "insert_instead", "insert_instead", defArgs s_insert_instead, defBody s_insert_instead, defScope s_insert_instead, [], []⟩, ⟨("insert_on_new_line", none), "insert_on_new_line", "insert_on_new_line", defArgs s_insert_on_new_line, defBody s_insert_on_new_line, defScope s_insert_on_new_line, [], []⟩, ⟨("ask_for_byte", none), "ask_for_byte", "ask_for_byte", defArgs s_ask_for_byte, defBody s_ask_for_byte, defScope s_ask_for_byte, [], []⟩]
def fns6 : List He.DefD := [⟨("do_editing", none), "do_editing", "do_editing", defArgs s_do_editing, defBody s_do_editing, defScope s_do_editing, [], []⟩, ⟨("begin_edit", none), "begin_edit", "begin_edit", defArgs s_begin_edit, defBody s_begin_edit, defScope s_begin_edit, [], []⟩, ⟨("do_insert_key", none), "do_insert_key", "do_insert_key", defArgs s_do_insert_key, defBody s_do_insert_key, defScope s_do_insert_key, [], []⟩, ⟨("do_byte_of_r", none), "do_byte_of_r", "do_byte_of_r", defArgs s_do_byte_of_r, defBody s_do_byte_of_r, defScope s_do_byte_of_r, [], []⟩, ⟨("matches_in", none), "matches_in", "matches_in", defArgs s_matches_in, defBody s_matches_in, defScope s_matches_in, [], []⟩, ⟨("pieces_between", none), "pieces_between", "pieces_between", defArgs s_pieces_between, defBody s_pieces_between, defScope s_pieces_between, [], []⟩, ⟨("select_found", none), "select_found", "select_found", defArgs s_select_found, defBody s_select_found, defScope s_select_found, [], []⟩, ⟨("choose_matches", none), "choose_matches", "choose_matches", defArgs s_choose_matches, defBody s_choose_matches, defScope s_choose_matches, [], []⟩, ⟨("choose_pieces_between", none), "choose_pieces_between", "choose_pieces_between", defArgs s_choose_pieces_between, defBody s_choose_pieces_between, defScope s_choose_pieces_between, [], []⟩, ⟨("place_of_searched", none), "place_of_searched", "place_of_searched", defArgs s_place_of_searched, defBody s_place_of_searched, defScope s_place_of_searched, [], []⟩]
def fns7 : List He.DefD := [⟨("found_of_searched", none), "found_of_searched", "found_of_searched", defArgs s_found_of_searched, defBody s_found_of_searched, defScope s_found_of_searched, [], []⟩, ⟨("choose_found", none), "choose_found", "choose_found", defArgs s_choose_found, defBody s_choose_found, defScope s_choose_found, [], []⟩, ⟨("add_found", none), "add_found", "add_found", defArgs s_add_found, defBody s_add_found, defScope s_add_found, [], []⟩, ⟨("search", none), "search", "search", defArgs s_search, defBody s_search, defScope s_search, [], []⟩, ⟨("do_finding", none), "do_finding", "do_finding", defArgs s_do_finding, defBody s_do_finding, defScope s_do_finding, [], []⟩, ⟨("begin_prompt", none), "begin_prompt", "begin_prompt", defArgs s_begin_prompt, defBody s_begin_prompt, defScope s_begin_prompt, [], []⟩, ⟨("answer_prompt", none), "answer_prompt", "answer_prompt", defArgs s_answer_prompt, defBody s_answer_prompt, defScope s_answer_prompt, [], []⟩, ⟨("do_prompt_key", none), "do_prompt_key", "do_prompt_key", defArgs s_do_prompt_key, defBody s_do_prompt_key, defScope s_do_prompt_key, [], []⟩, ⟨("undo", none), "undo", "undo", defArgs s_undo, defBody s_undo, defScope s_undo, [], []⟩, ⟨("redo", none), "redo", "redo", defArgs s_redo, defBody s_redo, defScope s_redo, [], []⟩]
def fns8 : List He.DefD := [⟨("let_come", none), "let_come", "let_come", defArgs s_let_come, defBody s_let_come, defScope s_let_come, [], []⟩, ⟨("play_last_change", none), "play_last_change", "play_last_change", defArgs s_play_last_change, defBody s_play_last_change, defScope s_play_last_change, [], []⟩, ⟨("play_macro", none), "play_macro", "play_macro", defArgs s_play_macro, defBody s_play_macro, defScope s_play_macro, [], []⟩, ⟨("is_digit_of_count", none), "is_digit_of_count", "is_digit_of_count", defArgs s_is_digit_of_count, defBody s_is_digit_of_count, defScope s_is_digit_of_count, [], []⟩, ⟨("begin_longer_command", none), "begin_longer_command", "begin_longer_command", defArgs s_begin_longer_command, defBody s_begin_longer_command, defScope s_begin_longer_command, [], []⟩, ⟨("do_whole_command", none), "do_whole_command", "do_whole_command", defArgs s_do_whole_command, defBody s_do_whole_command, defScope s_do_whole_command, [], []⟩, ⟨("do_normal_key", none), "do_normal_key", "do_normal_key", defArgs s_do_normal_key, defBody s_do_normal_key, defScope s_do_normal_key, [], []⟩, ⟨("do_key", none), "do_key", "do_key", defArgs s_do_key, defBody s_do_key, defScope s_do_key, [], []⟩, ⟨("switch_recording", none), "switch_recording", "switch_recording", defArgs s_switch_recording, defBody s_switch_recording, defScope s_switch_recording, [], []⟩, ⟨("do_with_what_comes", none), "do_with_what_comes", "do_with_what_comes", defArgs s_do_with_what_comes, defBody s_do_with_what_comes, defScope s_do_with_what_comes, [], []⟩]
def fns9 : List He.DefD := [⟨("press", none), "press", "press", defArgs s_press, defBody s_press, defScope s_press, [], []⟩, ⟨("is_refused", none), "is_refused", "is_refused", defArgs s_is_refused, defBody s_is_refused, defScope s_is_refused, [], []⟩, ⟨("counted", none), "counted", "counted", defArgs s_counted, defBody s_counted, defScope s_counted, [], []⟩, ⟨("places_of", none), "places_of", "places_of", defArgs s_places_of, defBody s_places_of, defScope s_places_of, [], []⟩, ⟨("answer_of_selected", none), "answer_of_selected", "answer_of_selected", defArgs s_answer_of_selected, defBody s_answer_of_selected, defScope s_answer_of_selected, [], []⟩, ⟨("answer_of_keys", none), "answer_of_keys", "answer_of_keys", defArgs s_answer_of_keys, defBody s_answer_of_keys, defScope s_answer_of_keys, [], []⟩, ⟨("answer_of_shows", none), "answer_of_shows", "answer_of_shows", defArgs s_answer_of_shows, defBody s_answer_of_shows, defScope s_answer_of_shows, [], []⟩, ⟨("answer_of_selections", none), "answer_of_selections", "answer_of_selections", defArgs s_answer_of_selections, defBody s_answer_of_selections, defScope s_answer_of_selections, [], []⟩, ⟨("answer_of_registers", none), "answer_of_registers", "answer_of_registers", defArgs s_answer_of_registers, defBody s_answer_of_registers, defScope s_answer_of_registers, [], []⟩, ⟨("answer_of_macro", none), "answer_of_macro", "answer_of_macro", defArgs s_answer_of_macro, defBody s_answer_of_macro, defScope s_answer_of_macro, [], []⟩]
def fns10 : List He.DefD := [⟨("answer_of_steps", none), "answer_of_steps", "answer_of_steps", defArgs s_answer_of_steps, defBody s_answer_of_steps, defScope s_answer_of_steps, [], []⟩, ⟨("answer_of", none), "answer_of", "answer_of", defArgs s_answer_of, defBody s_answer_of, defScope s_answer_of, [], []⟩, ⟨("calls_in", none), "calls_in", "calls_in", defArgs s_calls_in, defBody s_calls_in, defScope s_calls_in, [], []⟩, ⟨("answers", none), "answers", "answers", defArgs s_answers, defBody s_answers, defScope s_answers, [], []⟩, ⟨("Selection", some "__init__"), "__init__", "Selection.__init__", defArgs s_Selection_init, defBody s_Selection_init, defScope s_Selection_init, [], []⟩, ⟨("Selection", some "begin"), "begin", "Selection.begin", defArgs s_Selection_begin, defBody s_Selection_begin, defScope s_Selection_begin, [], []⟩, ⟨("Selection", some "end"), "end", "Selection.end", defArgs s_Selection_end, defBody s_Selection_end, defScope s_Selection_end, [], []⟩, ⟨("Selection", some "is_caret"), "is_caret", "Selection.is_caret", defArgs s_Selection_is_caret, defBody s_Selection_is_caret, defScope s_Selection_is_caret, [], []⟩, ⟨("Selection", some "looks_left"), "looks_left", "Selection.looks_left", defArgs s_Selection_looks_left, defBody s_Selection_looks_left, defScope s_Selection_looks_left, [], []⟩, ⟨("Selections", some "__init__"), "__init__", "Selections.__init__", defArgs s_Selections_init, defBody s_Selections_init, defScope s_Selections_init, [], []⟩]
def fns11 : List He.DefD := [⟨("Selections", some "main_one"), "main_one", "Selections.main_one", defArgs s_Selections_main_one, defBody s_Selections_main_one, defScope s_Selections_main_one, [], []⟩, ⟨("Carrier", some "__init__"), "__init__", "Carrier.__init__", defArgs s_Carrier_init, defBody s_Carrier_init, defScope s_Carrier_init, [], []⟩, ⟨("Carrier", some "carried"), "carried", "Carrier.carried", defArgs s_Carrier_carried, defBody s_Carrier_carried, defScope s_Carrier_carried, [], []⟩, ⟨("Moment", some "__init__"), "__init__", "Moment.__init__", defArgs s_Moment_init, defBody s_Moment_init, defScope s_Moment_init, [], []⟩, ⟨("Editor", some "__init__"), "__init__", "Editor.__init__", defArgs s_Editor_init, defBody s_Editor_init, defScope s_Editor_init, [], []⟩, ⟨("Editor", some "now"), "now", "Editor.now", defArgs s_Editor_now, defBody s_Editor_now, defScope s_Editor_now, [], []⟩, ⟨("Editor", some "times"), "times", "Editor.times", defArgs s_Editor_times, defBody s_Editor_times, defScope s_Editor_times, [], []⟩, ⟨("Editor", some "select"), "select", "Editor.select", defArgs s_Editor_select, defBody s_Editor_select, defScope s_Editor_select, [], []⟩, ⟨("Editor", some "become"), "become", "Editor.become", defArgs s_Editor_become, defBody s_Editor_become, defScope s_Editor_become, [], []⟩, ⟨("Editor", some "go_back_to"), "go_back_to", "Editor.go_back_to", defArgs s_Editor_go_back_to, defBody s_Editor_go_back_to, defScope s_Editor_go_back_to, [], []⟩]
def fns12 : List He.DefD := [⟨("Editor", some "add_to_command"), "add_to_command", "Editor.add_to_command", defArgs s_Editor_add_to_command, defBody s_Editor_add_to_command, defScope s_Editor_add_to_command, [], []⟩, ⟨("Editor", some "end_command"), "end_command", "Editor.end_command", defArgs s_Editor_end_command, defBody s_Editor_end_command, defScope s_Editor_end_command, [], []⟩, ⟨("Editor", some "end_command_as_step"), "end_command_as_step", "Editor.end_command_as_step", defArgs s_Editor_end_command_as_step, defBody s_Editor_end_command_as_step, defScope s_Editor_end_command_as_step, [], []⟩]
def fns : List He.DefD := fns0 ++ (fns1 ++ (fns2 ++ (fns3 ++ (fns4 ++ (fns5 ++ (fns6 ++ (fns7 ++ (fns8 ++ (fns9 ++ (fns10 ++ (fns11 ++ (fns12))))))))))))
def wesB (K : PySem.W.Frag) : List DictEntry → List (Int × Str) → Bool
  | [], [] => true
  | e :: es, r :: rs => decide (e.hash = hashInt r.1) && (Value.isInt r.1 e.key && ((match e.val with
    | .ref f => He.eqO (PySem.W.nsIn K mainGlobals r.2) (some (some (.ref f)))
    | _ => false) && wesB K es rs))
  | _, _ => false
def wdB (K : PySem.W.Frag) (x : Str) (rows : List (Int × Str)) : Bool := (match K.lookup (He.ga K x) with
  | some ⟨.type c, none, .dict es _, sl⟩ => decide (c = "dict") && (sl.isEmpty && wesB K es.toList rows)
  | _ => false) && !(He.ga K x == sysModules)
def exB (K : PySem.W.Frag) : Bool := wdB K "STEPS_OF_CARETS" rows_STEPS_OF_CARETS && (wdB K "STEPS_OF_HANDS" rows_STEPS_OF_HANDS && (wdB K "CHOOSING" rows_CHOOSING && (wdB K "EDITING" rows_EDITING && (wdB K "BEGINNING_EDITS" rows_BEGINNING_EDITS && (wdB K "FINDING" rows_FINDING && (wdB K "PROMPTS" rows_PROMPTS && (wdB K "NEVER_STEPS" rows_NEVER_STEPS && (wdB K "TELLING" rows_TELLING))))))))
end Ke
end
section
set_option maxHeartbeats 0
namespace Ke
open PyProof.Rows PySem PySem.W PySem.Calls
abbrev Rw : OpenSpec := PySem.Challenge.rw_keyeditor_s01_answers
abbrev qv : Program := view Rw.prog [143]
def nm0 : List PySem.Str := ["NORMAL", "INSERT", "PROMPT", "BYTE_OF_R", "MOST_BYTES", "MOST_KEYS", "GREATEST_BYTE", "MOST_SELECTIONS", "GREATEST_COUNT", "MOST_KEYS_FOR_ONE", "LINE_FEED", "ESCAPE", "RUBOUT", "Selection"]
def nm1 : List PySem.Str := ["Selections", "caret", "spanning", "touches", "made_one", "tidied", "carried_selections", "UNDERLINE", "line_begin", "line_end", "is_great_letter", "is_small_letter", "is_digit", "is_word_byte", "with_case_swapped"]
def nm2 : List PySem.Str := ["first_place", "all_places", "length_after", "text_after", "begins_after", "alike_ahead", "alike_behind", "Carrier", "step_left", "step_right", "step_down", "step_up", "step_word_on", "step_word_back", "STEPS_OF_CARETS"]
def nm3 : List PySem.Str := ["STEPS_OF_HANDS", "place_after", "hands_after", "move_carets", "move_hands", "whole_lines", "choose_lines", "choose_whole_text", "choose_hands", "choose_main_alone", "choose_next_main", "keep_aside", "choose_kept", "CHOOSING", "do_choosing"]
def nm4 : List PySem.Str := ["exchange_at_all", "bytes_of_each", "exchanges_of_each", "exchange_for_as_many", "copy_pieces", "take_out", "puts_for_each", "put_pieces_at", "put_pieces_behind", "put_pieces_ahead", "swap_case", "select_carets", "select_begins", "select_ends", "put_in_byte"]
def nm5 : List PySem.Str := ["take_out_bytes_ahead", "insert_at_begins", "insert_at_ends", "insert_instead", "insert_on_new_line", "ask_for_byte", "EDITING", "BEGINNING_EDITS", "do_editing", "begin_edit", "do_insert_key", "do_byte_of_r", "matches_in", "pieces_between", "select_found"]
def nm6 : List PySem.Str := ["choose_matches", "choose_pieces_between", "place_of_searched", "found_of_searched", "choose_found", "add_found", "search", "FINDING", "PROMPTS", "do_finding", "begin_prompt", "answer_prompt", "do_prompt_key", "DIGIT_0", "KEY_Q"]
def nm7 : List PySem.Str := ["undo", "redo", "let_come", "play_last_change", "play_macro", "NEVER_STEPS", "is_digit_of_count", "begin_longer_command", "do_whole_command", "do_normal_key", "do_key", "switch_recording", "do_with_what_comes", "press", "Moment"]
def nm8 : List PySem.Str := ["Editor", "TEXT", "KEYS", "is_refused", "counted", "places_of", "answer_of_selected", "answer_of_keys", "answer_of_shows", "answer_of_selections", "answer_of_registers", "answer_of_macro", "answer_of_steps", "TELLING", "answer_of"]
def nm9 : List PySem.Str := ["calls_in"]
def names : List PySem.Str := nm0 ++ (nm1 ++ (nm2 ++ (nm3 ++ (nm4 ++ (nm5 ++ (nm6 ++ (nm7 ++ (nm8 ++ (nm9)))))))))
/-- the objects behind the top: all that there are -/
def keK (g : Addr → Option Obj) : PySem.W.Frag := He.frT g (List.range 909)
abbrev tcP (K : PySem.W.Frag) : Addr × Addr := He.cT K ("tidied", none)
def tabY (g : Addr → Option Obj) : Bool := PySem.W.codeHdIn (keK g) (tcP (keK g)).1 (tcP (keK g)).2 && (match g (tcP (keK g)).2 with
  | some o => He.emptyTab o
  | none => false)
def o1 (g : Addr → Option Obj) : Bool := fas.all fun f => f.ok (keK g)
def o2 (g : Addr → Option Obj) : Bool := fns.all fun d => d.ok (keK g)
def o2a (g : Addr → Option Obj) : Bool := (fns.take 62).all fun d => d.ok (keK g)
def o2b (g : Addr → Option Obj) : Bool := (fns.drop 62).all fun d => d.ok (keK g)
theorem o2_of {g : Addr → Option Obj} (h1 : o2a g = true) (h2 : o2b g = true) : o2 g = true := by
  unfold o2
  rw [← List.take_append_drop 62 fns, List.all_append, Bool.and_eq_true]
  exact ⟨h1, h2⟩
def o3 (g : Addr → Option Obj) : List He.FnW := fns.map fun d => He.fnW (keK g) d.at_
def o4 (g : Addr → Option Obj) : Bool := exB (keK g) && tabY g
abbrev AlY : Type := (Bool × Bool) × (List He.FnW × Bool)
def obsY (g : Addr → Option Obj) : AlY := ((o1 g, o2 g), (o3 g, o4 g))
def valY : AlY := ((true, true), (fns.map He.DefD.val, true))
/-- what the head tells of a heap -/
structure HeadS (h : Heap) (K : PySem.W.Frag) : Prop where
  inn : K.In h
  d : He.SaysD fas fns K
  more : exB K = true
  hd : PySem.W.codeHdIn K (tcP K).1 (tcP K).2 = true
  out : K.lookup (tcP K).2 = none
  empty : h.get? (tcP K).2 = some { cls := .none, data := .fields #[] }
theorem headS_of {h : Heap} (e : obsY h.get? = valY) : HeadS h (keK h.get?) := by
  have e1 : o1 h.get? = true := congrArg (fun z : AlY => z.1.1) e
  have e2 : o2 h.get? = true := congrArg (fun z : AlY => z.1.2) e
  have e3 : o3 h.get? = fns.map He.DefD.val := congrArg (fun z : AlY => z.2.1) e
  have e4 : (exB (keK h.get?) && tabY h.get?) = true := congrArg (fun z : AlY => z.2.2) e
  obtain ⟨e5, e6⟩ := He.ba e4
  obtain ⟨e7, e8⟩ := He.ba e6
  have sd : He.SaysD fas fns (keK h.get?) := by
    show (o1 h.get? && o2 h.get?, o3 h.get?) = (true, fns.map He.DefD.val)
    rw [e1, e2, e3]
    rfl
  cases q : h.get? (tcP (keK h.get?)).2 with
  | none =>
    rw [q] at e8
    cases e8
  | some o =>
    rw [q] at e8
    exact ⟨He.frT_in, sd, e5, e7, He.frT_none q e8, by rw [q, He.emptyTab_eq e8]⟩
def hkX : PySem.W.Hook where
  α := AlY
  obs := fun s => obsY s.heap.get?
  val := fun _ => valY
  says := fun _ h => ∃ K : PySem.W.Frag, HeadS h K
  of := fun _ _ e => ⟨_, headS_of e⟩
  keeps := fun _ _ _ ⟨K, c⟩ k => ⟨K, PySem.W.Frag.In.keeps c.inn k, c.d, c.more, c.hd, c.out, k _ _ c.empty⟩
noncomputable def obT (s : SharedT) : AlY := obsY (HandSHeadRun.getT s)
theorem obT_eq (s : SharedT) : obT s = hkX.obs s.abs := by
  have e : HandSHeadRun.getT s = s.abs.heap.get? := funext (HandSHeadRun.getT_eq s)
  show obsY (HandSHeadRun.getT s) = obsY s.abs.heap.get?
  rw [e]
/-! ### the top's run, looked at piece by piece -/
noncomputable abbrev endY (w : World) (os : OsState) : Option SharedT := HandSHeadRun.endF (HandSHeadRun.stepQ (HandSHeadRun.denQ HandSHeadRun.tabQ) Rw.prog w) 6000 Rw.prog w os
noncomputable abbrev lookY (w : World) (s : SharedT) := (HandSHeadRun.looksF Rw.prog (boot_heap w.params) s.abs, HandSHeadRun.seenQ qv names (importedModules Rw.prog.main.body) (fun s => xlAt qv [] s && recOk [] s) s.abs)
theorem map_two {A B D : Type} {x : Option A} {f : A → B} {g : A → D} {b : B} {d : D} (h1 : x.map f = some b) (h2 : x.map g = some d) : x.map (fun s => (f s, g s)) = some (b, d) := by
  cases x with
  | none => cases h1
  | some a =>
    have e1 : f a = b := Option.some.inj h1
    have e2 : g a = d := Option.some.inj h2
    show some (f a, g a) = some (b, d)
    rw [e1, e2]
theorem run_join {w : World} (h1 : ∀ os, (endY w os).map (lookY w) = some (true, openGood qv names)) (h2 : ∀ os, (endY w os).map obT = some valY) : HandSHeadRun.RunEqS Rw qv hkX obT 6000 names w := by
  intro os
  have h := map_two (h1 os) (h2 os)
  cases q : endY w os with
  | none =>
    rw [q] at h
    cases h
  | some s =>
    rw [q] at h
    have e := Option.some.inj h
    have e1 : HandSHeadRun.looksF Rw.prog (boot_heap w.params) s.abs = true := congrArg (fun z => z.1.1) e
    have e2 : HandSHeadRun.seenQ qv names (importedModules Rw.prog.main.body) (fun s => xlAt qv [] s && recOk [] s) s.abs = openGood qv names := congrArg (fun z => z.1.2) e
    have e3 : obT s = valY := congrArg (fun z => z.2) e
    show (endY w os).map _ = _
    rw [q]
    show some (HandSHeadRun.looksF Rw.prog (boot_heap w.params) s.abs, HandSHeadRun.seenQ qv names (importedModules Rw.prog.main.body) (fun s => xlAt qv [] s && recOk [] s) s.abs, obT s) = some (true, openGood qv names, valY)
    rw [e1, e2, e3]
theorem ob_join {w : World} (h1 : ∀ os, (endY w os).map (fun s => o1 (HandSHeadRun.getT s)) = some true) (h2 : ∀ os, (endY w os).map (fun s => o2a (HandSHeadRun.getT s)) = some true) (h4 : ∀ os, (endY w os).map (fun s => o2b (HandSHeadRun.getT s)) = some true) (h3 : ∀ os, (endY w os).map (fun s => (o3 (HandSHeadRun.getT s), o4 (HandSHeadRun.getT s))) = some (fns.map He.DefD.val, true)) :
    ∀ os, (endY w os).map obT = some valY := by
  intro os
  have h := map_two (h1 os) (map_two (map_two (h2 os) (h4 os)) (h3 os))
  cases q : endY w os with
  | none =>
    rw [q] at h
    cases h
  | some s =>
    rw [q] at h
    have e := Option.some.inj h
    have e1 : o1 (HandSHeadRun.getT s) = true := congrArg (fun z => z.1) e
    have e2 : o2 (HandSHeadRun.getT s) = true := o2_of (congrArg (fun z => z.2.1.1) e) (congrArg (fun z => z.2.1.2) e)
    have e3 : o3 (HandSHeadRun.getT s) = fns.map He.DefD.val := congrArg (fun z => z.2.2.1) e
    have e4 : o4 (HandSHeadRun.getT s) = true := congrArg (fun z => z.2.2.2) e
    show some (obsY (HandSHeadRun.getT s)) = some valY
    unfold obsY valY
    rw [e1, e2, e3, e4]
theorem said : Rw.wellSaid = true := by decide +kernel
theorem chains : (chainsOk qv && opensWell Rw.prog) = true := by decide +kernel
theorem bareP : Rw.prog.bare := ⟨rfl, rfl, rfl, rfl, rfl, by decide +kernel⟩
theorem witness : ∃ args, Rw.pre args = true ∧ WData.layableAll args = true := ⟨[.list [.int 2]], by decide +kernel, by decide +kernel⟩
end Ke
end
section
set_option maxHeartbeats 0
namespace Ke
open PyProof.Rows PySem PySem.W PySem.Calls
theorem lk_f (w : World) (os : OsState) : (endY (w.withFollow "special-get-raises" false) os).map (lookY (w.withFollow "special-get-raises" false)) = some (true, openGood qv names) := by
  kernel_rfl
theorem o1_f (w : World) (os : OsState) : (endY (w.withFollow "special-get-raises" false) os).map (fun s => o1 (HandSHeadRun.getT s)) = some true := by
  kernel_rfl
theorem p2_f (w : World) (os : OsState) : (endY (w.withFollow "special-get-raises" false) os).map (fun s => o2a (HandSHeadRun.getT s)) = some true := by
  kernel_rfl
theorem q2_f (w : World) (os : OsState) : (endY (w.withFollow "special-get-raises" false) os).map (fun s => o2b (HandSHeadRun.getT s)) = some true := by
  kernel_rfl
theorem o3_f (w : World) (os : OsState) : (endY (w.withFollow "special-get-raises" false) os).map (fun s => (o3 (HandSHeadRun.getT s), o4 (HandSHeadRun.getT s))) = some (fns.map He.DefD.val, true) := by
  kernel_rfl
theorem lk_t (w : World) (os : OsState) : (endY (w.withFollow "special-get-raises" true) os).map (lookY (w.withFollow "special-get-raises" true)) = some (true, openGood qv names) := by
  kernel_rfl
theorem o1_t (w : World) (os : OsState) : (endY (w.withFollow "special-get-raises" true) os).map (fun s => o1 (HandSHeadRun.getT s)) = some true := by
  kernel_rfl
theorem p2_t (w : World) (os : OsState) : (endY (w.withFollow "special-get-raises" true) os).map (fun s => o2a (HandSHeadRun.getT s)) = some true := by
  kernel_rfl
theorem q2_t (w : World) (os : OsState) : (endY (w.withFollow "special-get-raises" true) os).map (fun s => o2b (HandSHeadRun.getT s)) = some true := by
  kernel_rfl
theorem o3_t (w : World) (os : OsState) : (endY (w.withFollow "special-get-raises" true) os).map (fun s => (o3 (HandSHeadRun.getT s), o4 (HandSHeadRun.getT s))) = some (fns.map He.DefD.val, true) := by
  kernel_rfl
theorem run (w : World) : HandSHeadRun.RunEqS Rw qv hkX obT 6000 names w :=
  byRow2 "special-get-raises" (fun w => run_join (lk_f w) (ob_join (o1_f w) (p2_f w) (q2_f w) (o3_f w))) (fun w => run_join (lk_t w) (ob_join (o1_t w) (p2_t w) (q2_t w) (o3_t w))) w
end Ke
end
section
set_option maxHeartbeats 4500000
namespace Ke
open PySem PySem.Spec L2 PyProof.Rows
theorem wes_ok {K : PySem.W.Frag} {h : Heap} {mg : Str → Option Value} (X : K.In h) (G : h.Ns mainGlobals mg) : ∀ {es : List DictEntry} {rs : List (Int × Str)}, wesB K es rs = true → WEs mg es rs
  | [], [], _ => .nil
  | [], _ :: _, c => by cases c
  | _ :: _, [], c => by cases c
  | e :: es, (k, n) :: rs, c => by
    obtain ⟨c1, c⟩ := He.ba (show (decide (e.hash = hashInt k) && (Value.isInt k e.key && ((match e.val with
      | .ref f => He.eqO (PySem.W.nsIn K mainGlobals n) (some (some (.ref f)))
      | _ => false) && wesB K es rs))) = true from c)
    obtain ⟨c2, c⟩ := He.ba c
    obtain ⟨c3, c4⟩ := He.ba c
    cases hv : e.val with
    | ref f =>
      rw [hv] at c3
      exact .cons (of_decide_eq_true c1) c2 hv (PySem.W.mg_of X G (He.eqO_ok c3)) (wes_ok X G c4)
    | _ =>
      rw [hv] at c3
      cases c3
theorem wd_ok {K : PySem.W.Frag} {h : Heap} {mg : Str → Option Value} (X : K.In h) (G : h.Ns mainGlobals mg) {x : Str} {rows : List (Int × Str)} (c : wdB K x rows = true) (nd : (rows.map (·.1)).Nodup) : WD K mg (He.ga K x) rows := by
  obtain ⟨c1, c2⟩ := He.ba c
  refine ⟨?_, nd, by simpa using c2⟩
  cases q : K.lookup (He.ga K x) with
  | none =>
    rw [q] at c1
    cases c1
  | some o =>
    obtain ⟨oc, od, dt, osl⟩ := o
    rw [q] at c1
    cases oc with
    | type t =>
      cases od with
      | none =>
        cases dt with
        | dict es ep =>
          obtain ⟨a1, a⟩ := He.ba (show (decide (t = "dict") && (osl.isEmpty && wesB K es.toList rows)) = true from c1)
          obtain ⟨a2, a3⟩ := He.ba a
          refine ⟨es, ep, ?_, wes_ok X G a3⟩
          rw [of_decide_eq_true a1, Array.isEmpty_iff.mp a2]
        | _ => cases c1
      | some d => cases dt <;> cases c1
    | _ => cases od <;> cases dt <;> cases c1
section
variable {mg : Str → Option Value} {K : PySem.W.Frag} {h : Heap}
theorem int_is {x : Str} {i : Int} (e : ∃ t, mg x = some (.int i t)) : ∃ u, mg x = some u ∧ RelV (.int i) u := by
  obtain ⟨t, e⟩ := e
  exact ⟨_, e, t, rfl⟩
theorem defG_of {x : Str} {st : Stmt} (e : mg x = some (.ref (He.ga K x))) (f : ∃ fd, FunD K x x (defArgs st) (defBody st) (defScope st) [] [] (He.ga K x) fd) : DefG K mg x st := by
  obtain ⟨fd, f⟩ := f
  exact ⟨_, fd, e, f⟩
theorem metG_of {c m q : Str} {st : Stmt} (e : Meth K (He.ga K c) m (He.ma K (He.ga K c) m)) (f : ∃ fd, FunD K m q (defArgs st) (defBody st) (defScope st) [] [] (He.ma K (He.ga K c) m) fd) : MetG K (He.ga K c) m q st := by
  obtain ⟨fd, f⟩ := f
  exact ⟨_, fd, e, f⟩
theorem makG_of {c q : Str} {st : Stmt} (e : mg c = some (.ref (He.ga K c))) (k : Mk K (He.ga K c) (He.ma K (He.ga K c) "__init__")) (f : ∃ fd, FunD K "__init__" q (defArgs st) (defBody st) (defScope st) [] [] (He.ma K (He.ga K c) "__init__") fd) : MakG K mg c (He.ga K c) q st := by
  obtain ⟨fd, f⟩ := f
  exact ⟨_, fd, e, k, f⟩
theorem defT_of {x : Str} {st : Stmt} (e : mg x = some (.ref (He.ga K x))) (f : ∃ fd, FunD K x x (defArgs st) (defBody st) (defScope st) [] [] (He.ga K x) fd) : DefT K mg x st (He.cT K (x, none)).1 := by
  obtain ⟨fd, ⟨oc, od, dV, kV, doc, pm, an, cdv, ct, osl, rfl, lk, hcd, dd, kk⟩, kp⟩ := f
  obtain ⟨c, rfl⟩ := He.codeIn_ref hcd
  have ec : He.codeOf K (x, none) = c := He.codeOf_eq (p := (x, none)) lk rfl
  have ed : dV = .none := dd.elim (fun z => z.2) fun z => absurd rfl z.1
  subst ed
  have ec2 : (He.cT K (x, none)).1 = c := ec
  rw [ec2]
  exact ⟨He.ga K x, oc, kV, doc, pm, ct, od, an, osl, e, lk, hcd, kp⟩

def caOf (K : PySem.W.Frag) : Ca := ⟨He.ga K "Selection", He.ga K "Selections", He.ga K "Carrier", He.ga K "Moment", He.ga K "Editor", He.ga K "STEPS_OF_CARETS", He.ga K "STEPS_OF_HANDS", He.ga K "CHOOSING", He.ga K "EDITING", He.ga K "BEGINNING_EDITS", He.ga K "FINDING", He.ga K "PROMPTS", He.ga K "NEVER_STEPS", He.ga K "TELLING", (He.cT K ("tidied", none)).1, (He.cT K ("tidied", none)).2⟩
theorem gs_of (X : K.In h) (G : h.Ns mainGlobals mg) (c : He.SaysD fas fns K) (x : exB K = true) : Gs K mg (caOf K) := by
  obtain ⟨w0, x⟩ := He.ba x
  obtain ⟨w1, x⟩ := He.ba x
  obtain ⟨w2, x⟩ := He.ba x
  obtain ⟨w3, x⟩ := He.ba x
  obtain ⟨w4, x⟩ := He.ba x
  obtain ⟨w5, x⟩ := He.ba x
  obtain ⟨w6, x⟩ := He.ba x
  obtain ⟨w7, x⟩ := He.ba x
  have w8 := x
  exact {
    d_caret := defG_of (He.glo_ok X G (c.fact 0)) (c.def_ 0)
    d_spanning := defG_of (He.glo_ok X G (c.fact 1)) (c.def_ 1)
    d_touches := defG_of (He.glo_ok X G (c.fact 2)) (c.def_ 2)
    d_made_one := defG_of (He.glo_ok X G (c.fact 3)) (c.def_ 3)
    d_tidied := defT_of (He.glo_ok X G (c.fact 4)) (c.def_ 4)
    d_carried_selections := defG_of (He.glo_ok X G (c.fact 5)) (c.def_ 5)
    d_line_begin := defG_of (He.glo_ok X G (c.fact 6)) (c.def_ 6)
    d_line_end := defG_of (He.glo_ok X G (c.fact 7)) (c.def_ 7)
    d_is_great_letter := defG_of (He.glo_ok X G (c.fact 8)) (c.def_ 8)
    d_is_small_letter := defG_of (He.glo_ok X G (c.fact 9)) (c.def_ 9)
    d_is_digit := defG_of (He.glo_ok X G (c.fact 10)) (c.def_ 10)
    d_is_word_byte := defG_of (He.glo_ok X G (c.fact 11)) (c.def_ 11)
    d_with_case_swapped := defG_of (He.glo_ok X G (c.fact 12)) (c.def_ 12)
    d_first_place := defG_of (He.glo_ok X G (c.fact 13)) (c.def_ 13)
    d_all_places := defG_of (He.glo_ok X G (c.fact 14)) (c.def_ 14)
    d_length_after := defG_of (He.glo_ok X G (c.fact 15)) (c.def_ 15)
    d_text_after := defG_of (He.glo_ok X G (c.fact 16)) (c.def_ 16)
    d_begins_after := defG_of (He.glo_ok X G (c.fact 17)) (c.def_ 17)
    d_alike_ahead := defG_of (He.glo_ok X G (c.fact 18)) (c.def_ 18)
    d_alike_behind := defG_of (He.glo_ok X G (c.fact 19)) (c.def_ 19)
    d_step_left := defG_of (He.glo_ok X G (c.fact 20)) (c.def_ 20)
    d_step_right := defG_of (He.glo_ok X G (c.fact 21)) (c.def_ 21)
    d_step_down := defG_of (He.glo_ok X G (c.fact 22)) (c.def_ 22)
    d_step_up := defG_of (He.glo_ok X G (c.fact 23)) (c.def_ 23)
    d_step_word_on := defG_of (He.glo_ok X G (c.fact 24)) (c.def_ 24)
    d_step_word_back := defG_of (He.glo_ok X G (c.fact 25)) (c.def_ 25)
    d_place_after := defG_of (He.glo_ok X G (c.fact 26)) (c.def_ 26)
    d_hands_after := defG_of (He.glo_ok X G (c.fact 27)) (c.def_ 27)
    d_move_carets := defG_of (He.glo_ok X G (c.fact 28)) (c.def_ 28)
    d_move_hands := defG_of (He.glo_ok X G (c.fact 29)) (c.def_ 29)
    d_whole_lines := defG_of (He.glo_ok X G (c.fact 30)) (c.def_ 30)
    d_choose_lines := defG_of (He.glo_ok X G (c.fact 31)) (c.def_ 31)
    d_choose_whole_text := defG_of (He.glo_ok X G (c.fact 32)) (c.def_ 32)
    d_choose_hands := defG_of (He.glo_ok X G (c.fact 33)) (c.def_ 33)
    d_choose_main_alone := defG_of (He.glo_ok X G (c.fact 34)) (c.def_ 34)
    d_choose_next_main := defG_of (He.glo_ok X G (c.fact 35)) (c.def_ 35)
    d_keep_aside := defG_of (He.glo_ok X G (c.fact 36)) (c.def_ 36)
    d_choose_kept := defG_of (He.glo_ok X G (c.fact 37)) (c.def_ 37)
    d_do_choosing := defG_of (He.glo_ok X G (c.fact 38)) (c.def_ 38)
    d_exchange_at_all := defG_of (He.glo_ok X G (c.fact 39)) (c.def_ 39)
    d_bytes_of_each := defG_of (He.glo_ok X G (c.fact 40)) (c.def_ 40)
    d_exchanges_of_each := defG_of (He.glo_ok X G (c.fact 41)) (c.def_ 41)
    d_exchange_for_as_many := defG_of (He.glo_ok X G (c.fact 42)) (c.def_ 42)
    d_copy_pieces := defG_of (He.glo_ok X G (c.fact 43)) (c.def_ 43)
    d_take_out := defG_of (He.glo_ok X G (c.fact 44)) (c.def_ 44)
    d_puts_for_each := defG_of (He.glo_ok X G (c.fact 45)) (c.def_ 45)
    d_put_pieces_at := defG_of (He.glo_ok X G (c.fact 46)) (c.def_ 46)
    d_put_pieces_behind := defG_of (He.glo_ok X G (c.fact 47)) (c.def_ 47)
    d_put_pieces_ahead := defG_of (He.glo_ok X G (c.fact 48)) (c.def_ 48)
    d_swap_case := defG_of (He.glo_ok X G (c.fact 49)) (c.def_ 49)
    d_select_carets := defG_of (He.glo_ok X G (c.fact 50)) (c.def_ 50)
    d_select_begins := defG_of (He.glo_ok X G (c.fact 51)) (c.def_ 51)
    d_select_ends := defG_of (He.glo_ok X G (c.fact 52)) (c.def_ 52)
    d_put_in_byte := defG_of (He.glo_ok X G (c.fact 53)) (c.def_ 53)
    d_take_out_bytes_ahead := defG_of (He.glo_ok X G (c.fact 54)) (c.def_ 54)
    d_insert_at_begins := defG_of (He.glo_ok X G (c.fact 55)) (c.def_ 55)
    d_insert_at_ends := defG_of (He.glo_ok X G (c.fact 56)) (c.def_ 56)
    d_insert_instead := defG_of (He.glo_ok X G (c.fact 57)) (c.def_ 57)
    d_insert_on_new_line := defG_of (He.glo_ok X G (c.fact 58)) (c.def_ 58)
    d_ask_for_byte := defG_of (He.glo_ok X G (c.fact 59)) (c.def_ 59)
    d_do_editing := defG_of (He.glo_ok X G (c.fact 60)) (c.def_ 60)
    d_begin_edit := defG_of (He.glo_ok X G (c.fact 61)) (c.def_ 61)
    d_do_insert_key := defG_of (He.glo_ok X G (c.fact 62)) (c.def_ 62)
    d_do_byte_of_r := defG_of (He.glo_ok X G (c.fact 63)) (c.def_ 63)
    d_matches_in := defG_of (He.glo_ok X G (c.fact 64)) (c.def_ 64)
    d_pieces_between := defG_of (He.glo_ok X G (c.fact 65)) (c.def_ 65)
    d_select_found := defG_of (He.glo_ok X G (c.fact 66)) (c.def_ 66)
    d_choose_matches := defG_of (He.glo_ok X G (c.fact 67)) (c.def_ 67)
    d_choose_pieces_between := defG_of (He.glo_ok X G (c.fact 68)) (c.def_ 68)
    d_place_of_searched := defG_of (He.glo_ok X G (c.fact 69)) (c.def_ 69)
    d_found_of_searched := defG_of (He.glo_ok X G (c.fact 70)) (c.def_ 70)
    d_choose_found := defG_of (He.glo_ok X G (c.fact 71)) (c.def_ 71)
    d_add_found := defG_of (He.glo_ok X G (c.fact 72)) (c.def_ 72)
    d_search := defG_of (He.glo_ok X G (c.fact 73)) (c.def_ 73)
    d_do_finding := defG_of (He.glo_ok X G (c.fact 74)) (c.def_ 74)
    d_begin_prompt := defG_of (He.glo_ok X G (c.fact 75)) (c.def_ 75)
    d_answer_prompt := defG_of (He.glo_ok X G (c.fact 76)) (c.def_ 76)
    d_do_prompt_key := defG_of (He.glo_ok X G (c.fact 77)) (c.def_ 77)
    d_undo := defG_of (He.glo_ok X G (c.fact 78)) (c.def_ 78)
    d_redo := defG_of (He.glo_ok X G (c.fact 79)) (c.def_ 79)
    d_let_come := defG_of (He.glo_ok X G (c.fact 80)) (c.def_ 80)
    d_play_last_change := defG_of (He.glo_ok X G (c.fact 81)) (c.def_ 81)
    d_play_macro := defG_of (He.glo_ok X G (c.fact 82)) (c.def_ 82)
    d_is_digit_of_count := defG_of (He.glo_ok X G (c.fact 83)) (c.def_ 83)
    d_begin_longer_command := defG_of (He.glo_ok X G (c.fact 84)) (c.def_ 84)
    d_do_whole_command := defG_of (He.glo_ok X G (c.fact 85)) (c.def_ 85)
    d_do_normal_key := defG_of (He.glo_ok X G (c.fact 86)) (c.def_ 86)
    d_do_key := defG_of (He.glo_ok X G (c.fact 87)) (c.def_ 87)
    d_switch_recording := defG_of (He.glo_ok X G (c.fact 88)) (c.def_ 88)
    d_do_with_what_comes := defG_of (He.glo_ok X G (c.fact 89)) (c.def_ 89)
    d_press := defG_of (He.glo_ok X G (c.fact 90)) (c.def_ 90)
    d_is_refused := defG_of (He.glo_ok X G (c.fact 91)) (c.def_ 91)
    d_counted := defG_of (He.glo_ok X G (c.fact 92)) (c.def_ 92)
    d_places_of := defG_of (He.glo_ok X G (c.fact 93)) (c.def_ 93)
    d_answer_of_selected := defG_of (He.glo_ok X G (c.fact 94)) (c.def_ 94)
    d_answer_of_keys := defG_of (He.glo_ok X G (c.fact 95)) (c.def_ 95)
    d_answer_of_shows := defG_of (He.glo_ok X G (c.fact 96)) (c.def_ 96)
    d_answer_of_selections := defG_of (He.glo_ok X G (c.fact 97)) (c.def_ 97)
    d_answer_of_registers := defG_of (He.glo_ok X G (c.fact 98)) (c.def_ 98)
    d_answer_of_macro := defG_of (He.glo_ok X G (c.fact 99)) (c.def_ 99)
    d_answer_of_steps := defG_of (He.glo_ok X G (c.fact 100)) (c.def_ 100)
    d_answer_of := defG_of (He.glo_ok X G (c.fact 101)) (c.def_ 101)
    d_calls_in := defG_of (He.glo_ok X G (c.fact 102)) (c.def_ 102)
    d_answers := defG_of (He.glo_ok X G (c.fact 103)) (c.def_ 103)
    d_Selection_init := makG_of (He.glo_ok X G (c.fact 104)) (He.mkr_ok (c.fact 106)) (c.def_ 104)
    d_Selection_begin := metG_of (He.meth_ok (c.fact 146)) (c.def_ 105)
    d_Selection_end := metG_of (He.meth_ok (c.fact 147)) (c.def_ 106)
    d_Selection_is_caret := metG_of (He.meth_ok (c.fact 148)) (c.def_ 107)
    d_Selection_looks_left := metG_of (He.meth_ok (c.fact 149)) (c.def_ 108)
    d_Selections_init := makG_of (He.glo_ok X G (c.fact 109)) (He.mkr_ok (c.fact 111)) (c.def_ 109)
    d_Selections_main_one := metG_of (He.meth_ok (c.fact 150)) (c.def_ 110)
    d_Carrier_init := makG_of (He.glo_ok X G (c.fact 114)) (He.mkr_ok (c.fact 116)) (c.def_ 111)
    d_Carrier_carried := metG_of (He.meth_ok (c.fact 151)) (c.def_ 112)
    d_Moment_init := makG_of (He.glo_ok X G (c.fact 121)) (He.mkr_ok (c.fact 123)) (c.def_ 113)
    d_Editor_init := makG_of (He.glo_ok X G (c.fact 126)) (He.mkr_ok (c.fact 128)) (c.def_ 114)
    d_Editor_now := metG_of (He.meth_ok (c.fact 152)) (c.def_ 115)
    d_Editor_times := metG_of (He.meth_ok (c.fact 153)) (c.def_ 116)
    d_Editor_select := metG_of (He.meth_ok (c.fact 154)) (c.def_ 117)
    d_Editor_become := metG_of (He.meth_ok (c.fact 155)) (c.def_ 118)
    d_Editor_go_back_to := metG_of (He.meth_ok (c.fact 156)) (c.def_ 119)
    d_Editor_add_to_command := metG_of (He.meth_ok (c.fact 157)) (c.def_ 120)
    d_Editor_end_command := metG_of (He.meth_ok (c.fact 158)) (c.def_ 121)
    d_Editor_end_command_as_step := metG_of (He.meth_ok (c.fact 159)) (c.def_ 122)
    k_Selection := He.cls_ok (c.fact 105)
    k_Selections := He.cls_ok (c.fact 110)
    k_Carrier := He.cls_ok (c.fact 115)
    k_Moment := He.cls_ok (c.fact 122)
    k_Editor := He.cls_ok (c.fact 127)
    n_Selection_anchor := He.noat_ok (c.fact 107)
    n_Selection_hand := He.noat_ok (c.fact 108)
    n_Selections_each := He.noat_ok (c.fact 112)
    n_Selections_main := He.noat_ok (c.fact 113)
    n_Carrier_ahead := He.noat_ok (c.fact 117)
    n_Carrier_behind := He.noat_ok (c.fact 118)
    n_Carrier_old_length := He.noat_ok (c.fact 119)
    n_Carrier_new_length := He.noat_ok (c.fact 120)
    n_Moment_text := He.noat_ok (c.fact 124)
    n_Moment_selected := He.noat_ok (c.fact 125)
    n_Editor_text := He.noat_ok (c.fact 129)
    n_Editor_selected := He.noat_ok (c.fact 130)
    n_Editor_kept := He.noat_ok (c.fact 131)
    n_Editor_mode := He.noat_ok (c.fact 132)
    n_Editor_count := He.noat_ok (c.fact 133)
    n_Editor_pieces := He.noat_ok (c.fact 134)
    n_Editor_searched := He.noat_ok (c.fact 135)
    n_Editor_prompt := He.noat_ok (c.fact 136)
    n_Editor_prompt_key := He.noat_ok (c.fact 137)
    n_Editor_undoable := He.noat_ok (c.fact 138)
    n_Editor_redoable := He.noat_ok (c.fact 139)
    n_Editor_last_change := He.noat_ok (c.fact 140)
    n_Editor_macro := He.noat_ok (c.fact 141)
    n_Editor_recorded := He.noat_ok (c.fact 142)
    n_Editor_coming := He.noat_ok (c.fact 143)
    n_Editor_under_way := He.noat_ok (c.fact 144)
    n_Editor_before := He.noat_ok (c.fact 145)
    c_NORMAL := int_is (He.int_ok X G (c.fact 160))
    c_INSERT := int_is (He.int_ok X G (c.fact 161))
    c_PROMPT := int_is (He.int_ok X G (c.fact 162))
    c_BYTE_OF_R := int_is (He.int_ok X G (c.fact 163))
    c_MOST_BYTES := int_is (He.int_ok X G (c.fact 164))
    c_MOST_KEYS := int_is (He.int_ok X G (c.fact 165))
    c_GREATEST_BYTE := int_is (He.int_ok X G (c.fact 166))
    c_MOST_SELECTIONS := int_is (He.int_ok X G (c.fact 167))
    c_GREATEST_COUNT := int_is (He.int_ok X G (c.fact 168))
    c_MOST_KEYS_FOR_ONE := int_is (He.int_ok X G (c.fact 169))
    c_LINE_FEED := int_is (He.int_ok X G (c.fact 170))
    c_ESCAPE := int_is (He.int_ok X G (c.fact 171))
    c_RUBOUT := int_is (He.int_ok X G (c.fact 172))
    c_UNDERLINE := int_is (He.int_ok X G (c.fact 173))
    c_DIGIT_0 := int_is (He.int_ok X G (c.fact 174))
    c_KEY_Q := int_is (He.int_ok X G (c.fact 175))
    c_TEXT := int_is (He.int_ok X G (c.fact 176))
    c_KEYS := int_is (He.int_ok X G (c.fact 177))
    g_STEPS_OF_CARETS := ⟨_, He.glo_ok X G (c.fact 178), rfl⟩
    t_STEPS_OF_CARETS := wd_ok X G w0 (by decide)
    g_STEPS_OF_HANDS := ⟨_, He.glo_ok X G (c.fact 179), rfl⟩
    t_STEPS_OF_HANDS := wd_ok X G w1 (by decide)
    g_CHOOSING := ⟨_, He.glo_ok X G (c.fact 180), rfl⟩
    t_CHOOSING := wd_ok X G w2 (by decide)
    g_EDITING := ⟨_, He.glo_ok X G (c.fact 181), rfl⟩
    t_EDITING := wd_ok X G w3 (by decide)
    g_BEGINNING_EDITS := ⟨_, He.glo_ok X G (c.fact 182), rfl⟩
    t_BEGINNING_EDITS := wd_ok X G w4 (by decide)
    g_FINDING := ⟨_, He.glo_ok X G (c.fact 183), rfl⟩
    t_FINDING := wd_ok X G w5 (by decide)
    g_PROMPTS := ⟨_, He.glo_ok X G (c.fact 184), rfl⟩
    t_PROMPTS := wd_ok X G w6 (by decide)
    g_NEVER_STEPS := ⟨_, He.glo_ok X G (c.fact 185), rfl⟩
    t_NEVER_STEPS := wd_ok X G w7 (by decide)
    g_TELLING := ⟨_, He.glo_ok X G (c.fact 186), rfl⟩
    t_TELLING := wd_ok X G w8 (by decide)
    b_len := He.free_ok X G (c.fact 187)
    b_min := He.free_ok X G (c.fact 188)
    b_max := He.free_ok X G (c.fact 189)
    b_range := He.free_ok X G (c.fact 190)
    b_sorted := He.free_ok X G (c.fact 191)
    b_zip := He.free_ok X G (c.fact 192)
    b_any := He.free_ok X G (c.fact 193)
    b_ValueError := He.free_ok X G (c.fact 194)
  }
end
end Ke
end
section
set_option maxHeartbeats 4500000
namespace Ke
open PySem PySem.Spec L2 LamX PyProof.Rows
/-! ### lists of numbers -/
abbrev iL (t : List Nat) : List V := t.map fun n : Nat => V.int n
theorem iL_get {t : List Nat} {i n : Nat} (h : t[i]? = some n) : (iL t)[i]? = some (V.int n) := by
  rw [List.getElem?_map, h]
  rfl
def TxtAt (H : Hp) (p : Addr) (t : List Nat) : Prop := H p = some (.lst (iL t))
/-! ### tests -/
theorem dI {c : Prop} [Decidable c] {A B : Prop} (h1 : c → A) (h2 : ¬ c → B) : if decide c = true then A else B := by
  by_cases h : c
  · rw [if_pos (decide_eq_true h)]
    exact h1 h
  · rw [if_neg (by simpa using h)]
    exact h2 h
theorem dN {c : Prop} [Decidable c] {A B : Prop} (h1 : ¬ c → A) (h2 : c → B) : if (!decide c) = true then A else B := by
  by_cases h : c
  · rw [if_neg (by simpa using h)]
    exact h2 h
  · rw [if_pos (by simpa using h)]
    exact h1 h
theorem bI {b : Bool} {A B : Prop} (h1 : b = true → A) (h2 : b = false → B) : if b = true then A else B := by
  cases b with
  | true => exact iteT (h1 rfl)
  | false => exact iteF (h2 rfl)
theorem atN {t : List Nat} {i n : Nat} (h : t[i]? = some n) : atI (iL t) ((i : Nat) : Int) = some (V.int n) := atI_nat (iL_get h)
theorem int_ne {a b : Nat} (h : ¬ V.int a = V.int b) : a ≠ b := fun e => h (by rw [e])
theorem int_eq {a b : Nat} (h : V.int a = V.int b) : a = b := by
  injection h with h
  omega
/-! ### mathematics: lines, words -/
theorem ls_zero (t : List Nat) : Ue15.lineStart t 0 = 0 := by
  simp [Ue15.lineStart]
theorem take_succ_rev {t : List Nat} {i b : Nat} (h : t[i]? = some b) : (t.take (i + 1)).reverse = b :: (t.take i).reverse := by
  rw [List.take_succ, h]
  simp
theorem ls_lf {t : List Nat} {i b : Nat} (h : t[i]? = some b) (hb : b = 10) : Ue15.lineStart t (i + 1) = i + 1 := by
  unfold Ue15.lineStart
  rw [take_succ_rev h, List.takeWhile_cons_of_neg (by simp [hb])]
  rfl
theorem ls_go {t : List Nat} {i b : Nat} (h : t[i]? = some b) (hb : b ≠ 10) : Ue15.lineStart t (i + 1) = Ue15.lineStart t i := by
  unfold Ue15.lineStart
  rw [take_succ_rev h, List.takeWhile_cons_of_pos (by simp [hb]), List.length_cons]
  omega
theorem le_end {t : List Nat} {i : Nat} (h : t.length ≤ i) : Ue15.lineEnd t i = i := by
  unfold Ue15.lineEnd
  rw [List.drop_eq_nil_of_le h]
  rfl
theorem drop_at {t : List Nat} {i b : Nat} (h : t[i]? = some b) : t.drop i = b :: t.drop (i + 1) := by
  obtain ⟨h1, h2⟩ := List.getElem?_eq_some_iff.mp h
  rw [← h2]
  exact List.drop_eq_getElem_cons h1
theorem le_lf {t : List Nat} {i b : Nat} (h : t[i]? = some b) (hb : b = 10) : Ue15.lineEnd t i = i := by
  unfold Ue15.lineEnd
  rw [drop_at h, List.takeWhile_cons_of_neg (by simp [hb])]
  rfl
theorem le_go {t : List Nat} {i b : Nat} (h : t[i]? = some b) (hb : b ≠ 10) : Ue15.lineEnd t i = Ue15.lineEnd t (i + 1) := by
  unfold Ue15.lineEnd
  rw [drop_at h, List.takeWhile_cons_of_pos (by simp [hb]), List.length_cons]
  omega
section
variable {P : Program} {w : World} {K : PySem.W.Frag} {mg : Str → Option Value} {base : Heap} {C : Ca}
def sp_line_begin (_ : Ca) : Sp := fun vs H Q _ => ∃ (p : Addr) (t : List Nat) (i : Nat), vs = [.ref p, .int i] ∧ TxtAt H p t ∧ i ≤ t.length ∧ Q (.int (Ue15.lineStart t i : Nat)) H
theorem k_line_begin (G : Gs K mg C) : C8.Cal P w K mg base 1 "line_begin" (sp_line_begin C) [] := by
  refine cal_of G.d_line_begin sc_line_begin (fun _ _ _ _ _ _ us hl => match us, hl with | [_, _], _ => rfl) (fun vs H Q E h => ?_) (fun f cdv A outer s H vs Q E hr h => ?_)
  · obtain ⟨p, t, i, rfl, _⟩ := h; rfl
  · obtain ⟨p, t, i, rfl, hp, hi, hQ⟩ := h
    refine ⟨_, (pss_cons (ps_while PassesOwn.never (PW.pt (pw_and (pt_cmpR op_gt (pv 1) pe_int (nomark _)) (pw_and1 (pt_cmpR op_ne (pe_ix ix_list (pv 0) (pe_op op_sub (pv 1) pe_int) (fun _ _ => rfl)) (C8.pe_gc rfl G.c_LINE_FEED) (nomark _))))) (pss_one (ps_aug (i := 1) sc_line_begin.nd rfl (Or.inl rfl) pe_int ip_sub))) (pss_one (ps_ret (pv 1)))), ?_⟩
    refine ⟨fun m σ H2 => H2 = H ∧ m ≤ t.length ∧ σ = [some (.ref p), some (.int (m : Nat))] ∧ Ue15.lineStart t m = Ue15.lineStart t i, ⟨i, rfl, hi, rfl, rfl⟩, ?_⟩
    rintro m σ H2 ⟨rfl, hm, rfl, em⟩
    refine ⟨_, rfl, _, _, rfl, rfl, _, rfl, dI (fun h0 => ?_) fun h0 => ?_⟩
    · obtain ⟨j, rfl⟩ : ∃ j, m = j + 1 := ⟨m - 1, by omega⟩
      have hj : j < t.length := by omega
      obtain ⟨b, hb⟩ : ∃ b, t[j]? = some b := ⟨_, List.getElem?_eq_getElem hj⟩
      have ej : (((j + 1 : Nat) : Int) - 1) = (j : Nat) := by omega
      refine ⟨_, rfl, _, rfl, _, _, rfl, rfl, p, _, _, _, rfl, rfl, SqL.of hp, by rw [ej]; exact atN hb, rfl, _, rfl, dN (fun h1 => ?_) fun h1 => ?_⟩
      · refine ⟨fun σ3 H3 => H3 = H2 ∧ σ3 = [some (.ref p), some (.int (j : Nat))], fun σ3 H3 ⟨e1, e2⟩ => ⟨j, by omega, e1, by omega, e2, ?_⟩, ?_⟩
        · rw [← em, ls_go hb (int_ne h1)]
        · refine ⟨_, rfl, _, _, rfl, rfl, rfl, ?_⟩
          show [some (V.ref p), some (V.int (((j + 1 : Nat) : Int) - 1))] = _
          rw [ej]
      · refine ⟨_, rfl, ?_⟩
        rw [← em, ls_lf hb (int_eq h1)] at hQ
        exact hQ
    · refine ⟨_, rfl, ?_⟩
      have e0 : m = 0 := by omega
      subst e0
      rw [← em, ls_zero] at hQ
      exact hQ
def sp_line_end (_ : Ca) : Sp := fun vs H Q _ => ∃ (p : Addr) (t : List Nat) (i : Nat), vs = [.ref p, .int i] ∧ TxtAt H p t ∧ i ≤ t.length ∧ Q (.int (Ue15.lineEnd t i : Nat)) H
theorem k_line_end (G : Gs K mg C) : C8.Cal P w K mg base 1 "line_end" (sp_line_end C) [] := by
  refine cal_of G.d_line_end sc_line_end (fun _ _ _ _ _ _ us hl => match us, hl with | [_, _], _ => rfl) (fun vs H Q E h => ?_) (fun f cdv A outer s H vs Q E hr h => ?_)
  · obtain ⟨p, t, i, rfl, _⟩ := h; rfl
  · obtain ⟨p, t, i, rfl, hp, hi, hQ⟩ := h
    refine ⟨_, (pss_cons (ps_while PassesOwn.never (PW.pt (pw_and (pt_cmpR op_lt (pv 1) (pe_callB call_len_seq (by rfl) G.b_len PySem.boot_len (pa_cons (pv 0) pa_nil)) (nomark _)) (pw_and1 (pt_cmpR op_ne (pe_ix ix_list (pv 0) (pv 1) (fun _ _ => rfl)) (C8.pe_gc rfl G.c_LINE_FEED) (nomark _))))) (pss_one (ps_aug (i := 1) sc_line_end.nd rfl (Or.inl rfl) pe_int ip_add))) (pss_one (ps_ret (pv 1)))), ?_⟩
    refine ⟨fun m σ H2 => H2 = H ∧ ∃ j : Nat, j + m = t.length ∧ σ = [some (.ref p), some (.int (j : Nat))] ∧ Ue15.lineEnd t j = Ue15.lineEnd t i, ⟨t.length - i, rfl, i, by omega, rfl, rfl⟩, ?_⟩
    rintro m σ H2 ⟨rfl, j, hj, rfl, em⟩
    refine ⟨_, rfl, _, rfl, _, _, rfl, .inl (SqL.of hp), _, _, rfl, rfl, _, rfl, dI (fun h0 => ?_) fun h0 => ?_⟩
    · rw [List.length_map] at h0
      have hlt : j < t.length := by omega
      obtain ⟨b, hb⟩ : ∃ b, t[j]? = some b := ⟨_, List.getElem?_eq_getElem hlt⟩
      refine ⟨_, rfl, _, rfl, p, _, _, _, rfl, rfl, SqL.of hp, atN hb, rfl, _, rfl, dN (fun h1 => ?_) fun h1 => ?_⟩
      · refine ⟨fun σ3 H3 => H3 = H2 ∧ σ3 = [some (.ref p), some (.int ((j + 1 : Nat) : Int))], fun σ3 H3 ⟨e1, e2⟩ => ⟨m - 1, by omega, e1, j + 1, by omega, e2, ?_⟩, ?_⟩
        · rw [← em, ← le_go hb (int_ne h1)]
        · exact ⟨_, rfl, _, _, rfl, rfl, rfl, rfl⟩
      · refine ⟨_, rfl, ?_⟩
        rw [← em, le_lf hb (int_eq h1)] at hQ
        exact hQ
    · rw [List.length_map] at h0
      refine ⟨_, rfl, ?_⟩
      rw [← em, le_end (by omega)] at hQ
      exact hQ
def sp_between (lo hi : Nat) : Sp := fun vs H Q _ => ∃ n : Nat, vs = [.int n] ∧ Q (.bl (decide (lo ≤ n ∧ n ≤ hi))) H
theorem chain_q {Q : VK} {H : Hp} {lo hi n : Nat} (h : Q (.bl (decide (lo ≤ n ∧ n ≤ hi))) H) : if decide ((lo : Int) ≤ (n : Int)) = true then Q (.bl (decide ((n : Int) ≤ (hi : Int)))) H else Q (.bl false) H := by
  refine dI (fun h1 => ?_) fun h1 => ?_
  · have e : decide ((n : Int) ≤ (hi : Int)) = decide (lo ≤ n ∧ n ≤ hi) := by
      apply decide_eq_decide.mpr
      omega
    rw [e]
    exact h
  · have e : decide (lo ≤ n ∧ n ≤ hi) = false := decide_eq_false (by omega)
    rw [e] at h
    exact h
theorem k_is_great_letter (G : Gs K mg C) : C8.Cal P w K mg base 1 "is_great_letter" (sp_between 65 90) [] := by
  refine cal_of G.d_is_great_letter sc_is_great_letter (fun _ _ _ _ _ _ us hl => match us, hl with | [_], _ => rfl) (fun vs H Q E h => ?_) (fun f cdv A outer s H vs Q E hr h => ?_)
  · obtain ⟨n, rfl, _⟩ := h; rfl
  · obtain ⟨n, rfl, hQ⟩ := h
    refine ⟨_, (pss_one (ps_ret (pe_chain op_le op_le pe_int (pv 0) pe_int))), ?_⟩
    exact ⟨_, rfl, _, _, rfl, rfl, _, rfl, dI (fun h1 => ⟨_, _, rfl, rfl, (if_pos (decide_eq_true h1)).mp (chain_q hQ)⟩) fun h1 => (if_neg (by simpa using h1)).mp (chain_q hQ)⟩
theorem k_is_small_letter (G : Gs K mg C) : C8.Cal P w K mg base 1 "is_small_letter" (sp_between 97 122) [] := by
  refine cal_of G.d_is_small_letter sc_is_small_letter (fun _ _ _ _ _ _ us hl => match us, hl with | [_], _ => rfl) (fun vs H Q E h => ?_) (fun f cdv A outer s H vs Q E hr h => ?_)
  · obtain ⟨n, rfl, _⟩ := h; rfl
  · obtain ⟨n, rfl, hQ⟩ := h
    refine ⟨_, (pss_one (ps_ret (pe_chain op_le op_le pe_int (pv 0) pe_int))), ?_⟩
    exact ⟨_, rfl, _, _, rfl, rfl, _, rfl, dI (fun h1 => ⟨_, _, rfl, rfl, (if_pos (decide_eq_true h1)).mp (chain_q hQ)⟩) fun h1 => (if_neg (by simpa using h1)).mp (chain_q hQ)⟩
theorem k_is_digit (G : Gs K mg C) : C8.Cal P w K mg base 1 "is_digit" (sp_between 48 57) [] := by
  refine cal_of G.d_is_digit sc_is_digit (fun _ _ _ _ _ _ us hl => match us, hl with | [_], _ => rfl) (fun vs H Q E h => ?_) (fun f cdv A outer s H vs Q E hr h => ?_)
  · obtain ⟨n, rfl, _⟩ := h; rfl
  · obtain ⟨n, rfl, hQ⟩ := h
    refine ⟨_, (pss_one (ps_ret (pe_chain op_le op_le pe_int (pv 0) pe_int))), ?_⟩
    exact ⟨_, rfl, _, _, rfl, rfl, _, rfl, dI (fun h1 => ⟨_, _, rfl, rfl, (if_pos (decide_eq_true h1)).mp (chain_q hQ)⟩) fun h1 => (if_neg (by simpa using h1)).mp (chain_q hQ)⟩
def sp_is_word_byte (_ : Ca) : Sp := fun vs H Q _ => ∃ n : Nat, vs = [.int n] ∧ Q (.bl (Ue15.isWord n)) H
theorem word_1 {n : Nat} (h : decide (97 ≤ n ∧ n ≤ 122) = true) : Ue15.isWord n = true := by
  simp [Ue15.isWord] at h ⊢
  omega
theorem word_2 {n : Nat} (h : decide (65 ≤ n ∧ n ≤ 90) = true) : Ue15.isWord n = true := by
  simp [Ue15.isWord] at h ⊢
  omega
theorem word_3 {n : Nat} (h : decide (48 ≤ n ∧ n ≤ 57) = true) : Ue15.isWord n = true := by
  simp [Ue15.isWord] at h ⊢
  omega
theorem word_4 {n : Nat} (h1 : decide (97 ≤ n ∧ n ≤ 122) = false) (h2 : decide (65 ≤ n ∧ n ≤ 90) = false) (h3 : decide (48 ≤ n ∧ n ≤ 57) = false) : Ue15.isWord n = decide (V.int (n : Nat) = V.int (95 : Nat)) := by
  by_cases h : n = 95
  · subst h
    rfl
  · have e : ¬ V.int (n : Nat) = V.int (95 : Nat) := fun z => h (int_eq z)
    rw [decide_eq_false e]
    simp [Ue15.isWord] at h1 h2 h3 ⊢
    omega
theorem k_is_word_byte (G : Gs K mg C) : C8.Cal P w K mg base 2 "is_word_byte" (sp_is_word_byte C) [] := by
  have K_is_digit := k_is_digit (P := P) (w := w) (base := base) G
  have K_is_great_letter := k_is_great_letter (P := P) (w := w) (base := base) G
  have K_is_small_letter := k_is_small_letter (P := P) (w := w) (base := base) G
  refine cal_of G.d_is_word_byte sc_is_word_byte (fun _ _ _ _ _ _ us hl => match us, hl with | [_], _ => rfl) (fun vs H Q E h => ?_) (fun f cdv A outer s H vs Q E hr h => ?_)
  · obtain ⟨n, rfl, _⟩ := h; rfl
  · obtain ⟨n, rfl, hQ⟩ := h
    refine ⟨_, (pss_one (ps_ret (pe_or (C8.pe_c K_is_small_letter hr (by decide) rfl (pa_cons (pv 0) pa_nil)) (pe_or (C8.pe_c K_is_great_letter hr (by decide) rfl (pa_cons (pv 0) pa_nil)) (pe_or (C8.pe_c K_is_digit hr (by decide) rfl (pa_cons (pv 0) pa_nil)) (pe_one (pe_cmpR op_eq (pv 0) (C8.pe_gc rfl G.c_UNDERLINE) (nomark _)))))))), ?_⟩
    refine ⟨_, rfl, n, rfl, _, rfl, bI (fun h1 => ?_) fun h1 => ?_⟩
    · rw [word_1 h1] at hQ
      exact hQ
    refine ⟨_, rfl, n, rfl, _, rfl, bI (fun h2 => ?_) fun h2 => ?_⟩
    · rw [word_2 h2] at hQ
      exact hQ
    refine ⟨_, rfl, n, rfl, _, rfl, bI (fun h3 => ?_) fun h3 => ?_⟩
    · rw [word_3 h3] at hQ
      exact hQ
    refine ⟨_, rfl, rfl, ?_⟩
    rw [word_4 h1 h2 h3] at hQ
    exact hQ
def sp_with_case_swapped (_ : Ca) : Sp := fun vs H Q _ => ∃ n : Nat, vs = [.int n] ∧ Q (.int (Ue15.other n : Nat)) H
theorem k_with_case_swapped (G : Gs K mg C) : C8.Cal P w K mg base 2 "with_case_swapped" (sp_with_case_swapped C) [] := by
  have K_is_great_letter := k_is_great_letter (P := P) (w := w) (base := base) G
  have K_is_small_letter := k_is_small_letter (P := P) (w := w) (base := base) G
  refine cal_of G.d_with_case_swapped sc_with_case_swapped (fun _ _ _ _ _ _ us hl => match us, hl with | [_], _ => rfl) (fun vs H Q E h => ?_) (fun f cdv A outer s H vs Q E hr h => ?_)
  · obtain ⟨n, rfl, _⟩ := h; rfl
  · obtain ⟨n, rfl, hQ⟩ := h
    refine ⟨_, (pss_cons (ps_if (pt_val (C8.pe_c K_is_great_letter hr (by decide) rfl (pa_cons (pv 0) pa_nil))) (pss_one (ps_ret (pe_op op_add (pv 0) pe_int))) pss_nil) (pss_cons (ps_if (pt_val (C8.pe_c K_is_small_letter hr (by decide) rfl (pa_cons (pv 0) pa_nil))) (pss_one (ps_ret (pe_op op_sub (pv 0) pe_int))) pss_nil) (pss_one (ps_ret (pv 0))))), ?_⟩
    refine ⟨_, rfl, n, rfl, _, rfl, dI (fun h1 => ?_) fun h1 => ?_⟩
    · refine ⟨_, rfl, _, _, rfl, rfl, ?_⟩
      rw [show Ue15.other n = n + 32 from if_pos h1] at hQ
      exact hQ
    refine ⟨_, rfl, n, rfl, _, rfl, dI (fun h2 => ?_) fun h2 => ?_⟩
    · refine ⟨_, rfl, _, _, rfl, rfl, ?_⟩
      rw [show Ue15.other n = n - 32 from (if_neg h1).trans (if_pos h2)] at hQ
      have e : ((n : Int) - 32) = ((n - 32 : Nat) : Int) := by omega
      show Q (.int ((n : Int) - 32)) H
      rw [e]
      exact hQ
    refine ⟨_, rfl, ?_⟩
    rw [show Ue15.other n = n from (if_neg h1).trans (if_neg h2)] at hQ
    exact hQ
end
end Ke
end
section
set_option maxHeartbeats 4500000
namespace Ke
open PySem PySem.Spec L2 LamX PyProof.Rows
/-! ### heaps, slices, lists compared -/
theorem same_new {H : Hp} {p : Addr} {o : HO} (np : H p = none) : Same H (upd H p o) := fun b u e => by
  rw [upd_ne (ne_of_none e np)]
  exact e
theorem TxtAt.same {H H2 : Hp} {p : Addr} {t : List Nat} (h : TxtAt H p t) (s : Same H H2) : TxtAt H2 p t := s _ _ h
theorem cut_nat (t : List Nat) (i j : Nat) : cutV (iL t) (some (i : Int)) (some (j : Int)) = iL ((t.take j).drop i) := by
  unfold cutV
  rw [HT.sIx_nat, HT.sIx_nat, List.length_map, ← List.map_drop, ← List.map_take]
  congr 1
  rw [List.drop_take]
  by_cases h : i ≤ t.length
  · rw [Nat.min_eq_left h]
    by_cases h2 : j ≤ t.length
    · rw [Nat.min_eq_left h2]
    · rw [Nat.min_eq_right (by omega)]
      rw [List.take_of_length_le (by rw [List.length_drop]; omega), List.take_of_length_le (by rw [List.length_drop]; omega)]
  · rw [Nat.min_eq_right (show t.length ≤ i by omega), List.drop_eq_nil_of_le (Nat.le_refl t.length), List.drop_eq_nil_of_le (show t.length ≤ i by omega)]
    simp
theorem cut_from (t : List Nat) (i : Nat) : cutV (iL t) (some (i : Int)) none = iL (t.drop i) := by
  have h := cut_nat t i t.length
  rw [List.take_length] at h
  rw [← h]
  unfold cutV
  rw [HT.sIx_none, HT.sIx_nat, HT.sIx_nat, List.length_map, Nat.min_self]
theorem cut_to (t : List Nat) (j : Nat) : cutV (iL t) none (some (j : Int)) = iL (t.take j) := by
  have h := cut_nat t 0 j
  rw [List.drop_zero] at h
  rw [← h]
  unfold cutV
  rw [HT.sIx_none, HT.sIx_nat, HT.sIx_nat]
  simp
def dL (t : List Nat) : PyData := .list (t.map fun n : Nat => PyData.int n)
theorem dp_ints {K : PySem.W.Frag} {H : Hp} {p : Addr} {t : List Nat} (h : TxtAt H p t) : Dp K H (.ref p) (dL t) := by
  refine .lst (SqL.of h) ?_
  clear h
  induction t with
  | nil => exact .nil
  | cons n t ih => exact .cons (.int _) ih
theorem shaped_ints (t : List Nat) : SeqAt.shaped (dL t) = true := by
  have h1 : ∀ t : List Nat, PyData.canLayAll0 (t.map fun n : Nat => PyData.int n) = true := fun t => by
    induction t with
    | nil => rfl
    | cons n t ih =>
      show (PyData.canLay0 (.int n) && PyData.canLayAll0 (t.map fun n : Nat => PyData.int n)) = true
      rw [ih]
      rfl
  have h2 : ∀ t : List Nat, PyData.depthAll (t.map fun n : Nat => PyData.int n) = 0 := fun t => by
    induction t with
    | nil => rfl
    | cons n t ih =>
      show max (PyData.depth (.int n)) (PyData.depthAll (t.map fun n : Nat => PyData.int n)) = 0
      rw [ih]
      rfl
  show (PyData.canLayAll0 (t.map fun n : Nat => PyData.int n) && decide (PyData.depthAll (t.map fun n : Nat => PyData.int n) + 1 ≤ 64)) = true
  rw [h1, h2]
  rfl
theorem eqv_ints : ∀ t u : List Nat, PyData.eqv (dL t) (dL u) = decide (t = u)
  | [], [] => rfl
  | [], b :: u => by
    rw [decide_eq_false (by simp)]
    rfl
  | a :: t, [] => by
    rw [decide_eq_false (by simp)]
    rfl
  | a :: t, b :: u => by
    have h := eqv_ints t u
    show (((a : Int) == (b : Int)) && PyData.eqv (dL t) (dL u)) = decide (a :: t = b :: u)
    rw [h]
    by_cases e : a = b
    · subst e
      simp
    · have e2 : ((a : Int) == (b : Int)) = false := beq_eq_false_iff_ne.mpr (by omega)
      have e3 : decide (a :: t = b :: u) = false := decide_eq_false (by simp [e])
      rw [e2, e3]
      rfl
/-! ### mathematics: where a text stands -/
def optV : Option Nat → V
  | none => .non
  | some n => .int n
theorem ff_none {t w : List Nat} {p : Nat} (h : ∀ i, p ≤ i → i ≤ t.length → ¬ (t.drop i).take w.length = w) : Ue15.findFrom t w p = none := by
  unfold Ue15.findFrom
  rw [List.findSome?_eq_none_iff]
  intro i hi
  rw [List.mem_range] at hi
  rw [if_neg (h _ (by omega) (by omega))]
theorem ff_some {t w : List Nat} {p i : Nat} (hp : p ≤ i) (hi : i ≤ t.length) (hs : (t.drop i).take w.length = w) (h : ∀ j, p ≤ j → j < i → ¬ (t.drop j).take w.length = w) : Ue15.findFrom t w p = some i := by
  unfold Ue15.findFrom
  rw [List.findSome?_eq_some_iff]
  refine ⟨List.range (i - p), i - p, (List.range' (i - p + 1) (t.length - i)), ?_, ?_, ?_⟩
  · rw [List.range_eq_range', List.range_eq_range']
    have e : t.length + 1 - p = (i - p) + (1 + (t.length - i)) := by omega
    rw [e, ← List.range'_append_1, Nat.zero_add]
    congr 1
    rw [← List.range'_append_1]
    rfl
  · have e : p + (i - p) = i := by omega
    rw [e, if_pos hs]
  · intro j hj
    rw [List.mem_range] at hj
    rw [if_neg (h _ (by omega) (by omega))]
theorem stands_len {t w : List Nat} {i : Nat} (h : (t.drop i).take w.length = w) (hi : i ≤ t.length) : i + w.length ≤ t.length := by
  have h2 := congrArg List.length h
  rw [List.length_take, List.length_drop] at h2
  omega
section
variable {P : Program} {w : World} {K : PySem.W.Frag} {mg : Str → Option Value} {base : Heap} {C : Ca}
def sp_first_place (_ : Ca) : Sp := fun vs H Q _ => ∃ (p q : Addr) (t u : List Nat) (b e : Nat), vs = [.ref p, .ref q, .int b, .int e] ∧ TxtAt H p t ∧ TxtAt H q u ∧ e ≤ t.length ∧ b ≤ 2 ^ 50 ∧ t.length ≤ 2 ^ 50 ∧ u.length ≤ 2 ^ 50 ∧
  ∀ H2, Same H H2 → Q (optV (Ue15.findFrom (t.take e) u b)) H2
theorem k_first_place (G : Gs K mg C) : C8.Cal P w K mg base 1 "first_place" (sp_first_place C) [] := by
  refine cal_of G.d_first_place sc_first_place (fun _ _ _ _ _ _ us hl => match us, hl with | [_, _, _, _], _ => rfl) (fun vs H Q E h => ?_) (fun f cdv A outer s H vs Q E hr h => ?_)
  · obtain ⟨p, q, t, u, b, e, rfl, _⟩ := h; rfl
  · obtain ⟨p, q, t, u, b, e, rfl, hp, hq, he, hb, ht, hu, hQ⟩ := h
    refine ⟨_, (pss_cons (ps_for PassesOwn.never rfl (pi_range2 (by rfl) G.b_range (pa_cons (pv 2) (pa_cons (pe_op op_add (pe_op op_sub (pv 3) (pe_callB call_len_seq (by rfl) G.b_len PySem.boot_len (pa_cons (pv 1) pa_nil))) pe_int) pa_nil))) (pg_name (i := 4) sc_first_place.nd rfl (Or.inl rfl)) (pss_one (ps_if (pt_cmpR (op_eqD hr.units) (pe_slice sl_list (pv 0) (po_some (pv 4)) (po_some (pe_op op_add (pv 4) (pe_callB call_len_seq (by rfl) G.b_len PySem.boot_len (pa_cons (pv 1) pa_nil))))) (pv 1) (nomark _)) (pss_one (ps_ret (pv 4))) pss_nil))) (pss_one (ps_ret pe_non))), ?_⟩
    have le : (t.take e).length = e := by
      rw [List.length_take]
      omega
    refine ⟨_, rfl, _, rfl, _, rfl, _, _, rfl, .inl (SqL.of hq), _, _, rfl, rfl, _, _, rfl, rfl, _, _, rfl, ⟨by omega, by omega, by rw [List.length_map]; omega, by rw [List.length_map]; omega⟩, ?_⟩
    refine for_range (lo := (b : Int)) (n := _) (fun i σ H2 => Same H H2 ∧ (∃ v, σ = [some (.ref p), some (.ref q), some (.int b), some (.int e), v]) ∧ ∀ j, b ≤ j → j < b + i → ¬ ((t.take e).drop j).take u.length = u) ⟨Same.refl H, ⟨none, rfl⟩, fun j h1 h2 => by omega⟩ ?_ ?_
    · rintro i σ H2 hi ⟨s2, ⟨v, rfl⟩, hn⟩
      rw [List.length_map] at hi
      have hbi : b + i + u.length ≤ e := by omega
      refine ⟨_, rfl, _, rfl, _, rfl, _, rfl, _, rfl, _, _, rfl, .inl (SqL.of (hq.same s2)), _, _, rfl, rfl, _, rfl, p, _, rfl, SqL.of (hp.same s2), fun x nx => ?_⟩
      have ec : cutV (iL t) (some ((b : Int) + (i : Int))) (some ((b : Int) + (i : Int) + ((iL u).length : Int))) = iL (((t.take e).drop (b + i)).take u.length) := by
        have e1 : ((b : Int) + (i : Int)) = ((b + i : Nat) : Int) := by omega
        have e2 : ((b + i : Nat) : Int) + ((iL u).length : Int) = ((b + i + u.length : Nat) : Int) := by
          rw [List.length_map]
          omega
        rw [e1, e2, cut_nat]
        congr 1
        rw [List.drop_take, List.drop_take, List.take_take]
        congr 1
        omega
      have s3 : Same H (upd H2 x (.lst (cutV (iL t) (some ((b : Int) + (i : Int))) (some ((b : Int) + (i : Int) + ((iL u).length : Int)))))) := s2.trans (same_new nx)
      have hx : TxtAt (upd H2 x (.lst (cutV (iL t) (some ((b : Int) + (i : Int))) (some ((b : Int) + (i : Int) + ((iL u).length : Int)))))) x (((t.take e).drop (b + i)).take u.length) := by
        show upd _ _ _ _ = _
        rw [upd_same, ec]
      refine ⟨_, rfl, _, _, dp_ints hx, dp_ints (hq.same s3), shaped_ints _, shaped_ints _, _, rfl, ?_⟩
      rw [eqv_ints]
      refine dI (fun h1 => ?_) fun h1 => ?_
      · refine ⟨_, rfl, ?_⟩
        have hf := ff_some (t := t.take e) (w := u) (p := b) (i := b + i) (by omega) (by omega) h1 hn
        have z := hQ _ s3
        rw [hf] at z
        have e1 : ((b : Int) + (i : Int)) = ((b + i : Nat) : Int) := by omega
        show Q (.int ((b : Int) + (i : Int))) _
        rw [e1]
        exact z
      · refine ⟨s3, ⟨_, rfl⟩, fun j h2 h3 => ?_⟩
        by_cases hj : j < b + i
        · exact hn j h2 hj
        · have ej : j = b + i := by omega
          rw [ej]
          exact h1
    · rintro σ H2 ⟨s2, ⟨v, rfl⟩, hn⟩
      have hf : Ue15.findFrom (t.take e) u b = none := ff_none fun i h1 h2 h3 => by
        have h4 := stands_len h3 h2
        rw [List.length_map] at hn
        exact hn i h1 (by omega) h3
      have z := hQ _ s2
      rw [hf] at z
      exact z
end
end Ke
end
section
set_option maxHeartbeats 4500000
namespace Ke
open PySem PySem.Spec L2 LamX PyProof.Rows
/-! ### fields by places -/
def ix? (f : Str) : List Str → Option Nat
  | [] => none
  | g :: r => if g = f then some 0 else (ix? f r).map (· + 1)
theorem lk_zip {f : Str} {v : V} : ∀ {ns : List Str} {vs : List V} {i : Nat}, ix? f ns = some i → vs[i]? = some v → (ns.zip vs).lookup f = some v
  | [], _, _, h, _ => by cases h
  | g :: r, [], i, _, h => by simp at h
  | g :: r, x :: vs, i, h, hv => by
    unfold ix? at h
    by_cases e : g = f
    · rw [if_pos e] at h
      cases h
      have e2 : x = v := by simpa using hv
      subst e2
      subst e
      simp [List.lookup]
    · rw [if_neg e] at h
      obtain ⟨j, hj, rfl⟩ := Option.map_eq_some_iff.mp h
      have e3 : (f == g) = false := beq_eq_false_iff_ne.mpr (fun z => e z.symm)
      simp only [List.zip_cons_cons, List.lookup, e3]
      exact lk_zip hj (by simpa using hv)
theorem lk_no {f : Str} : ∀ {ns : List Str} {vs : List V}, ix? f ns = none → (ns.zip vs).lookup f = none
  | [], _, _ => by simp
  | g :: r, [], _ => by simp
  | g :: r, x :: vs, h => by
    unfold ix? at h
    by_cases e : g = f
    · rw [if_pos e] at h
      cases h
    · rw [if_neg e] at h
      have e3 : (f == g) = false := beq_eq_false_iff_ne.mpr (fun z => e z.symm)
      simp only [List.zip_cons_cons, List.lookup, e3]
      exact lk_no (Option.map_eq_none_iff.mp h)
theorem put_zip {f : Str} {v : V} : ∀ {ns : List Str} {vs : List V} {i : Nat}, ix? f ns = some i → i < vs.length → putF f v (ns.zip vs) = ns.zip (vs.set i v)
  | [], _, _, h, _ => by cases h
  | g :: r, [], i, _, h => by simp at h
  | g :: r, x :: vs, i, h, hv => by
    unfold ix? at h
    by_cases e : g = f
    · rw [if_pos e] at h
      cases h
      show (if g = f then (g, v) :: r.zip vs else (g, x) :: putF f v (r.zip vs)) = _
      rw [if_pos e]
      rfl
    · rw [if_neg e] at h
      obtain ⟨j, hj, rfl⟩ := Option.map_eq_some_iff.mp h
      show (if g = f then (g, v) :: r.zip vs else (g, x) :: putF f v (r.zip vs)) = _
      rw [if_neg e, put_zip hj (by simpa using hv)]
      rfl
/-! ### pairs, exchanges -/
theorem pr_get {α β : Type} {F : α → β → Prop} : ∀ {l : List α} {m : List β}, Paired F l m → ∀ {i : Nat} {a : α}, l[i]? = some a → ∃ b, m[i]? = some b ∧ F a b
  | _, _, .nil, i, a, h => by simp at h
  | _, _, .cons r t, 0, a, h => by
    have e := Option.some.inj h
    subst e
    exact ⟨_, rfl, r⟩
  | _, _, .cons r t, i + 1, a, h => pr_get t (i := i) h
theorem pr_get2 {α β : Type} {F : α → β → Prop} : ∀ {l : List α} {m : List β}, Paired F l m → ∀ {i : Nat} {b : β}, m[i]? = some b → ∃ a, l[i]? = some a ∧ F a b
  | _, _, .nil, i, a, h => by simp at h
  | _, _, .cons r t, 0, a, h => by
    have e := Option.some.inj h
    subst e
    exact ⟨_, rfl, r⟩
  | _, _, .cons r t, i + 1, a, h => pr_get2 t (i := i) h
theorem pr_len {α β : Type} {F : α → β → Prop} : ∀ {l : List α} {m : List β}, Paired F l m → l.length = m.length
  | _, _, .nil => rfl
  | _, _, .cons _ t => congrArg (· + 1) (pr_len t)
theorem pr_mono {α β : Type} {F E : α → β → Prop} (h : ∀ a b, F a b → E a b) : ∀ {l : List α} {m : List β}, Paired F l m → Paired E l m
  | _, _, .nil => .nil
  | _, _, .cons r t => .cons (h _ _ r) (pr_mono h t)
theorem pr_app {α β : Type} {F : α → β → Prop} : ∀ {l l2 : List α} {m m2 : List β}, Paired F l m → Paired F l2 m2 → Paired F (l ++ l2) (m ++ m2)
  | _, _, _, _, .nil, h => h
  | _, _, _, _, .cons r t, h => .cons r (pr_app t h)
abbrev Ex := Nat × Nat × List Nat
def ExOne (H : Hp) (a : Addr) (e : Ex) : Prop := ∃ q, H a = some (.tup [.int e.1, .int e.2.1, .ref q]) ∧ TxtAt H q e.2.2
def ExAt (H : Hp) (x : Addr) (r : List Ex) : Prop := ∃ ts : List Addr, H x = some (.lst (ts.map V.ref)) ∧ Paired (ExOne H) ts r
theorem ExOne.same {H H2 : Hp} {a : Addr} {e : Ex} (h : ExOne H a e) (s : Same H H2) : ExOne H2 a e := by
  obtain ⟨q, h1, h2⟩ := h
  exact ⟨q, s _ _ h1, h2.same s⟩
theorem ExAt.same {H H2 : Hp} {x : Addr} {r : List Ex} (h : ExAt H x r) (s : Same H H2) : ExAt H2 x r := by
  obtain ⟨ts, h1, h2⟩ := h
  exact ⟨ts, s _ _ h1, pr_mono (fun _ _ z => z.same s) h2⟩
theorem ref_at {ts : List Addr} {i : Nat} {v : V} (h : (ts.map V.ref)[i]? = some v) : ∃ a, ts[i]? = some a ∧ v = .ref a := by
  rw [List.getElem?_map] at h
  cases e : ts[i]? with
  | none =>
    rw [e] at h
    cases h
  | some a =>
    rw [e] at h
    exact ⟨a, rfl, (Option.some.inj h).symm⟩
theorem take_at {α : Type} {l : List α} {i : Nat} {x : α} (h : l[i]? = some x) : l.take (i + 1) = l.take i ++ [x] := by
  rw [List.take_add_one, h]
  rfl
theorem dropX_at {α : Type} {l : List α} {i : Nat} {x : α} (h : l[i]? = some x) : l.drop i = x :: l.drop (i + 1) := by
  obtain ⟨h1, h2⟩ := List.getElem?_eq_some_iff.mp h
  rw [← h2]
  exact List.drop_eq_getElem_cons h1
theorem same_put {H H2 : Hp} {x : Addr} {o : HO} (s : Same H H2) (n : H x = none) : Same H (upd H2 x o) := fun b u e => by
  rw [upd_ne (ne_of_none e n)]
  exact s b u e
/-- how many more bytes an exchange brings -/
def more1 (e : Ex) : Int := (e.2.2.length : Int) - ((e.2.1 : Int) - (e.1 : Int))
def lenA (n : Int) (r : List Ex) : Int := r.foldl (fun n e => n + more1 e) n
theorem lenA_snoc (n : Int) (r : List Ex) (e : Ex) : lenA n (r ++ [e]) = lenA n r + more1 e := by
  unfold lenA
  rw [List.foldl_append]
  rfl
/-- where each begins then -/
def begs : Int → List Ex → List Int
  | _, [] => []
  | m, e :: r => ((e.1 : Int) + m) :: begs (m + more1 e) r
theorem begs_app : ∀ (m : Int) (r s : List Ex), begs m (r ++ s) = begs m r ++ begs (lenA m r) s
  | _, [], _ => rfl
  | m, e :: r, s => by
    show ((e.1 : Int) + m) :: begs (m + more1 e) (r ++ s) = _
    rw [begs_app]
    rfl
theorem begs_len : ∀ (m : Int) (r : List Ex), (begs m r).length = r.length
  | _, [] => rfl
  | m, e :: r => congrArg (· + 1) (begs_len _ r)
/-! ### mathematics: all places, what's alike -/
theorem fa_go {t u : List Nat} {e f p q : Nat} (h : Ue15.findFrom (t.take e) u p = some q) : Ue15.findAll t u e (f + 1) p = q :: Ue15.findAll t u e f (q + u.length) := by
  show (match Ue15.findFrom (t.take e) u p with
    | none => []
    | some q => q :: Ue15.findAll t u e f (q + u.length)) = _
  rw [h]
theorem fa_end {t u : List Nat} {e f p : Nat} (h : Ue15.findFrom (t.take e) u p = none) : Ue15.findAll t u e (f + 1) p = [] := by
  show (match Ue15.findFrom (t.take e) u p with
    | none => []
    | some q => q :: Ue15.findAll t u e f (q + u.length)) = _
  rw [h]
theorem ff_is {t w : List Nat} {p i : Nat} (h : Ue15.findFrom t w p = some i) : p ≤ i ∧ i ≤ t.length ∧ (t.drop i).take w.length = w := by
  unfold Ue15.findFrom at h
  obtain ⟨j, hj, h2⟩ := List.exists_of_findSome?_eq_some h
  rw [List.mem_range] at hj
  by_cases c : (t.drop (p + j)).take w.length = w
  · rw [if_pos c] at h2
    cases h2
    exact ⟨by omega, by omega, c⟩
  · rw [if_neg c] at h2
    cases h2
theorem ff_late {t w : List Nat} {p : Nat} (hw : w ≠ []) (h : t.length ≤ p) : Ue15.findFrom t w p = none := ff_none fun i h1 h2 h3 => by
  have h4 := stands_len h3 h2
  have h5 : 0 < w.length := List.length_pos_iff.mpr hw
  omega
theorem cm_nil {l m : List Nat} (h : l = [] ∨ m = []) : Ue15.common l m = 0 := by
  rcases h with rfl | rfl
  · rfl
  · cases l <;> rfl
theorem cm_ne {l m : List Nat} {a b : Nat} (h : a ≠ b) : Ue15.common (a :: l) (b :: m) = 0 := if_neg h
theorem cm_eq {l m : List Nat} {a : Nat} : Ue15.common (a :: l) (a :: m) = Ue15.common l m + 1 := if_pos rfl
theorem cm_le : ∀ l m : List Nat, Ue15.common l m ≤ l.length ∧ Ue15.common l m ≤ m.length
  | [], m => ⟨Nat.zero_le _, Nat.zero_le _⟩
  | a :: l, [] => ⟨Nat.zero_le _, Nat.zero_le _⟩
  | a :: l, b :: m => by
    by_cases h : a = b
    · subst h
      have := cm_le l m
      rw [cm_eq, List.length_cons, List.length_cons]
      omega
    · rw [cm_ne h]
      exact ⟨Nat.zero_le _, Nat.zero_le _⟩
end Ke
end
section
set_option maxHeartbeats 4500000
namespace Ke
open PySem PySem.Spec L2 LamX PyProof.Rows
theorem szl {n : Nat} (h : n ≤ 10000000) : n < sizeLine := by
  rw [sizeLine_eq]
  omega
theorem iL_app (t u : List Nat) : iL (t ++ u) = iL t ++ iL u := List.map_append
theorem iL_len (t : List Nat) : (iL t).length = t.length := List.length_map _
section
variable {P : Program} {w : World} {K : PySem.W.Frag} {mg : Str → Option Value} {base : Heap} {C : Ca}
def sp_all_places (_ : Ca) : Sp := fun vs H Q _ => ∃ (p q : Addr) (t u : List Nat) (b e : Nat), vs = [.ref p, .ref q, .int b, .int e] ∧ TxtAt H p t ∧ TxtAt H q u ∧ u ≠ [] ∧ e ≤ t.length ∧ b ≤ 1000 ∧ t.length ≤ 1000 ∧ u.length ≤ 2 ^ 40 ∧
  ∀ H2 x, Same H H2 → H x = none → TxtAt H2 x (Ue15.findAll t u e (t.length + 1) b) → Q (.ref x) H2
theorem k_all_places (G : Gs K mg C) : C8.Cal P w K mg base 2 "all_places" (sp_all_places C) [] := by
  have K_first_place := k_first_place (P := P) (w := w) (base := base) G
  refine cal_of G.d_all_places sc_all_places (fun _ _ _ _ _ _ us hl => match us, hl with | [_, _, _, _], _ => rfl) (fun vs H Q E h => ?_) (fun f cdv A outer s H vs Q E hr h => ?_)
  · obtain ⟨p, q, t, u, b, e, rfl, _⟩ := h; rfl
  · obtain ⟨p, q, t, u, b, e, rfl, hp, hq, hu0, he, hb, ht, hu, hQ⟩ := h
    refine ⟨_, (pss_cons (ps_set (i := 4) sc_all_places.nd rfl (Or.inl rfl) (pe_lst pa_nil)) (pss_cons (ps_set (i := 5) sc_all_places.nd rfl (Or.inl rfl) (C8.pe_c K_first_place hr (by decide) rfl (pa_cons (pv 0) (pa_cons (pv 1) (pa_cons (pv 2) (pa_cons (pv 3) pa_nil)))))) (pss_cons (ps_while PassesOwn.never (pt_cmpR op_notN (pv 5) pe_non (nomark _)) (pss_cons (ps_expr (pe_bm PySem.F.plainAttrs_list PySem.F.slot_list_append PySem.F.type_list_append mt_append (pv 4) (pa_cons (pv 5) pa_nil))) (pss_one (ps_set (i := 5) sc_all_places.nd rfl (Or.inl rfl) (C8.pe_c K_first_place hr (by decide) rfl (pa_cons (pv 0) (pa_cons (pv 1) (pa_cons (pe_op op_add (pv 5) (pe_callB call_len_seq (by rfl) G.b_len PySem.boot_len (pa_cons (pv 1) pa_nil))) (pa_cons (pv 3) pa_nil))))))))) (pss_one (ps_ret (pv 4)))))), ?_⟩
    refine ⟨Nat.zero_le _, fun x nx => ?_⟩
    have s0 : Same H (upd H x (.lst [])) := same_new nx
    refine ⟨_, rfl, _, rfl, _, rfl, _, rfl, p, q, t, u, b, e, rfl, hp.same s0, hq.same s0, he, by omega, by omega, by omega, fun H1 s1 => ?_⟩
    have x1 : TxtAt H1 x [] := s1 _ _ upd_same
    refine ⟨fun m σ H2 => Same H H2 ∧ ∃ (acc : List Nat) (r : Nat), TxtAt H2 x acc ∧ σ = [some (.ref p), some (.ref q), some (.int b), some (.int e), some (.ref x), some (optV (Ue15.findFrom (t.take e) u r))] ∧ acc ++ Ue15.findAll t u e (m + 1) r = Ue15.findAll t u e (t.length + 1) b ∧ e ≤ m + r ∧ acc.length + m = t.length ∧ r ≤ 2 ^ 45,
      ⟨t.length, s0.trans s1, [], b, x1, rfl, rfl, by omega, by simp, by omega⟩, ?_⟩
    rintro m σ H2 ⟨s2, acc, r, hx, rfl, hacc, hm, hl, hr2⟩
    have lt_ : (t.take e).length = e := by
      rw [List.length_take]
      omega
    cases ho : Ue15.findFrom (t.take e) u r with
    | none =>
      refine (⟨_, rfl, rfl, _, rfl, ?_⟩)
      rw [fa_end ho, List.append_nil] at hacc
      rw [hacc] at hx
      exact ⟨_, rfl, hQ _ _ s2 nx hx⟩
    | some z =>
      obtain ⟨z1, z2, z3⟩ := ff_is ho
      have z4 := stands_len z3 z2
      have z5 : 0 < u.length := List.length_pos_iff.mpr hu0
      rw [lt_] at z2 z4
      obtain ⟨m2, rfl⟩ : ∃ m2, m = m2 + 1 := ⟨m - 1, by
        cases m with
        | zero =>
          have := ff_late (t := t.take e) (p := r) hu0 (by omega)
          rw [ho] at this
          cases this
        | succ m => rfl⟩
      refine (⟨_, rfl, rfl, _, rfl, ?_⟩)
      refine ⟨fun σ3 H3 => Same H H3 ∧ TxtAt H3 x (acc ++ [z]) ∧ σ3 = [some (.ref p), some (.ref q), some (.int b), some (.int e), some (.ref x), some (optV (Ue15.findFrom (t.take e) u (z + u.length)))], fun σ3 H3 ⟨a1, a2, a3⟩ => ⟨m2, Nat.lt_succ_self _, a1, acc ++ [z], z + u.length, a2, a3, ?_, by omega, by simp; omega, by omega⟩, ?_⟩
      · rw [← hacc, fa_go ho, List.append_assoc]
        rfl
      · refine ⟨_, rfl, .inl ⟨rfl, _, SqL.of hx⟩, _, rfl, x, _, _, rfl, rfl, hx, szl (by rw [iL_len]; omega), ?_⟩
        have s3 : Same H (upd H2 x (.lst (iL acc ++ [V.int (z : Nat)]))) := same_put s2 nx
        have x3 : TxtAt (upd H2 x (.lst (iL acc ++ [V.int (z : Nat)]))) x (acc ++ [z]) := by
          show upd _ _ _ _ = _
          rw [upd_same, iL_app]
          rfl
        refine ⟨_, rfl, _, rfl, _, rfl, _, rfl, _, _, rfl, .inl (SqL.of (hq.same s3)), _, _, rfl, rfl, _, rfl, p, q, t, u, z + u.length, e, ?_, hp.same s3, hq.same s3, he, by omega, by omega, by omega, fun H4 s4 => ⟨s3.trans s4, x3.same s4, rfl⟩⟩
        rw [iL_len]
        rfl
def sp_length_after (_ : Ca) : Sp := fun vs H Q _ => ∃ (p x : Addr) (t : List Nat) (r : List Ex), vs = [.ref p, .ref x] ∧ TxtAt H p t ∧ ExAt H x r ∧ Q (.int (lenA t.length r)) H
theorem k_length_after (G : Gs K mg C) : C8.Cal P w K mg base 1 "length_after" (sp_length_after C) [] := by
  refine cal_of G.d_length_after sc_length_after (fun _ _ _ _ _ _ us hl => match us, hl with | [_, _], _ => rfl) (fun vs H Q E h => ?_) (fun f cdv A outer s H vs Q E hr h => ?_)
  · obtain ⟨p, x, t, r, rfl, _⟩ := h; rfl
  · obtain ⟨p, x, t, r, rfl, hp, ⟨ts, hx, hr2⟩, hQ⟩ := h
    refine ⟨_, (pss_cons (ps_set (i := 2) sc_length_after.nd rfl (Or.inl rfl) (pe_callB call_len_seq (by rfl) G.b_len PySem.boot_len (pa_cons (pv 0) pa_nil))) (pss_cons (ps_for PassesOwn.never rfl (pi_list (pv 1)) (pg_tup rfl (pgs_cons (pg_name (i := 3) sc_length_after.nd rfl (Or.inl rfl)) (pgs_cons (pg_name (i := 4) sc_length_after.nd rfl (Or.inl rfl)) (pgs_cons (pg_name (i := 5) sc_length_after.nd rfl (Or.inl rfl)) pgs_nil)))) (pss_one (ps_aug (i := 2) sc_length_after.nd rfl (Or.inl rfl) (pe_op op_sub (pe_callB call_len_seq (by rfl) G.b_len PySem.boot_len (pa_cons (pv 5) pa_nil)) (pe_op op_sub (pv 4) (pv 3))) ip_add))) (pss_one (ps_ret (pv 2))))), ?_⟩
    refine ⟨_, rfl, _, _, rfl, .inl (SqL.of hp), _, rfl, x, rfl, ⟨_, SqL.of hx⟩, ?_⟩
    rw [iL_len]
    refine for_list (a := x) (xs := ts.map V.ref) (fun i σ H2 => H2 = H ∧ ∃ v3 v4 v5, σ = [some (.ref p), some (.ref x), some (.int (lenA t.length (r.take i))), v3, v4, v5]) ⟨rfl, none, none, none, rfl⟩ (fun i σ H2 _ ⟨e, _⟩ => by rw [e]; exact SqL.of hx) ?_ ?_
    · rintro i v σ H2 hi ⟨rfl, v3, v4, v5, rfl⟩
      obtain ⟨a, ha, rfl⟩ := ref_at hi
      obtain ⟨ex, hex, q, hq1, hq2⟩ := pr_get hr2 ha
      refine ⟨a, _, rfl, SqT.of hq1, rfl, _, _, rfl, _, _, rfl, _, _, rfl, rfl, ?_⟩
      refine ⟨_, rfl, _, rfl, _, _, rfl, .inl (SqL.of hq2), _, rfl, _, rfl, _, _, rfl, rfl, _, _, rfl, rfl, _, _, rfl, rfl, rfl, some (.int ex.1), some (.int ex.2.1), some (.ref q), ?_⟩
      rw [take_at hex, lenA_snoc, iL_len]
      rfl
    · rintro σ H2 ⟨rfl, v3, v4, v5, rfl⟩
      refine ⟨_, rfl, ?_⟩
      rw [List.length_map, pr_len hr2, List.take_length]
      exact hQ
def sp_begins_after (_ : Ca) : Sp := fun vs H Q _ => ∃ (x : Addr) (r : List Ex), vs = [.ref x] ∧ ExAt H x r ∧ r.length ≤ 1000 ∧ ∀ H2 y, Same H H2 → H y = none → H2 y = some (.lst ((begs 0 r).map V.int)) → Q (.ref y) H2
theorem k_begins_after (G : Gs K mg C) : C8.Cal P w K mg base 1 "begins_after" (sp_begins_after C) [] := by
  refine cal_of G.d_begins_after sc_begins_after (fun _ _ _ _ _ _ us hl => match us, hl with | [_], _ => rfl) (fun vs H Q E h => ?_) (fun f cdv A outer s H vs Q E hr h => ?_)
  · obtain ⟨x, r, rfl, _⟩ := h; rfl
  · obtain ⟨x, r, rfl, ⟨ts, hx, hr2⟩, hl, hQ⟩ := h
    refine ⟨_, (pss_cons (ps_set (i := 1) sc_begins_after.nd rfl (Or.inl rfl) (pe_lst pa_nil)) (pss_cons (ps_set (i := 2) sc_begins_after.nd rfl (Or.inl rfl) pe_int) (pss_cons (ps_for PassesOwn.never rfl (pi_list (pv 0)) (pg_tup rfl (pgs_cons (pg_name (i := 3) sc_begins_after.nd rfl (Or.inl rfl)) (pgs_cons (pg_name (i := 4) sc_begins_after.nd rfl (Or.inl rfl)) (pgs_cons (pg_name (i := 5) sc_begins_after.nd rfl (Or.inl rfl)) pgs_nil)))) (pss_cons (ps_expr (pe_bm PySem.F.plainAttrs_list PySem.F.slot_list_append PySem.F.type_list_append mt_append (pv 1) (pa_cons (pe_op op_add (pv 3) (pv 2)) pa_nil))) (pss_one (ps_aug (i := 2) sc_begins_after.nd rfl (Or.inl rfl) (pe_op op_sub (pe_callB call_len_seq (by rfl) G.b_len PySem.boot_len (pa_cons (pv 5) pa_nil)) (pe_op op_sub (pv 4) (pv 3))) ip_add)))) (pss_one (ps_ret (pv 1)))))), ?_⟩
    refine ⟨Nat.zero_le _, fun y ny => ?_⟩
    have s0 : Same H (upd H y (.lst [])) := same_new ny
    refine ⟨_, rfl, x, rfl, ⟨_, SqL.of (s0 _ _ hx)⟩, ?_⟩
    refine for_list (a := x) (xs := ts.map V.ref) (fun i σ H2 => Same H H2 ∧ H2 y = some (.lst ((begs 0 (r.take i)).map V.int)) ∧ ∃ v3 v4 v5, σ = [some (.ref x), some (.ref y), some (.int (lenA 0 (r.take i))), v3, v4, v5]) ⟨s0, upd_same, none, none, none, rfl⟩ (fun i σ H2 _ ⟨e, _⟩ => SqL.of (e _ _ hx)) ?_ ?_
    · rintro i v σ H2 hi ⟨s2, hy, v3, v4, v5, rfl⟩
      obtain ⟨a, ha, rfl⟩ := ref_at hi
      obtain ⟨ex, hex, q, hq1, hq2⟩ := pr_get hr2 ha
      refine ⟨a, _, rfl, SqT.of (s2 _ _ hq1), rfl, _, _, rfl, _, _, rfl, _, _, rfl, rfl, ?_⟩
      refine ⟨_, rfl, .inl ⟨rfl, _, SqL.of hy⟩, _, rfl, _, rfl, _, _, rfl, rfl, y, _, _, rfl, rfl, hy, szl (by rw [List.length_map, begs_len, List.length_take]; omega), ?_⟩
      have s3 : Same H (upd H2 y (.lst ((begs 0 (r.take i)).map V.int ++ [V.int ((ex.1 : Int) + lenA 0 (r.take i))]))) := same_put s2 ny
      refine ⟨_, rfl, _, rfl, _, _, rfl, .inl (SqL.of (hq2.same s3)), _, rfl, _, rfl, _, _, rfl, rfl, _, _, rfl, rfl, _, _, rfl, rfl, s3, ?_, some (.int ex.1), some (.int ex.2.1), some (.ref q), ?_⟩
      · rw [upd_same, take_at hex, begs_app, List.map_append]
        rfl
      · rw [take_at hex, lenA_snoc, iL_len]
        rfl
    · rintro σ H2 ⟨s2, hy, v3, v4, v5, rfl⟩
      refine ⟨_, rfl, ?_⟩
      rw [List.length_map, pr_len hr2, List.take_length] at hy
      exact hQ _ _ s2 ny hy
def sp_text_after (_ : Ca) : Sp := fun vs H Q _ => ∃ (p x : Addr) (t : List Nat) (r : List Ex), vs = [.ref p, .ref x] ∧ TxtAt H p t ∧ ExAt H x r ∧ (Ue15.changed t 0 r).length ≤ 1000000 ∧ ∀ H2 y, Same H H2 → H y = none → TxtAt H2 y (Ue15.changed t 0 r) → Q (.ref y) H2
theorem k_text_after (G : Gs K mg C) : C8.Cal P w K mg base 1 "text_after" (sp_text_after C) [] := by
  refine cal_of G.d_text_after sc_text_after (fun _ _ _ _ _ _ us hl => match us, hl with | [_, _], _ => rfl) (fun vs H Q E h => ?_) (fun f cdv A outer s H vs Q E hr h => ?_)
  · obtain ⟨p, x, t, r, rfl, _⟩ := h; rfl
  · obtain ⟨p, x, t, r, rfl, hp, ⟨ts, hx, hr2⟩, hl, hQ⟩ := h
    refine ⟨_, (pss_cons (ps_set (i := 2) sc_text_after.nd rfl (Or.inl rfl) (pe_lst pa_nil)) (pss_cons (ps_set (i := 3) sc_text_after.nd rfl (Or.inl rfl) pe_int) (pss_cons (ps_for PassesOwn.never rfl (pi_list (pv 1)) (pg_tup rfl (pgs_cons (pg_name (i := 4) sc_text_after.nd rfl (Or.inl rfl)) (pgs_cons (pg_name (i := 5) sc_text_after.nd rfl (Or.inl rfl)) (pgs_cons (pg_name (i := 6) sc_text_after.nd rfl (Or.inl rfl)) pgs_nil)))) (pss_cons (ps_expr (pe_bm PySem.F.plainAttrs_list PySem.F.slot_list_extend PySem.F.type_list_extend mt_extend (pv 2) (pa_cons (pe_slice sl_list (pv 0) (po_some (pv 3)) (po_some (pv 4))) pa_nil))) (pss_cons (ps_expr (pe_bm PySem.F.plainAttrs_list PySem.F.slot_list_extend PySem.F.type_list_extend mt_extend (pv 2) (pa_cons (pv 6) pa_nil))) (pss_one (ps_set (i := 3) sc_text_after.nd rfl (Or.inl rfl) (pv 5)))))) (pss_cons (ps_expr (pe_bm PySem.F.plainAttrs_list PySem.F.slot_list_extend PySem.F.type_list_extend mt_extend (pv 2) (pa_cons (pe_slice sl_list (pv 0) (po_some (pv 3)) po_none) pa_nil))) (pss_one (ps_ret (pv 2))))))), ?_⟩
    refine ⟨Nat.zero_le _, fun y ny => ?_⟩
    have s0 : Same H (upd H y (.lst [])) := same_new ny
    refine ⟨_, rfl, x, rfl, ⟨_, SqL.of (s0 _ _ hx)⟩, ?_⟩
    refine for_list (a := x) (xs := ts.map V.ref) (fun i σ H2 => Same H H2 ∧ ∃ (acc : List Nat) (k : Nat), TxtAt H2 y acc ∧ acc ++ Ue15.changed t k (r.drop i) = Ue15.changed t 0 r ∧ ∃ v4 v5 v6, σ = [some (.ref p), some (.ref x), some (.ref y), some (.int k), v4, v5, v6]) ⟨s0, [], 0, upd_same, rfl, none, none, none, rfl⟩ (fun i σ H2 _ ⟨e, _⟩ => SqL.of (e _ _ hx)) ?_ ?_
    · rintro i v σ H2 hi ⟨s2, acc, k, hy, hacc, v4, v5, v6, rfl⟩
      obtain ⟨a, ha, rfl⟩ := ref_at hi
      obtain ⟨⟨eb, ee, ew⟩, hex, q, hq1, hq2⟩ := pr_get hr2 ha
      rw [dropX_at hex] at hacc
      have hacc2 : acc ++ ((t.take eb).drop k ++ (ew ++ Ue15.changed t ee (r.drop (i + 1)))) = Ue15.changed t 0 r := hacc
      have hlen := congrArg List.length hacc2
      rw [List.length_append, List.length_append, List.length_append] at hlen
      refine ⟨a, _, rfl, SqT.of (s2 _ _ hq1), rfl, _, _, rfl, _, _, rfl, _, _, rfl, rfl, ?_⟩
      refine ⟨_, rfl, .inl ⟨rfl, _, SqL.of hy⟩, _, rfl, _, rfl, _, rfl, _, rfl, _, rfl, p, _, rfl, SqL.of (hp.same s2), fun z nz => ?_⟩
      have hyz : y ≠ z := ne_of_none hy nz
      have s3 : Same H2 (upd H2 z (.lst (cutV (iL t) (some (k : Int)) (some (eb : Int))))) := same_new nz
      refine ⟨y, z, iL acc, iL ((t.take eb).drop k), rfl, rfl, s3 _ _ hy, by rw [upd_same, cut_nat], by rw [iL_len, iL_len, sizeLine_eq]; omega, ?_⟩
      have s4 : Same H (upd (upd H2 z (.lst (cutV (iL t) (some (k : Int)) (some (eb : Int))))) y (.lst (iL acc ++ iL ((t.take eb).drop k)))) := same_put (s2.trans s3) ny
      refine ⟨_, rfl, .inl ⟨rfl, _, SqL.of upd_same⟩, _, rfl, y, q, _, _, rfl, rfl, upd_same, hq2.same s4, by rw [List.length_append, iL_len, iL_len, iL_len, sizeLine_eq]; show _ + _ + ew.length ≤ _; omega, ?_⟩
      refine ⟨_, rfl, same_put s4 ny, acc ++ (t.take eb).drop k ++ ew, ee, ?_, ?_, _, _, _, rfl⟩
      · show upd _ _ _ _ = _
        rw [upd_same, iL_app, iL_app]
      · rw [← hacc2]
        simp only [List.append_assoc]
    · rintro σ H2 ⟨s2, acc, k, hy, hacc, v4, v5, v6, rfl⟩
      rw [List.length_map, pr_len hr2, List.drop_length] at hacc
      have hacc2 : acc ++ t.drop k = Ue15.changed t 0 r := hacc
      have hlen := congrArg List.length hacc2
      rw [List.length_append] at hlen
      refine ⟨_, rfl, .inl ⟨rfl, _, SqL.of hy⟩, _, rfl, _, rfl, _, rfl, p, _, rfl, SqL.of (hp.same s2), fun z nz => ?_⟩
      have s3 : Same H2 (upd H2 z (.lst (cutV (iL t) (some (k : Int)) none))) := same_new nz
      refine ⟨y, z, iL acc, iL (t.drop k), rfl, rfl, s3 _ _ hy, by rw [upd_same, cut_from], by rw [iL_len, iL_len, sizeLine_eq]; omega, ?_⟩
      refine ⟨_, rfl, hQ _ _ (same_put (s2.trans s3) ny) ny ?_⟩
      show upd _ _ _ _ = _
      rw [upd_same, ← hacc2, iL_app]
end
end Ke
end
section
set_option maxHeartbeats 4500000
namespace Ke
open PySem PySem.Spec L2 LamX PyProof.Rows
/-! ### what's alike: one more -/
theorem al_go {l m : List Nat} {i a : Nat} (h1 : l[i]? = some a) (h2 : m[i]? = some a) (h : Ue15.common l m = i + Ue15.common (l.drop i) (m.drop i)) : Ue15.common l m = (i + 1) + Ue15.common (l.drop (i + 1)) (m.drop (i + 1)) := by
  rw [h, drop_at h1, drop_at h2, cm_eq]
  omega
theorem al_ne {l m : List Nat} {i a b : Nat} (h1 : l[i]? = some a) (h2 : m[i]? = some b) (n : a ≠ b) (h : Ue15.common l m = i + Ue15.common (l.drop i) (m.drop i)) : Ue15.common l m = i := by
  rw [h, drop_at h1, drop_at h2, cm_ne n]
  rfl
theorem al_end {l m : List Nat} {i : Nat} (h1 : l.length ≤ i ∨ m.length ≤ i) (h : Ue15.common l m = i + Ue15.common (l.drop i) (m.drop i)) : Ue15.common l m = i := by
  rw [h, cm_nil (h1.imp List.drop_eq_nil_of_le List.drop_eq_nil_of_le)]
  rfl
theorem rev_at {t : List Nat} {a j : Nat} (h : j < t.length - a) : (t.drop a).reverse[j]? = t[t.length - 1 - j]? := by
  rw [List.getElem?_reverse (by rw [List.length_drop]; exact h), List.length_drop, List.getElem?_drop]
  congr 1
  omega
section
variable {P : Program} {w : World} {K : PySem.W.Frag} {mg : Str → Option Value} {base : Heap} {C : Ca}
def sp_alike_ahead (_ : Ca) : Sp := fun vs H Q _ => ∃ (p q : Addr) (t u : List Nat), vs = [.ref p, .ref q] ∧ TxtAt H p t ∧ TxtAt H q u ∧ Q (.int (Ue15.common t u : Nat)) H
theorem k_alike_ahead (G : Gs K mg C) : C8.Cal P w K mg base 1 "alike_ahead" (sp_alike_ahead C) [] := by
  refine cal_of G.d_alike_ahead sc_alike_ahead (fun _ _ _ _ _ _ us hl => match us, hl with | [_, _], _ => rfl) (fun vs H Q E h => ?_) (fun f cdv A outer s H vs Q E hr h => ?_)
  · obtain ⟨p, q, t, u, rfl, _⟩ := h; rfl
  · obtain ⟨p, q, t, u, rfl, hp, hq, hQ⟩ := h
    refine ⟨_, (pss_cons (ps_set (i := 2) sc_alike_ahead.nd rfl (Or.inl rfl) (pe_callB (call_min2 rfl) (by rfl) G.b_min (by decide +kernel) (pa_cons (pe_callB call_len_seq (by rfl) G.b_len PySem.boot_len (pa_cons (pv 0) pa_nil)) (pa_cons (pe_callB call_len_seq (by rfl) G.b_len PySem.boot_len (pa_cons (pv 1) pa_nil)) pa_nil)))) (pss_cons (ps_set (i := 3) sc_alike_ahead.nd rfl (Or.inl rfl) pe_int) (pss_cons (ps_while PassesOwn.never (PW.pt (pw_and (pt_cmpR op_lt (pv 3) (pv 2) (nomark _)) (pw_and1 (pt_cmpR op_eq (pe_ix ix_list (pv 0) (pv 3) (fun _ _ => rfl)) (pe_ix ix_list (pv 1) (pv 3) (fun _ _ => rfl)) (nomark _))))) (pss_one (ps_aug (i := 3) sc_alike_ahead.nd rfl (Or.inl rfl) pe_int ip_add))) (pss_one (ps_ret (pv 3)))))), ?_⟩
    refine ⟨_, rfl, _, _, rfl, .inl (SqL.of hp), _, rfl, _, _, rfl, .inl (SqL.of hq), _, _, rfl, ?_⟩
    have em : (if ((iL u).length : Int) < ((iL t).length : Int) then ((iL u).length : Int) else ((iL t).length : Int)) = ((min t.length u.length : Nat) : Int) := by
      rw [iL_len, iL_len]
      split <;> omega
    rw [em]
    refine ⟨fun m σ H2 => H2 = H ∧ ∃ j : Nat, j + m = min t.length u.length ∧ σ = [some (.ref p), some (.ref q), some (.int (min t.length u.length : Nat)), some (.int (j : Nat))] ∧ Ue15.common t u = j + Ue15.common (t.drop j) (u.drop j), ⟨min t.length u.length, rfl, 0, by omega, rfl, by simp⟩, ?_⟩
    rintro m σ H2 ⟨rfl, j, hj, rfl, ej⟩
    refine ⟨_, rfl, _, rfl, _, _, rfl, rfl, _, rfl, dI (fun h0 => ?_) fun h0 => ?_⟩
    · have h1 : j < t.length := by omega
      have h2 : j < u.length := by omega
      obtain ⟨a, ha⟩ : ∃ a, t[j]? = some a := ⟨_, List.getElem?_eq_getElem h1⟩
      obtain ⟨b, hb⟩ : ∃ a, u[j]? = some a := ⟨_, List.getElem?_eq_getElem h2⟩
      refine ⟨_, rfl, _, rfl, p, _, _, _, rfl, rfl, SqL.of hp, atN ha, _, rfl, _, rfl, q, _, _, _, rfl, rfl, SqL.of hq, atN hb, rfl, _, rfl, dI (fun h3 => ?_) fun h3 => ?_⟩
      · have e := int_eq h3
        subst e
        refine ⟨fun σ3 H3 => H3 = H2 ∧ σ3 = [some (.ref p), some (.ref q), some (.int (min t.length u.length : Nat)), some (.int ((j + 1 : Nat) : Int))], fun σ3 H3 ⟨e1, e2⟩ => ⟨m - 1, by omega, e1, j + 1, by omega, e2, al_go ha hb ej⟩, ?_⟩
        exact ⟨_, rfl, _, _, rfl, rfl, rfl, rfl⟩
      · refine ⟨_, rfl, ?_⟩
        rw [al_ne ha hb (int_ne h3) ej] at hQ
        exact hQ
    · refine ⟨_, rfl, ?_⟩
      rw [al_end (by omega) ej] at hQ
      exact hQ
def sp_alike_behind (_ : Ca) : Sp := fun vs H Q _ => ∃ (p q : Addr) (t u : List Nat) (a : Nat), vs = [.ref p, .ref q, .int a] ∧ TxtAt H p t ∧ TxtAt H q u ∧ a ≤ t.length ∧ a ≤ u.length ∧ Q (.int (Ue15.common (t.drop a).reverse (u.drop a).reverse : Nat)) H
theorem k_alike_behind (G : Gs K mg C) : C8.Cal P w K mg base 1 "alike_behind" (sp_alike_behind C) [] := by
  refine cal_of G.d_alike_behind sc_alike_behind (fun _ _ _ _ _ _ us hl => match us, hl with | [_, _, _], _ => rfl) (fun vs H Q E h => ?_) (fun f cdv A outer s H vs Q E hr h => ?_)
  · obtain ⟨p, q, t, u, a, rfl, _⟩ := h; rfl
  · obtain ⟨p, q, t, u, a, rfl, hp, hq, ht, hu, hQ⟩ := h
    refine ⟨_, (pss_cons (ps_set (i := 3) sc_alike_behind.nd rfl (Or.inl rfl) (pe_op op_sub (pe_callB (call_min2 rfl) (by rfl) G.b_min (by decide +kernel) (pa_cons (pe_callB call_len_seq (by rfl) G.b_len PySem.boot_len (pa_cons (pv 0) pa_nil)) (pa_cons (pe_callB call_len_seq (by rfl) G.b_len PySem.boot_len (pa_cons (pv 1) pa_nil)) pa_nil))) (pv 2))) (pss_cons (ps_set (i := 4) sc_alike_behind.nd rfl (Or.inl rfl) pe_int) (pss_cons (ps_while PassesOwn.never (PW.pt (pw_and (pt_cmpR op_lt (pv 4) (pv 3) (nomark _)) (pw_and1 (pt_cmpR op_eq (pe_ix ix_list (pv 0) (pe_op op_sub (pe_op op_sub (pe_callB call_len_seq (by rfl) G.b_len PySem.boot_len (pa_cons (pv 0) pa_nil)) pe_int) (pv 4)) (fun _ _ => rfl)) (pe_ix ix_list (pv 1) (pe_op op_sub (pe_op op_sub (pe_callB call_len_seq (by rfl) G.b_len PySem.boot_len (pa_cons (pv 1) pa_nil)) pe_int) (pv 4)) (fun _ _ => rfl)) (nomark _))))) (pss_one (ps_aug (i := 4) sc_alike_behind.nd rfl (Or.inl rfl) pe_int ip_add))) (pss_one (ps_ret (pv 4)))))), ?_⟩
    refine ⟨_, rfl, _, _, rfl, .inl (SqL.of hp), _, rfl, _, _, rfl, .inl (SqL.of hq), _, _, rfl, _, rfl, _, _, rfl, rfl, ?_⟩
    have em : (if ((iL u).length : Int) < ((iL t).length : Int) then ((iL u).length : Int) else ((iL t).length : Int)) - (a : Int) = ((min t.length u.length - a : Nat) : Int) := by
      rw [iL_len, iL_len]
      split <;> omega
    dsimp only
    rw [em]
    have l1 : (t.drop a).reverse.length = t.length - a := by rw [List.length_reverse, List.length_drop]
    have l2 : (u.drop a).reverse.length = u.length - a := by rw [List.length_reverse, List.length_drop]
    refine ⟨fun m σ H2 => H2 = H ∧ ∃ j : Nat, j + m = min t.length u.length - a ∧ σ = [some (.ref p), some (.ref q), some (.int a), some (.int (min t.length u.length - a : Nat)), some (.int (j : Nat))] ∧ Ue15.common (t.drop a).reverse (u.drop a).reverse = j + Ue15.common ((t.drop a).reverse.drop j) ((u.drop a).reverse.drop j), ⟨min t.length u.length - a, rfl, 0, by omega, rfl, by simp⟩, ?_⟩
    rintro m σ H2 ⟨rfl, j, hj, rfl, ej⟩
    refine ⟨_, rfl, _, rfl, _, _, rfl, rfl, _, rfl, dI (fun h0 => ?_) fun h0 => ?_⟩
    · have h1 : t.length - 1 - j < t.length := by omega
      have h2 : u.length - 1 - j < u.length := by omega
      obtain ⟨x, hx⟩ : ∃ x, t[t.length - 1 - j]? = some x := ⟨_, List.getElem?_eq_getElem h1⟩
      obtain ⟨y, hy⟩ : ∃ x, u[u.length - 1 - j]? = some x := ⟨_, List.getElem?_eq_getElem h2⟩
      have hx2 : (t.drop a).reverse[j]? = some x := (rev_at (by omega)).trans hx
      have hy2 : (u.drop a).reverse[j]? = some y := (rev_at (by omega)).trans hy
      have i1 : ((iL t).length : Int) - 1 - (j : Int) = ((t.length - 1 - j : Nat) : Int) := by
        rw [iL_len]
        omega
      have i2 : ((iL u).length : Int) - 1 - (j : Int) = ((u.length - 1 - j : Nat) : Int) := by
        rw [iL_len]
        omega
      refine ⟨_, rfl, _, rfl, _, _, rfl, .inl (SqL.of hp), _, _, rfl, rfl, _, rfl, _, _, rfl, rfl, p, _, _, _, rfl, rfl, SqL.of hp, by rw [i1]; exact atN hx, ?_⟩
      refine ⟨_, rfl, _, rfl, _, _, rfl, .inl (SqL.of hq), _, _, rfl, rfl, _, rfl, _, _, rfl, rfl, q, _, _, _, rfl, rfl, SqL.of hq, by rw [i2]; exact atN hy, rfl, _, rfl, dI (fun h3 => ?_) fun h3 => ?_⟩
      · have e := int_eq h3
        subst e
        refine ⟨fun σ3 H3 => H3 = H2 ∧ σ3 = [some (.ref p), some (.ref q), some (.int a), some (.int (min t.length u.length - a : Nat)), some (.int ((j + 1 : Nat) : Int))], fun σ3 H3 ⟨e1, e2⟩ => ⟨m - 1, by omega, e1, j + 1, by omega, e2, al_go hx2 hy2 ej⟩, ?_⟩
        exact ⟨_, rfl, _, _, rfl, rfl, rfl, rfl⟩
      · refine ⟨_, rfl, ?_⟩
        rw [al_ne hx2 hy2 (int_ne h3) ej] at hQ
        exact hQ
    · refine ⟨_, rfl, ?_⟩
      rw [al_end (by omega) ej] at hQ
      exact hQ
/-! ### Carrier -/
def nCar : List Str := ["ahead", "behind", "old_length", "new_length"]
def alB (t u : List Nat) : Nat := Ue15.common (t.drop (Ue15.common t u)).reverse (u.drop (Ue15.common t u)).reverse
def CarAt (C : Ca) (H : Hp) (x : Addr) (t u : List Nat) : Prop := ∃ dx, H x = some (.ins C.car dx (nCar.zip [.int (Ue15.common t u : Nat), .int (alB t u : Nat), .int (t.length : Nat), .int (u.length : Nat)]))
theorem CarAt.same {H H2 : Hp} {x : Addr} {t u : List Nat} (h : CarAt C H x t u) (s : Same H H2) : CarAt C H2 x t u := by
  obtain ⟨dx, h⟩ := h
  exact ⟨dx, s _ _ h⟩
def sp_Carrier_init (C : Ca) : Sp := fun vs H Q _ => ∃ (x dx p q : Addr) (t u : List Nat), vs = [.ref x, .ref p, .ref q] ∧ H x = some (.ins C.car dx []) ∧ TxtAt H p t ∧ TxtAt H q u ∧
  ∀ H2, CarAt C H2 x t u → (∀ b o, H b = some o → b ≠ x → H2 b = some o) → Q .non H2
theorem k_Carrier_init (G : Gs K mg C) : C8.Mak P w K mg base 2 "Carrier" C.car (sp_Carrier_init C) [] := by
  have K_alike_ahead := k_alike_ahead (P := P) (w := w) (base := base) G
  have K_alike_behind := k_alike_behind (P := P) (w := w) (base := base) G
  refine mak_of G.d_Carrier_init sc_Carrier_init (fun _ _ _ _ _ _ us hl => match us, hl with | [_, _, _], _ => rfl) (fun vs H Q E h => ?_) (fun f cdv A outer s H vs Q E hr h => ?_)
  · obtain ⟨x, dx, p, q, t, u, rfl, _⟩ := h; rfl
  · obtain ⟨x, dx, p, q, t, u, rfl, hx, hp, hq, hQ⟩ := h
    refine ⟨_, (pss_cons (ps_fld (pv 0) (C8.pe_c K_alike_ahead hr (by decide) rfl (pa_cons (pv 1) (pa_cons (pv 2) pa_nil))) rfl) (pss_cons (ps_fld (pv 0) (C8.pe_c K_alike_behind hr (by decide) rfl (pa_cons (pv 1) (pa_cons (pv 2) (pa_cons (pe_fld (pv 0) rfl) pa_nil)))) rfl) (pss_cons (ps_fld (pv 0) (pe_callB call_len_seq (by rfl) G.b_len PySem.boot_len (pa_cons (pv 1) pa_nil)) rfl) (pss_one (ps_fld (pv 0) (pe_callB call_len_seq (by rfl) G.b_len PySem.boot_len (pa_cons (pv 2) pa_nil)) rfl))))), ?_⟩
    have np : p ≠ x := ne_of hp hx (by intro z; cases z)
    have nq : q ≠ x := ne_of hq hx (by intro z; cases z)
    have kp : ∀ {o : HO} {H2 : Hp}, TxtAt H2 p t → TxtAt (upd H2 x o) p t := fun h => (upd_ne np).trans h
    have kq : ∀ {o : HO} {H2 : Hp}, TxtAt H2 q u → TxtAt (upd H2 x o) q u := fun h => (upd_ne nq).trans h
    refine ⟨_, rfl, _, rfl, p, q, t, u, rfl, hp, hq, _, rfl, x, C.car, dx, _, rfl, hx, G.k_Carrier, G.n_Carrier_ahead, by show 0 < 1000; decide, ?_⟩
    refine ⟨_, rfl, _, rfl, _, rfl, x, C.car, dx, _, _, rfl, upd_same, G.k_Carrier, G.n_Carrier_ahead, rfl, p, q, t, u, _, rfl, kp hp, kq hq, (cm_le t u).1, (cm_le t u).2, _, rfl, x, C.car, dx, _, rfl, upd_same, G.k_Carrier, G.n_Carrier_behind, by show 1 < 1000; decide, ?_⟩
    refine ⟨_, rfl, _, _, rfl, .inl (SqL.of (kp (kp hp))), _, rfl, x, C.car, dx, _, rfl, upd_same, G.k_Carrier, G.n_Carrier_old_length, by show 2 < 1000; decide, ?_⟩
    refine ⟨_, rfl, _, _, rfl, .inl (SqL.of (kq (kq (kq hq)))), _, rfl, x, C.car, dx, _, rfl, upd_same, G.k_Carrier, G.n_Carrier_new_length, by show 3 < 1000; decide, ?_⟩
    refine hQ _ ⟨dx, ?_⟩ fun b o e hb => ?_
    · rw [upd_same, iL_len, iL_len]
      rfl
    · rw [upd_ne hb, upd_ne hb, upd_ne hb, upd_ne hb]
      exact e
def sp_Carrier_carried (C : Ca) : Sp := fun vs H Q _ => ∃ (x : Addr) (i : Nat) (t u : List Nat), vs = [.ref x, .int i] ∧ CarAt C H x t u ∧ i ≤ t.length ∧ Q (.int (Ue15.carried t u i : Nat)) H
theorem alB_le (t u : List Nat) : alB t u ≤ t.length ∧ alB t u ≤ u.length := by
  have h := cm_le (t.drop (Ue15.common t u)).reverse (u.drop (Ue15.common t u)).reverse
  rw [List.length_reverse, List.length_reverse, List.length_drop, List.length_drop] at h
  unfold alB
  omega
theorem car_eq (t u : List Nat) (i : Nat) : Ue15.carried t u i = if i ≤ Ue15.common t u then i else if t.length - alB t u ≤ i then i + u.length - t.length else Ue15.common t u := rfl
theorem k_Carrier_carried (G : Gs K mg C) : C8.Met P w K mg base 1 C.car "carried" (sp_Carrier_carried C) [] := by
  refine met_of G.k_Carrier G.d_Carrier_carried sc_Carrier_carried (fun _ _ _ _ _ _ us hl => match us, hl with | [_, _], _ => rfl) (fun vs H Q E h => ?_) (fun f cdv A outer s H vs Q E hr h => ?_)
  · obtain ⟨x, i, t, u, rfl, _⟩ := h; rfl
  · obtain ⟨x, i, t, u, rfl, ⟨dx, hx⟩, hi, hQ⟩ := h
    refine ⟨_, (pss_cons (ps_set (i := 2) sc_Carrier_carried.nd rfl (Or.inl rfl) (pe_op op_sub (pe_fld (pv 0) rfl) (pv 1))) (pss_cons (ps_if (pt_cmpR op_le (pv 1) (pe_fld (pv 0) rfl) (nomark _)) (pss_one (ps_ret (pv 1))) pss_nil) (pss_cons (ps_if (pt_cmpR op_le (pv 2) (pe_fld (pv 0) rfl) (nomark _)) (pss_one (ps_ret (pe_op op_sub (pe_fld (pv 0) rfl) (pv 2)))) pss_nil) (pss_one (ps_ret (pe_fld (pv 0) rfl)))))), ?_⟩
    have fb := alB_le t u
    have f1 : ix? "ahead" nCar = some 0 := by decide +kernel
    have f2 : ix? "behind" nCar = some 1 := by decide +kernel
    have f3 : ix? "old_length" nCar = some 2 := by decide +kernel
    have f4 : ix? "new_length" nCar = some 3 := by decide +kernel
    refine ⟨_, rfl, x, C.car, dx, _, _, rfl, hx, G.k_Carrier, G.n_Carrier_old_length, lk_zip f3 rfl, _, rfl, _, _, rfl, rfl, ?_⟩
    refine ⟨_, rfl, _, rfl, x, C.car, dx, _, _, rfl, hx, G.k_Carrier, G.n_Carrier_ahead, lk_zip f1 rfl, _, _, rfl, rfl, _, rfl, dI (fun h1 => ?_) fun h1 => ?_⟩
    · refine ⟨_, rfl, ?_⟩
      rw [car_eq, if_pos (by omega)] at hQ
      exact hQ
    refine ⟨_, rfl, _, rfl, x, C.car, dx, _, _, rfl, hx, G.k_Carrier, G.n_Carrier_behind, lk_zip f2 rfl, _, _, rfl, rfl, _, rfl, dI (fun h2 => ?_) fun h2 => ?_⟩
    · refine ⟨_, rfl, x, C.car, dx, _, _, rfl, hx, G.k_Carrier, G.n_Carrier_new_length, lk_zip f4 rfl, _, rfl, _, _, rfl, rfl, ?_⟩
      rw [car_eq, if_neg (by omega), if_pos (by omega)] at hQ
      have e : ((u.length : Nat) : Int) - (((t.length : Nat) : Int) - (i : Int)) = ((i + u.length - t.length : Nat) : Int) := by omega
      show Q (.int (((u.length : Nat) : Int) - (((t.length : Nat) : Int) - (i : Int)))) H
      rw [e]
      exact hQ
    refine ⟨_, rfl, x, C.car, dx, _, _, rfl, hx, G.k_Carrier, G.n_Carrier_ahead, lk_zip f1 rfl, ?_⟩
    rw [car_eq, if_neg (by omega), if_neg (by omega)] at hQ
    exact hQ
end
end Ke
end
section
set_option maxHeartbeats 4500000
namespace Ke
open PySem PySem.Spec L2 LamX PyProof.Rows
open Ue15 (Sel Told)
/-! ### what stands apart from M -/
def vis (M : List Addr) (H : Hp) : Hp := fun b => if b ∈ M then none else H b
theorem vis_of {M : List Addr} {H : Hp} {b : Addr} {o : HO} (h : vis M H b = some o) : H b = some o ∧ b ∉ M := by
  unfold vis at h
  by_cases m : b ∈ M
  · rw [if_pos m] at h
    cases h
  · rw [if_neg m] at h
    exact ⟨h, m⟩
theorem vis_sub (M : List Addr) (H : Hp) : Same (vis M H) H := fun b o h => (vis_of h).1
theorem vis_in {M : List Addr} {H : Hp} {b : Addr} {o : HO} (h : H b = some o) (m : b ∉ M) : vis M H b = some o := by
  unfold vis
  rw [if_neg m]
  exact h
theorem vis_ext {M : List Addr} {H H2 : Hp} (e : ExtN H H2) : ExtN (vis M H) (vis M H2) := fun b o h n => vis_in (e _ _ (vis_of h).1 n) (vis_of h).2
theorem vis_same {M : List Addr} {H H2 : Hp} (e : Same H H2) : Same (vis M H) (vis M H2) := fun b o h => vis_in (e _ _ (vis_of h).1) (vis_of h).2
/-! ### a selection, a list of them, the object Selections -/
def nSel : List Str := ["anchor", "hand"]
def nSels : List Str := ["each", "main"]
def SelAt (C : Ca) (H : Hp) (a : Addr) (s : Sel) : Prop := ∃ dx, H a = some (.ins C.sel dx (nSel.zip [.int (s.anchor : Nat), .int (s.hand : Nat)]))
def SelsL (C : Ca) (H : Hp) (q : Addr) (l : List Sel) : Prop := ∃ as : List Addr, H q = some (.lst (as.map V.ref)) ∧ Paired (SelAt C H) as l
def told (s : List Sel) (m : Nat) : List Told := s.zipIdx.map fun x => (x.1, x.2 == m)
def SelsAt (C : Ca) (H : Hp) (p : Addr) (l : List Told) : Prop := ∃ (s : List Sel) (m : Nat) (dx q : Addr), H p = some (.ins C.sels dx (nSels.zip [.ref q, .int (m : Nat)])) ∧ SelsL C H q s ∧ l = told s m ∧ m < s.length
section
variable {C : Ca} {H H2 : Hp}
theorem SelAt.ext {a : Addr} {s : Sel} (h : SelAt C H a s) (e : ExtN H H2) : SelAt C H2 a s := by
  obtain ⟨dx, h⟩ := h
  exact ⟨dx, e _ _ h (fun ps z => by cases z)⟩
theorem SelsL.ext {q : Addr} {l : List Sel} (h : SelsL C H q l) (e : ExtN H H2) : SelsL C H2 q l := by
  obtain ⟨as, h1, h2⟩ := h
  exact ⟨as, e _ _ h1 (fun ps z => by cases z), pr_mono (fun _ _ z => z.ext e) h2⟩
theorem SelsAt.ext {p : Addr} {l : List Told} (h : SelsAt C H p l) (e : ExtN H H2) : SelsAt C H2 p l := by
  obtain ⟨s, m, dx, q, h1, h2, h3, h4⟩ := h
  exact ⟨s, m, dx, q, e _ _ h1 (fun ps z => by cases z), h2.ext e, h3, h4⟩
theorem TxtAt.ext {p : Addr} {t : List Nat} (h : TxtAt H p t) (e : ExtN H H2) : TxtAt H2 p t := e _ _ h (fun ps z => by cases z)
theorem SelAt.same {a : Addr} {s : Sel} (h : SelAt C H a s) (e : Same H H2) : SelAt C H2 a s := h.ext (ExtN.of e)
theorem SelsL.same {q : Addr} {l : List Sel} (h : SelsL C H q l) (e : Same H H2) : SelsL C H2 q l := h.ext (ExtN.of e)
theorem SelsAt.same {p : Addr} {l : List Told} (h : SelsAt C H p l) (e : Same H H2) : SelsAt C H2 p l := h.ext (ExtN.of e)
end
theorem fa_anchor : ix? "anchor" nSel = some 0 := by decide +kernel
theorem fa_hand : ix? "hand" nSel = some 1 := by decide +kernel
theorem fa_each : ix? "each" nSels = some 0 := by decide +kernel
theorem fa_main : ix? "main" nSels = some 1 := by decide +kernel
theorem no_begin : ix? "begin" nSel = none := by decide +kernel
theorem no_end : ix? "end" nSel = none := by decide +kernel
theorem no_caret : ix? "is_caret" nSel = none := by decide +kernel
theorem no_looks : ix? "looks_left" nSel = none := by decide +kernel
theorem no_main_one : ix? "main_one" nSels = none := by decide +kernel
section
variable {P : Program} {w : World} {K : PySem.W.Frag} {mg : Str → Option Value} {base : Heap} {C : Ca}
def sp_Selection_init (C : Ca) : Sp := fun vs H Q _ => ∃ (x dx : Addr) (i j : Nat), vs = [.ref x, .int i, .int j] ∧ H x = some (.ins C.sel dx []) ∧
  ∀ H2, SelAt C H2 x ⟨i, j⟩ → (∀ b o, H b = some o → b ≠ x → H2 b = some o) → Q .non H2
theorem k_Selection_init (G : Gs K mg C) : C8.Mak P w K mg base 1 "Selection" C.sel (sp_Selection_init C) [] := by
  refine mak_of G.d_Selection_init sc_Selection_init (fun _ _ _ _ _ _ us hl => match us, hl with | [_, _, _], _ => rfl) (fun vs H Q E h => ?_) (fun f cdv A outer s H vs Q E hr h => ?_)
  · obtain ⟨x, dx, i, j, rfl, _⟩ := h; rfl
  · obtain ⟨x, dx, i, j, rfl, hx, hQ⟩ := h
    refine ⟨_, (pss_cons (ps_fld (pv 0) (pv 1) rfl) (pss_one (ps_fld (pv 0) (pv 2) rfl))), ?_⟩
    refine ⟨_, rfl, _, rfl, x, C.sel, dx, _, rfl, hx, G.k_Selection, G.n_Selection_anchor, by show 0 < 1000; decide, ?_⟩
    refine ⟨_, rfl, _, rfl, x, C.sel, dx, _, rfl, upd_same, G.k_Selection, G.n_Selection_hand, by show 1 < 1000; decide, ?_⟩
    refine hQ _ ⟨dx, ?_⟩ fun b o e hb => ?_
    · rw [upd_same]
      rfl
    · rw [upd_ne hb, upd_ne hb]
      exact e
def sp_sel (C : Ca) (g : Sel → V) : Sp := fun vs H Q _ => ∃ (x : Addr) (s : Sel), vs = [.ref x] ∧ SelAt C H x s ∧ Q (g s) H
theorem min_lo (s : Sel) : (if ((s.hand : Nat) : Int) < ((s.anchor : Nat) : Int) then ((s.hand : Nat) : Int) else ((s.anchor : Nat) : Int)) = ((Ue15.lo s : Nat) : Int) := by
  unfold Ue15.lo
  split <;> omega
theorem max_hi (s : Sel) : (if ((s.hand : Nat) : Int) > ((s.anchor : Nat) : Int) then ((s.hand : Nat) : Int) else ((s.anchor : Nat) : Int)) = ((Ue15.hi s : Nat) : Int) := by
  unfold Ue15.hi
  split <;> omega
abbrev vLo (s : Sel) : V := .int (Ue15.lo s : Nat)
abbrev vHi (s : Sel) : V := .int (Ue15.hi s : Nat)
abbrev vCa (s : Sel) : V := .bl (Ue15.lo s == Ue15.hi s)
abbrev vLk (s : Sel) : V := .bl (decide (s.hand < s.anchor))
theorem k_Selection_begin (G : Gs K mg C) : C8.Met P w K mg base 1 C.sel "begin" (sp_sel C vLo) [] := by
  refine met_of G.k_Selection G.d_Selection_begin sc_Selection_begin (fun _ _ _ _ _ _ us hl => match us, hl with | [_], _ => rfl) (fun vs H Q E h => ?_) (fun f cdv A outer s H vs Q E hr h => ?_)
  · obtain ⟨x, s, rfl, _⟩ := h; rfl
  · obtain ⟨x, s, rfl, ⟨dx, hx⟩, hQ⟩ := h
    refine ⟨_, (pss_one (ps_ret (pe_callB (call_min2 rfl) (by rfl) G.b_min (by decide +kernel) (pa_cons (pe_fld (pv 0) rfl) (pa_cons (pe_fld (pv 0) rfl) pa_nil))))), ?_⟩
    refine ⟨_, rfl, x, C.sel, dx, _, _, rfl, hx, G.k_Selection, G.n_Selection_anchor, lk_zip fa_anchor rfl, _, rfl, x, C.sel, dx, _, _, rfl, hx, G.k_Selection, G.n_Selection_hand, lk_zip fa_hand rfl, _, _, rfl, ?_⟩
    rw [min_lo]
    exact hQ
theorem k_Selection_end (G : Gs K mg C) : C8.Met P w K mg base 1 C.sel "end" (sp_sel C vHi) [] := by
  refine met_of G.k_Selection G.d_Selection_end sc_Selection_end (fun _ _ _ _ _ _ us hl => match us, hl with | [_], _ => rfl) (fun vs H Q E h => ?_) (fun f cdv A outer s H vs Q E hr h => ?_)
  · obtain ⟨x, s, rfl, _⟩ := h; rfl
  · obtain ⟨x, s, rfl, ⟨dx, hx⟩, hQ⟩ := h
    refine ⟨_, (pss_one (ps_ret (pe_callB (call_max2 rfl) (by rfl) G.b_max (by decide +kernel) (pa_cons (pe_fld (pv 0) rfl) (pa_cons (pe_fld (pv 0) rfl) pa_nil))))), ?_⟩
    refine ⟨_, rfl, x, C.sel, dx, _, _, rfl, hx, G.k_Selection, G.n_Selection_anchor, lk_zip fa_anchor rfl, _, rfl, x, C.sel, dx, _, _, rfl, hx, G.k_Selection, G.n_Selection_hand, lk_zip fa_hand rfl, _, _, rfl, ?_⟩
    rw [max_hi]
    exact hQ
theorem ca_eq (s : Sel) : decide (V.int (s.anchor : Nat) = V.int (s.hand : Nat)) = (Ue15.lo s == Ue15.hi s) := by
  unfold Ue15.lo Ue15.hi
  by_cases h : s.anchor = s.hand
  · rw [h]
    simp
  · rw [decide_eq_false fun z => h (int_eq z)]
    have : ¬ min s.anchor s.hand = max s.anchor s.hand := by omega
    exact (beq_eq_false_iff_ne.mpr this).symm
theorem k_Selection_is_caret (G : Gs K mg C) : C8.Met P w K mg base 1 C.sel "is_caret" (sp_sel C vCa) [] := by
  refine met_of G.k_Selection G.d_Selection_is_caret sc_Selection_is_caret (fun _ _ _ _ _ _ us hl => match us, hl with | [_], _ => rfl) (fun vs H Q E h => ?_) (fun f cdv A outer s H vs Q E hr h => ?_)
  · obtain ⟨x, s, rfl, _⟩ := h; rfl
  · obtain ⟨x, s, rfl, ⟨dx, hx⟩, hQ⟩ := h
    refine ⟨_, (pss_one (ps_ret (pe_cmpR op_eq (pe_fld (pv 0) rfl) (pe_fld (pv 0) rfl) (nomark _)))), ?_⟩
    refine ⟨_, rfl, x, C.sel, dx, _, _, rfl, hx, G.k_Selection, G.n_Selection_anchor, lk_zip fa_anchor rfl, _, rfl, x, C.sel, dx, _, _, rfl, hx, G.k_Selection, G.n_Selection_hand, lk_zip fa_hand rfl, rfl, ?_⟩
    rw [ca_eq]
    exact hQ
theorem k_Selection_looks_left (G : Gs K mg C) : C8.Met P w K mg base 1 C.sel "looks_left" (sp_sel C vLk) [] := by
  refine met_of G.k_Selection G.d_Selection_looks_left sc_Selection_looks_left (fun _ _ _ _ _ _ us hl => match us, hl with | [_], _ => rfl) (fun vs H Q E h => ?_) (fun f cdv A outer s H vs Q E hr h => ?_)
  · obtain ⟨x, s, rfl, _⟩ := h; rfl
  · obtain ⟨x, s, rfl, ⟨dx, hx⟩, hQ⟩ := h
    refine ⟨_, (pss_one (ps_ret (pe_cmpR op_lt (pe_fld (pv 0) rfl) (pe_fld (pv 0) rfl) (nomark _)))), ?_⟩
    refine ⟨_, rfl, x, C.sel, dx, _, _, rfl, hx, G.k_Selection, G.n_Selection_hand, lk_zip fa_hand rfl, _, rfl, x, C.sel, dx, _, _, rfl, hx, G.k_Selection, G.n_Selection_anchor, lk_zip fa_anchor rfl, _, _, rfl, rfl, ?_⟩
    have e : decide (((s.hand : Nat) : Int) < ((s.anchor : Nat) : Int)) = decide (s.hand < s.anchor) := decide_eq_decide.mpr (by omega)
    show Q (.bl (decide (((s.hand : Nat) : Int) < ((s.anchor : Nat) : Int)))) H
    rw [e]
    exact hQ
def sp_Selections_init (C : Ca) : Sp := fun vs H Q _ => ∃ (x dx q : Addr) (m : Nat), vs = [.ref x, .ref q, .int m] ∧ H x = some (.ins C.sels dx []) ∧
  ∀ H2, H2 x = some (.ins C.sels dx (nSels.zip [.ref q, .int (m : Nat)])) → (∀ b o, H b = some o → b ≠ x → H2 b = some o) → Q .non H2
theorem k_Selections_init (G : Gs K mg C) : C8.Mak P w K mg base 1 "Selections" C.sels (sp_Selections_init C) [] := by
  refine mak_of G.d_Selections_init sc_Selections_init (fun _ _ _ _ _ _ us hl => match us, hl with | [_, _, _], _ => rfl) (fun vs H Q E h => ?_) (fun f cdv A outer s H vs Q E hr h => ?_)
  · obtain ⟨x, dx, q, m, rfl, _⟩ := h; rfl
  · obtain ⟨x, dx, q, m, rfl, hx, hQ⟩ := h
    refine ⟨_, (pss_cons (ps_fld (pv 0) (pv 1) rfl) (pss_one (ps_fld (pv 0) (pv 2) rfl))), ?_⟩
    refine ⟨_, rfl, _, rfl, x, C.sels, dx, _, rfl, hx, G.k_Selections, G.n_Selections_each, by show 0 < 1000; decide, ?_⟩
    refine ⟨_, rfl, _, rfl, x, C.sels, dx, _, rfl, upd_same, G.k_Selections, G.n_Selections_main, by show 1 < 1000; decide, ?_⟩
    refine hQ _ ?_ fun b o e hb => ?_
    · rw [upd_same]
      rfl
    · rw [upd_ne hb, upd_ne hb]
      exact e
def sp_Selections_main_one (C : Ca) : Sp := fun vs H Q _ => ∃ (x dx q : Addr) (m : Nat) (as : List Addr) (a : Addr), vs = [.ref x] ∧ H x = some (.ins C.sels dx (nSels.zip [.ref q, .int (m : Nat)])) ∧ H q = some (.lst (as.map V.ref)) ∧ as[m]? = some a ∧ Q (.ref a) H
theorem k_Selections_main_one (G : Gs K mg C) : C8.Met P w K mg base 1 C.sels "main_one" (sp_Selections_main_one C) [] := by
  refine met_of G.k_Selections G.d_Selections_main_one sc_Selections_main_one (fun _ _ _ _ _ _ us hl => match us, hl with | [_], _ => rfl) (fun vs H Q E h => ?_) (fun f cdv A outer s H vs Q E hr h => ?_)
  · obtain ⟨x, dx, q, m, as, a, rfl, _⟩ := h; rfl
  · obtain ⟨x, dx, q, m, as, a, rfl, hx, hq, ha, hQ⟩ := h
    refine ⟨_, (pss_one (ps_ret (pe_ix ix_list (pe_fld (pv 0) rfl) (pe_fld (pv 0) rfl) (fun _ _ => rfl)))), ?_⟩
    refine ⟨_, rfl, x, C.sels, dx, _, _, rfl, hx, G.k_Selections, G.n_Selections_each, lk_zip fa_each rfl, _, rfl, x, C.sels, dx, _, _, rfl, hx, G.k_Selections, G.n_Selections_main, lk_zip fa_main rfl, q, _, _, _, rfl, rfl, SqL.of hq, ?_, hQ⟩
    exact atI_nat (by rw [List.getElem?_map, ha]; rfl)
def sp_caret (C : Ca) : Sp := fun vs H Q _ => ∃ i : Nat, vs = [.int i] ∧ ∀ H2 x, Same H H2 → H x = none → SelAt C H2 x ⟨i, i⟩ → Q (.ref x) H2
theorem k_caret (G : Gs K mg C) : C8.Cal P w K mg base 3 "caret" (sp_caret C) [] := by
  have K_Selection_init := k_Selection_init (P := P) (w := w) (base := base) G
  refine cal_of G.d_caret sc_caret (fun _ _ _ _ _ _ us hl => match us, hl with | [_], _ => rfl) (fun vs H Q E h => ?_) (fun f cdv A outer s H vs Q E hr h => ?_)
  · obtain ⟨i, rfl, _⟩ := h; rfl
  · obtain ⟨i, rfl, hQ⟩ := h
    refine ⟨_, (pss_one (ps_ret (C8.pe_mk K_Selection_init hr (by decide) rfl (pa_cons (pv 0) (pa_cons (pv 0) pa_nil))))), ?_⟩
    refine ⟨_, rfl, _, rfl, fun x dx nx nd ne => ⟨x, dx, i, i, rfl, upd_same, fun H2 h1 h2 => ⟨rfl, hQ _ _ (Same.made nx nd h2) nx h1⟩⟩⟩
def sp_spanning (C : Ca) : Sp := fun vs H Q _ => ∃ (i j : Nat) (b : Bool), vs = [.int i, .int j, .bl b] ∧ ∀ H2 x, Same H H2 → H x = none → SelAt C H2 x (if b then ⟨j, i⟩ else ⟨i, j⟩) → Q (.ref x) H2
theorem k_spanning (G : Gs K mg C) : C8.Cal P w K mg base 3 "spanning" (sp_spanning C) [] := by
  have K_Selection_init := k_Selection_init (P := P) (w := w) (base := base) G
  refine cal_of G.d_spanning sc_spanning (fun _ _ _ _ _ _ us hl => match us, hl with | [_, _, _], _ => rfl) (fun vs H Q E h => ?_) (fun f cdv A outer s H vs Q E hr h => ?_)
  · obtain ⟨i, j, b, rfl, _⟩ := h; rfl
  · obtain ⟨i, j, b, rfl, hQ⟩ := h
    refine ⟨_, (pss_cons (ps_if (pt_truth (pv 2) (by intro _; rfl)) (pss_one (ps_ret (C8.pe_mk K_Selection_init hr (by decide) rfl (pa_cons (pv 1) (pa_cons (pv 0) pa_nil))))) pss_nil) (pss_one (ps_ret (C8.pe_mk K_Selection_init hr (by decide) rfl (pa_cons (pv 0) (pa_cons (pv 1) pa_nil)))))), ?_⟩
    cases b with
    | true => exact ⟨_, rfl, _, rfl, iteT ⟨_, rfl, _, rfl, fun x dx nx nd ne => ⟨x, dx, j, i, rfl, upd_same, fun H2 h1 h2 => ⟨rfl, hQ _ _ (Same.made nx nd h2) nx h1⟩⟩⟩⟩
    | false => exact ⟨_, rfl, _, rfl, iteF ⟨_, rfl, _, rfl, fun x dx nx nd ne => ⟨x, dx, i, j, rfl, upd_same, fun H2 h1 h2 => ⟨rfl, hQ _ _ (Same.made nx nd h2) nx h1⟩⟩⟩⟩
def sp_touches (C : Ca) : Sp := fun vs H Q _ => ∃ (x y : Addr) (s t : Sel), vs = [.ref x, .ref y] ∧ SelAt C H x s ∧ SelAt C H y t ∧ Q (.bl (Ue15.touch s t)) H
theorem to_1 {s t : Sel} (h : ((Ue15.lo t : Nat) : Int) < ((Ue15.hi s : Nat) : Int)) : Ue15.touch s t = true := by
  unfold Ue15.touch
  rw [(decide_eq_true (by omega))]
  rfl
theorem to_2 {s t : Sel} (h : ¬ ((Ue15.lo t : Nat) : Int) < ((Ue15.hi s : Nat) : Int)) : Ue15.touch s t = (Ue15.lo t == Ue15.hi s && (Ue15.lo s == Ue15.hi s || Ue15.lo t == Ue15.hi t)) := by
  unfold Ue15.touch
  rw [(decide_eq_false (by omega))]
  rfl
theorem k_touches (G : Gs K mg C) : C8.Cal P w K mg base 2 "touches" (sp_touches C) [] := by
  have K_Selection_begin := k_Selection_begin (P := P) (w := w) (base := base) G
  have K_Selection_end := k_Selection_end (P := P) (w := w) (base := base) G
  have K_Selection_is_caret := k_Selection_is_caret (P := P) (w := w) (base := base) G
  refine cal_of G.d_touches sc_touches (fun _ _ _ _ _ _ us hl => match us, hl with | [_, _], _ => rfl) (fun vs H Q E h => ?_) (fun f cdv A outer s H vs Q E hr h => ?_)
  · obtain ⟨x, y, s, t, rfl, _⟩ := h; rfl
  · obtain ⟨x, y, s, t, rfl, hx, hy, hQ⟩ := h
    refine ⟨_, (pss_cons (ps_if (pt_cmpR op_lt (C8.pe_mt0 K_Selection_begin hr (by decide) (pv 1)) (C8.pe_mt0 K_Selection_end hr (by decide) (pv 0)) (nomark _)) (pss_one (ps_ret pe_bl)) pss_nil) (pss_one (ps_ret (pe_and (pe_cmpR op_eq (C8.pe_mt0 K_Selection_begin hr (by decide) (pv 1)) (C8.pe_mt0 K_Selection_end hr (by decide) (pv 0)) (nomark _)) (pe_one (pe_or (C8.pe_mt0 K_Selection_is_caret hr (by decide) (pv 0)) (pe_one (C8.pe_mt0 K_Selection_is_caret hr (by decide) (pv 1))))))))), ?_⟩
    obtain ⟨dx, hx2⟩ := id hx
    obtain ⟨dy, hy2⟩ := id hy
    refine ⟨_, rfl, y, dy, _, rfl, hy2, lk_no no_begin, y, t, rfl, hy, _, rfl, x, dx, _, rfl, hx2, lk_no no_end, x, s, rfl, hx, _, _, rfl, rfl, _, rfl, dI (fun h1 => ?_) fun h1 => ?_⟩
    · rw [to_1 h1] at hQ
      exact hQ
    rw [to_2 h1] at hQ
    refine ⟨_, rfl, y, dy, _, rfl, hy2, lk_no no_begin, y, t, rfl, hy, _, rfl, x, dx, _, rfl, hx2, lk_no no_end, x, s, rfl, hx, rfl, _, rfl, dI (fun h2 => ?_) fun h2 => ?_⟩
    · have e : (Ue15.lo t == Ue15.hi s) = true := beq_iff_eq.mpr (int_eq h2)
      rw [e] at hQ
      refine ⟨_, rfl, x, dx, _, rfl, hx2, lk_no no_caret, x, s, rfl, hx, _, rfl, bI (fun h3 => ?_) fun h3 => ?_⟩
      · rw [h3] at hQ
        exact hQ
      · rw [h3] at hQ
        exact ⟨_, rfl, y, dy, _, rfl, hy2, lk_no no_caret, y, t, rfl, hy, hQ⟩
    · have e : (Ue15.lo t == Ue15.hi s) = false := beq_eq_false_iff_ne.mpr (int_ne h2)
      rw [e] at hQ
      exact hQ
def spanV (b : Bool) (i j : Nat) : Sel := if b then ⟨j, i⟩ else ⟨i, j⟩
def sp_made_one (C : Ca) : Sp := fun vs H Q _ => ∃ (x y : Addr) (s t : Sel) (b : Bool), vs = [.ref x, .ref y, .bl b] ∧ SelAt C H x s ∧ SelAt C H y t ∧ ∀ H2 z, Same H H2 → H z = none → SelAt C H2 z (Ue15.facing (if b then t else s) (Ue15.lo s) (max (Ue15.hi s) (Ue15.hi t))) → Q (.ref z) H2
theorem face_eq (s : Sel) (i j : Nat) : Ue15.facing s i j = if decide (s.hand < s.anchor) then ⟨j, i⟩ else ⟨i, j⟩ := by
  unfold Ue15.facing
  by_cases h : s.hand < s.anchor
  · rw [if_pos h, if_pos (decide_eq_true h)]
  · rw [if_neg h, if_neg (by simpa using h)]
theorem k_made_one (G : Gs K mg C) : C8.Cal P w K mg base 4 "made_one" (sp_made_one C) [] := by
  have K_Selection_begin := k_Selection_begin (P := P) (w := w) (base := base) G
  have K_Selection_end := k_Selection_end (P := P) (w := w) (base := base) G
  have K_Selection_looks_left := k_Selection_looks_left (P := P) (w := w) (base := base) G
  have K_spanning := k_spanning (P := P) (w := w) (base := base) G
  refine cal_of G.d_made_one sc_made_one (fun _ _ _ _ _ _ us hl => match us, hl with | [_, _, _], _ => rfl) (fun vs H Q E h => ?_) (fun f cdv A outer s H vs Q E hr h => ?_)
  · obtain ⟨x, y, s, t, b, rfl, _⟩ := h; rfl
  · obtain ⟨x, y, s, t, b, rfl, hx, hy, hQ⟩ := h
    refine ⟨_, (pss_cons (ps_set (i := 3) sc_made_one.nd rfl (Or.inl rfl) (pe_ifExp (pt_val (pv 2)) (pv 1) (pv 0))) (pss_one (ps_ret (C8.pe_c K_spanning hr (by decide) rfl (pa_cons (C8.pe_mt0 K_Selection_begin hr (by decide) (pv 0)) (pa_cons (pe_callB (call_max2 rfl) (by rfl) G.b_max (by decide +kernel) (pa_cons (C8.pe_mt0 K_Selection_end hr (by decide) (pv 0)) (pa_cons (C8.pe_mt0 K_Selection_end hr (by decide) (pv 1)) pa_nil))) (pa_cons (C8.pe_mt0 K_Selection_looks_left hr (by decide) (pv 3)) pa_nil))))))), ?_⟩
    obtain ⟨dx, hx2⟩ := id hx
    obtain ⟨dy, hy2⟩ := id hy
    have em : (if ((Ue15.hi t : Nat) : Int) > ((Ue15.hi s : Nat) : Int) then ((Ue15.hi t : Nat) : Int) else ((Ue15.hi s : Nat) : Int)) = ((max (Ue15.hi s) (Ue15.hi t) : Nat) : Int) := by
      split <;> omega
    refine ⟨_, rfl, _, rfl, ?_⟩
    cases b with
    | true =>
      refine iteT ⟨_, rfl, ?_⟩
      refine ⟨_, rfl, x, dx, _, rfl, hx2, lk_no no_begin, x, s, rfl, hx, _, rfl, x, dx, _, rfl, hx2, lk_no no_end, x, s, rfl, hx, _, rfl, y, dy, _, rfl, hy2, lk_no no_end, y, t, rfl, hy, _, _, rfl, _, rfl, y, dy, _, rfl, hy2, lk_no no_looks, y, t, rfl, hy, ?_⟩
      rw [em]
      exact ⟨_, _, _, rfl, fun H2 z s2 nz hz => hQ H2 z s2 nz (by rw [face_eq]; exact hz)⟩
    | false =>
      refine iteF ⟨_, rfl, ?_⟩
      refine ⟨_, rfl, x, dx, _, rfl, hx2, lk_no no_begin, x, s, rfl, hx, _, rfl, x, dx, _, rfl, hx2, lk_no no_end, x, s, rfl, hx, _, rfl, y, dy, _, rfl, hy2, lk_no no_end, y, t, rfl, hy, _, _, rfl, _, rfl, x, dx, _, rfl, hx2, lk_no no_looks, x, s, rfl, hx, ?_⟩
      rw [em]
      exact ⟨_, _, _, rfl, fun H2 z s2 nz hz => hQ H2 z s2 nz (by rw [face_eq]; exact hz)⟩
end
end Ke
end
section
set_option maxHeartbeats 4500000
namespace Ke
open SrtO
open Ue15 (Sel Told)
/-! ### tidying: the order -/
def kT (x : Told) : Int × Int := ((Ue15.lo x.1 : Nat), (Ue15.hi x.1 : Nat))
def ltT (x y : Told) : Bool := lexB (kT x) (kT y)
theorem swoT : Swo ltT := KeSort.swo_by kT
theorem ltT_iff {x y : Told} : ltT x y = true ↔ Ue15.lo x.1 < Ue15.lo y.1 ∨ (Ue15.lo x.1 = Ue15.lo y.1 ∧ Ue15.hi x.1 < Ue15.hi y.1) := by
  unfold ltT kT
  rw [lexB_iff]
  omega
theorem ltT_no {x y : Told} : ltT x y = false ↔ ¬ (Ue15.lo x.1 < Ue15.lo y.1 ∨ (Ue15.lo x.1 = Ue15.lo y.1 ∧ Ue15.hi x.1 < Ue15.hi y.1)) := by
  rw [← ltT_iff]
  cases ltT x y <;> simp
theorem ins_stb (x : Told) : ∀ l : List Told, Stb ltT (Ue15.insertBy x l) (x :: l)
  | [] => Stb.refl _
  | y :: l => by
    show Stb ltT (if Ue15.lo x.1 < Ue15.lo y.1 ∨ (Ue15.lo x.1 = Ue15.lo y.1 ∧ Ue15.hi x.1 ≤ Ue15.hi y.1) then x :: y :: l else y :: Ue15.insertBy x l) (x :: y :: l)
    split
    · exact Stb.refl _
    · rename_i h
      have h1 : ltT y x = true := ltT_iff.mpr (by omega)
      have a : Stb ltT ([y] ++ Ue15.insertBy x l) ([y] ++ (x :: l)) := (Stb.refl [y]).app (ins_stb x l)
      have b : Stb ltT (([y] ++ [x]) ++ l) (([x] ++ [y]) ++ l) := (Stb.swap swoT (A := [y]) (B := [x]) (fun p hp q hq => by
        rw [List.mem_singleton.mp hp, List.mem_singleton.mp hq]
        exact h1)).app (Stb.refl l)
      exact a.trans b
theorem ins_mem {x z : Told} {l : List Told} (h : z ∈ Ue15.insertBy x l) : z = x ∨ z ∈ l := List.mem_cons.mp ((ins_stb x l).perm.mem_iff.mp h)
theorem ins_srt (x : Told) : ∀ l : List Told, Srtd ltT l → Srtd ltT (Ue15.insertBy x l)
  | [], _ => (List.pairwise_singleton _ _)
  | y :: l, h => by
    obtain ⟨h1, h2⟩ := (List.pairwise_cons.mp h)
    show Srtd ltT (if Ue15.lo x.1 < Ue15.lo y.1 ∨ (Ue15.lo x.1 = Ue15.lo y.1 ∧ Ue15.hi x.1 ≤ Ue15.hi y.1) then x :: y :: l else y :: Ue15.insertBy x l)
    split
    · rename_i c
      refine (List.pairwise_cons.mpr ⟨fun z hz => ?_, h⟩)
      have hyx : ltT y x = false := ltT_no.mpr (by omega)
      rcases (List.mem_cons.mp hz) with e | hz
      · rw [e]
        exact hyx
      · exact swoT.tr x y z hyx (h1 z hz)
    · rename_i c
      refine List.pairwise_cons.mpr ⟨fun z hz => ?_, ins_srt x l h2⟩
      rcases ins_mem hz with e | hz
      · rw [e]
        exact ltT_no.mpr (by omega)
      · exact h1 z hz
theorem fold_srt : ∀ l : List Told, Srtd ltT (l.foldr Ue15.insertBy []) ∧ Stb ltT (l.foldr Ue15.insertBy []) l
  | [] => ⟨List.Pairwise.nil, Stb.refl _⟩
  | x :: l => by
    obtain ⟨h1, h2⟩ := fold_srt l
    refine ⟨ins_srt x _ h1, (ins_stb x _).trans ?_⟩
    exact (Stb.refl [x]).app h2
/-- what sorted gives is the specification's own order -/
theorem order_is {T : List Told} {d : Told} {out : List Nat} (h1 : Srtd (KeSort.ltk fun i => kT (T.getD i d)) out) (h2 : Stb (KeSort.ltk fun i => kT (T.getD i d)) out (List.range T.length)) : out.map (fun i => T.getD i d) = T.foldr Ue15.insertBy [] := by
  obtain ⟨f1, f2⟩ := fold_srt T
  have e : (List.range T.length).map (fun i => T.getD i d) = T := by
    apply List.ext_getElem
    · simp
    · intro i a b
      simp [List.getD]
      rw [List.getElem?_eq_getElem b]
      rfl
  have s1 : Srtd ltT (out.map fun i => T.getD i d) := srtd_map (f := fun i => T.getD i d) h1
  have s2 : Stb ltT (out.map fun i => T.getD i d) ((List.range T.length).map fun i => T.getD i d) := Stb.map swoT (fun i => T.getD i d) h2
  rw [e] at s2
  exact stb_uniq swoT s1 f1 (s2.trans ⟨f2.perm.symm, fun x => (f2.cls x).symm⟩)
/-! ### tidying: made one -/
def mstep (acc : List Told) (y : Told) : List Told := match acc.getLast? with
  | none => [y]
  | some x => if Ue15.touch x.1 y.1 = true then acc.dropLast ++ [Ue15.joined x y] else acc ++ [y]
theorem mstep_nil (y : Told) : mstep [] y = [y] := rfl
theorem mstep_app (acc : List Told) (x y : Told) : mstep (acc ++ [x]) y = if Ue15.touch x.1 y.1 = true then acc ++ [Ue15.joined x y] else acc ++ [x] ++ [y] := by
  unfold mstep
  rw [List.getLast?_concat, List.dropLast_concat]
theorem merge_fold : ∀ (l : List Told) (acc : List Told) (x : Told), l.foldl mstep (acc ++ [x]) = acc ++ Ue15.mergeFrom x l
  | [], acc, x => rfl
  | y :: l, acc, x => by
    show l.foldl mstep (mstep (acc ++ [x]) y) = acc ++ (if Ue15.touch x.1 y.1 = true then Ue15.mergeFrom (Ue15.joined x y) l else x :: Ue15.mergeFrom y l)
    rw [mstep_app]
    split
    · rw [merge_fold l]
    · rw [merge_fold l, List.append_assoc]
      rfl
theorem tidy_fold (T : List Told) : Ue15.tidy T = (T.foldr Ue15.insertBy []).foldl mstep [] := by
  unfold Ue15.tidy
  cases T.foldr Ue15.insertBy [] with
  | nil => rfl
  | cons x l => exact (merge_fold l [] x).symm
/-! ### the main one, told by its place -/
def toldO (s : List Sel) (o : Option Nat) : List Told := s.zipIdx.map fun x => (x.1, decide (some x.2 = o))
theorem toldO_len (s : List Sel) (o : Option Nat) : (toldO s o).length = s.length := by simp [toldO]
theorem told_len (s : List Sel) (m : Nat) : (told s m).length = s.length := by simp [told]
theorem told_some (s : List Sel) (m : Nat) : told s m = toldO s (some m) := by
  unfold told toldO
  apply List.map_congr_left
  intro x _
  congr 1
  by_cases h : x.2 = m
  · rw [h]
    simp
  · rw [beq_eq_false_iff_ne.mpr h, decide_eq_false (by simpa using h)]
theorem toldO_app (s : List Sel) (y : Sel) (o : Option Nat) : toldO (s ++ [y]) o = toldO s o ++ [(y, decide (some s.length = o))] := by
  unfold toldO
  rw [List.zipIdx_append, List.map_append]
  simp
theorem told_get {s : List Sel} {m i : Nat} {d : Told} {x : Sel} (h : s[i]? = some x) : (told s m).getD i d = (x, i == m) := by
  unfold told
  rw [List.getD_eq_getElem?_getD, List.getElem?_map, List.getElem?_zipIdx, h]
  simp
/-- other places of main beyond the end change nothing -/
theorem toldO_beyond {s : List Sel} {n : Nat} (h : s.length ≤ n) : toldO s (some n) = toldO s none := by
  unfold toldO
  apply List.map_congr_left
  intro x hx
  have hlt : x.2 < s.length := by
    have := List.snd_lt_of_mem_zipIdx hx
    omega
  congr 1
  rw [decide_eq_false (by simp; omega), decide_eq_false (by simp)]
theorem last_of {α : Type} {l : List α} (h : l ≠ []) : ∃ (a : List α) (x : α), l = a ++ [x] := ⟨l.dropLast, l.getLast h, (List.dropLast_concat_getLast h).symm⟩
end Ke
end
section
set_option maxHeartbeats 4500000
namespace Ke
open PySem PySem.Spec L2 LamX PyProof.Rows
open Ue15 (Sel Told)
def tq : Str := ("tidied" : Str) ++ ".<locals>." ++ "<lambda>"
def Tb (C : Ca) (H : Hp) : Prop := Tabs [(C.tP, tq)] H
def MOk (C : Ca) (M : List Addr) (H : Hp) : Prop := ∀ a ∈ M, a = C.tP ∨ ∃ o, H a = some o ∧ ∀ ps, o ≠ .tbl ps
theorem Tb.at_ {C : Ca} {H : Hp} (t : Tb C H) : ∃ ps, H C.tP = some (.tbl ps) := by
  obtain ⟨ps, h, _⟩ := t (C.tP, tq) (List.mem_singleton.mpr rfl)
  exact ⟨ps, h⟩
theorem Tb.same {C : Ca} {H H2 : Hp} (t : Tb C H) (s : Same H H2) : Tb C H2 := Tabs.ext t s
theorem fresh_M {C : Ca} {M : List Addr} {H H2 : Hp} {x : Addr} (mo : MOk C M H) (e : ExtN H H2) (t : Tb C H2) (n : H2 x = none) : x ∉ M := fun hx => by
  rcases mo x hx with z | ⟨o, h1, h2⟩
  · obtain ⟨ps, h⟩ := t.at_
    rw [← z, n] at h
    cases h
  · rw [e x o h1 h2] at n
    cases n
theorem ext_put {H H2 : Hp} {x : Addr} {o : HO} (e : ExtN H H2) (n : H x = none) : ExtN H (upd H2 x o) := fun b u h k => by
  rw [upd_ne (ne_of_none h n)]
  exact e b u h k
theorem tb_put {C : Ca} {H : Hp} {x : Addr} {o : HO} (t : Tb C H) (n : ∃ xs, H x = some (.lst xs)) : Tb C (upd H x o) := by
  obtain ⟨xs, n⟩ := n
  intro p hp
  obtain ⟨ps, h1, h2, h3⟩ := t p hp
  refine ⟨ps, by rw [upd_ne (ne_of h1 n (by intro z; cases z))]; exact h1, h2, fun pos cv hc => ?_⟩
  obtain ⟨c, e1, e2⟩ := (h3 pos cv hc)
  exact ⟨c, e1, by rw [upd_ne (ne_of e2 n (by intro z; unfold CodeO at z; cases z))]; exact e2⟩
theorem sel_put {C : Ca} {M : List Addr} {H : Hp} {x a : Addr} {o : HO} {s : Sel} (n : ∃ xs, H x = some (.lst xs)) (h : SelAt C (vis M H) a s) : SelAt C (vis M (upd H x o)) a s := by
  obtain ⟨xs, n⟩ := n
  obtain ⟨dx, h⟩ := h
  obtain ⟨h1, h2⟩ := vis_of h
  exact ⟨dx, vis_in (by rw [upd_ne (ne_of h1 n (by intro z; cases z))]; exact h1) h2⟩
theorem pr_last {α β : Type} {F : α → β → Prop} : ∀ {l : List α} {m : List β} {b : β}, Paired F l (m ++ [b]) → ∃ l2 a, l = l2 ++ [a] ∧ Paired F l2 m ∧ F a b
  | _, [], b, .cons r .nil => ⟨[], _, rfl, .nil, r⟩
  | _, c :: m, b, .cons r t => by
    obtain ⟨l2, a, e, h1, h2⟩ := pr_last t
    exact ⟨_ :: l2, a, by rw [e]; rfl, .cons r h1, h2⟩
theorem set_last {α : Type} (l : List α) (a b : α) : (l ++ [a]).set l.length b = l ++ [b] := by
  rw [List.set_append_right _ _ (Nat.le_refl _), Nat.sub_self]
  rfl
theorem ixN_last (n : Nat) : ixN (n + 1) (-1) = some n := by
  unfold ixN
  rw [if_neg (by decide), if_pos (by omega)]
  congr 1
  omega
/-! ### a turn of tidied's loop -/
theorem turn_in {A : List Sel} {x y : Sel} {o : Option Nat} {km : Bool} {acc : List Told} (h : toldO (A ++ [x]) o = acc) (ht : Ue15.touch x y = true) (hk : km = true → o = none) (hl : Ue15.lo x ≤ Ue15.lo y) :
    toldO (A ++ [Ue15.facing (if km then y else x) (Ue15.lo x) (max (Ue15.hi x) (Ue15.hi y))]) (if km then some A.length else o) = mstep acc (y, km) := by
  rw [← h, toldO_app A x o, mstep_app, if_pos (show Ue15.touch (x, decide (some A.length = o)).1 (y, km).1 = true from ht), toldO_app]
  have e : Ue15.joined (x, decide (some A.length = o)) (y, km) = (Ue15.facing (if km = true then y else x) (Ue15.lo x) (max (Ue15.hi x) (Ue15.hi y)), decide (some A.length = o) || km) := by
    unfold Ue15.joined
    rw [Nat.min_eq_left hl]
  rw [e]
  cases km with
  | true =>
    rw [hk rfl]
    simp only [if_true]
    rw [toldO_beyond (Nat.le_refl _)]
    simp
  | false => simp
theorem turn_new {A : List Sel} {y : Sel} {o : Option Nat} {km : Bool} {acc : List Told} (h : toldO A o = acc) (ht : ∀ A2 x, A = A2 ++ [x] → Ue15.touch x y = false) (hk : km = true → o = none) (ho : ∀ j, o = some j → j < A.length) :
    toldO (A ++ [y]) (if km then some A.length else o) = mstep acc (y, km) := by
  have e2 : mstep acc (y, km) = acc ++ [(y, km)] := by
    by_cases hA : A = []
    · subst hA
      rw [← h]
      rfl
    · obtain ⟨A2, x, e⟩ := last_of hA
      rw [← h, e, toldO_app, mstep_app, if_neg (by rw [ht A2 x e]; decide)]
  rw [e2, ← h, toldO_app]
  cases km with
  | true =>
    rw [hk rfl]
    simp only [if_true]
    rw [toldO_beyond (Nat.le_refl _)]
    simp
  | false =>
    simp only [if_false, Bool.false_eq_true]
    congr 2
    have : ¬ some A.length = o := fun z => Nat.lt_irrefl _ (ho _ z.symm)
    rw [decide_eq_false this]
section
variable {P : Program} {w : World} {K : PySem.W.Frag} {mg : Str → Option Value} {base : Heap} {C : Ca}
def sp_tidied (C : Ca) : Sp := fun vs H Q _ => ∃ (M : List Addr) (q : Addr) (s : List Sel) (m : Nat), vs = [.ref q, .int m] ∧ SelsL C (vis M H) q s ∧ s.length ≤ 1000 ∧ m < s.length ∧ Tb C H ∧ MOk C M H ∧
  ∀ H2 p, ExtN H H2 → Tb C H2 → SelsAt C (vis M H2) p (Ue15.tidy (told s m)) → Q (.ref p) H2
theorem cal_ofT {x : Str} {st : Stmt} {N ps : List Str} {k : Nat} {sp : Sp} {c : Addr} (D : DefT K mg x st c) (S : FnScope N ps (defScope st)) (hb : BindH x x st ps) (len : ∀ vs H Q E, sp vs H Q E → vs.length = ps.length)
    (hbody : ∀ (f : Addr) (A : Around) (outer : List Env) (s : Shared) (H : Hp) (vs : List V) (Q : VK) (E : XK), Room k (A.deeper (envOfC x (defScope st) s.heap.objs.size f (.ref c))) → sp vs H Q E →
      ∃ t, PSs (cxOf C8.CX0 P w K mg base N x (defScope st) f (.ref c) A outer s H E).nox (defBody st) t ∧ t { nx := fun _ H2 => Q .non H2, rt := Q } (start N vs) H) : C8.Cal P w K mg base (k + 1) x sp [] := by
  obtain ⟨f, oc, kV, doc, pm, ct, od, an, osl, g, lk, hcd, kp⟩ := D
  refine ⟨f, _, ps, [], fn_of lk hcd S len (fun A outer s H vs Q E hr h => ?_), g, kp, .all (hb kV doc pm an (.ref c) ct), .nil⟩
  obtain ⟨t, h1, h2⟩ := hbody f A outer s H vs Q E hr h
  exact ⟨t, h1.nox, h2⟩
theorem lam_free : ∀ y ∈ ([("k", NameKind.local), ("each", NameKind.free)] : List (Str × NameKind)), y.2 = .free → (defScope s_tidied).names.lookup y.1 = some .cell ∨ (defScope s_tidied).names.lookup y.1 = some .free := by decide +kernel
theorem k_tidied (G : Gs K mg C) (TB : TabB base mg C.tc C.tP) : C8.Cal P w K mg base 5 "tidied" (sp_tidied C) [] := by
  have K_touches := k_touches (P := P) (w := w) (base := base) G
  have K_made_one := k_made_one (P := P) (w := w) (base := base) G
  have K_Selections_init := k_Selections_init (P := P) (w := w) (base := base) G
  have K_Selection_begin := k_Selection_begin (P := P) (w := w) (base := base) G
  have K_Selection_end := k_Selection_end (P := P) (w := w) (base := base) G
  refine cal_ofT G.d_tidied sc_tidied (fun _ _ _ _ _ _ us hl => match us, hl with | [_, _], _ => rfl) (fun vs H Q E h => ?_) (fun f A outer s H vs Q E hr h => ?_)
  · obtain ⟨M, q, s, m, rfl, _⟩ := h; rfl
  · obtain ⟨M, q, sl, m, rfl, hq, hlen, hm, tb, mo, hQ⟩ := h
    refine ⟨_, (pss_cons (ps_set (i := 2) sc_tidied.nd rfl (Or.inl rfl) (KeSort.pe_sortR (T := [(C.tP, tq)]) (N1 := ["k", "each"]) (fr := ["each"]) (kn := "k") (js := [0]) (k := 1) (tb := tTup (tCons (tMeth C.sel "begin" (sp_sel C vLo) [] C8.E0 (tOp (rIxL K) (tVar 1) (tVar 0)) tNil) (tCons (tMeth C.sel "end" (sp_sel C vHi) [] C8.E0 (tOp (rIxL K) (tVar 1) (tVar 0)) tNil) tNil))) rfl G.b_sorted (pa_cons (pe_callTy (T := "range") KeSort.cr_range1 rfl G.b_range (by decide +kernel) (pa_cons (pe_callB call_len_seq (by rfl) G.b_len PySem.boot_len (pa_cons (pv 0) pa_nil)) pa_nil)) pa_nil) TB rfl (List.mem_singleton.mpr rfl) (fun p hp _ => by rw [List.mem_singleton.mp hp]; rfl) hr (NdefX.nscope_by (by decide +kernel)) lam_free (by decide +kernel) rfl rfl (fun _ _ _ _ _ _ => rfl) (fun A2 outer2 s2 H2 f2 c2 cl2 hr2 => pe_tup (pa_cons (C8.pe_mt0 K_Selection_begin hr2 (by decide) (pe_ix ix_list (pv 1) (pv 0) (fun _ _ => rfl))) (pa_cons (C8.pe_mt0 K_Selection_end hr2 (by decide) (pe_ix ix_list (pv 1) (pv 0) (fun _ _ => rfl))) pa_nil))))) (pss_cons (ps_set (i := 3) sc_tidied.nd rfl (Or.inl rfl) (pe_lst pa_nil)) (pss_cons (ps_set (i := 4) sc_tidied.nd rfl (Or.inl rfl) pe_int) (pss_cons (ps_for PassesOwn.never rfl (pi_list (pv 2)) (pg_name (i := 5) sc_tidied.nd rfl (Or.inl rfl)) (C8.pss_cut (ps_if (PW.pt (pw_and (pt_truth (pv 3) (by intro _; rfl)) (pw_and1 (pt_val (C8.pe_c K_touches hr (by decide) rfl (pa_cons (pe_ix ix_list (pv 3) (pe_un un_neg pe_int) (fun _ _ => rfl)) (pa_cons (pe_ix ix_list (pv 0) (pv 5) (fun _ _ => rfl)) pa_nil))))))) (pss_one (ps_asg (C8.pe_c K_made_one hr (by decide) rfl (pa_cons (pe_ix ix_list (pv 3) (pe_un un_neg pe_int) (fun _ _ => rfl)) (pa_cons (pe_ix ix_list (pv 0) (pv 5) (fun _ _ => rfl)) (pa_cons (pe_cmpR op_eq (pv 5) (pv 1) (nomark _)) pa_nil)))) (pg_sub (pv 3) (pe_un un_neg pe_int) set_list))) (pss_one (ps_expr (pe_bm PySem.F.plainAttrs_list PySem.F.slot_list_append PySem.F.type_list_append mt_append (pv 3) (pa_cons (pe_ix ix_list (pv 0) (pv 5) (fun _ _ => rfl)) pa_nil))))) (pss_one (ps_if (pt_cmpR op_eq (pv 5) (pv 1) (nomark _)) (pss_one (ps_set (i := 4) sc_tidied.nd rfl (Or.inl rfl) (pe_op op_sub (pe_callB call_len_seq (by rfl) G.b_len PySem.boot_len (pa_cons (pv 3) pa_nil)) pe_int))) pss_nil)))) (pss_one (ps_ret (C8.pe_mk K_Selections_init hr (by decide) rfl (pa_cons (pv 3) (pa_cons (pv 4) pa_nil))))))))), ?_⟩
    obtain ⟨bs, hq1, hq2⟩ := id hq
    have lbs := pr_len hq2
    have hqH : H q = some (.lst (bs.map V.ref)) := (vis_of hq1).1
    refine ⟨_, rfl, _, _, rfl, .inl (SqL.of hqH), _, rfl, fun r nr => ?_⟩
    have e1 : Same H (upd H r (.rng 0 ((bs.map V.ref).length : Nat))) := same_new nr
    refine ⟨r, sl.length, fun i => kT ((told sl m).getD i (⟨0, 0⟩, false)), rfl, ?_, hlen, tb.same e1, fun i H2 hi ex t2 => ?_, fun Hs po out ex ts npo hpo o1 o2 => ?_⟩
    · rw [upd_same, List.length_map, lbs]
    · have ex1 : ExtN H H2 := (ExtN.of e1).trans ex
      obtain ⟨b, hb⟩ : ∃ b, bs[i]? = some b := ⟨_, List.getElem?_eq_getElem (by omega)⟩
      obtain ⟨si, hsi, hb2⟩ := pr_get hq2 hb
      have hb3 : SelAt C H2 b si := (hb2.same (vis_sub M H)).ext ex1
      obtain ⟨db, hb4⟩ := id hb3
      have q2 : H2 q = some (.lst (bs.map V.ref)) := ex1 _ _ hqH (fun ps z => by cases z)
      have at2 : atI (bs.map V.ref) ((i : Nat) : Int) = some (V.ref b) := atI_nat (by rw [List.getElem?_map, hb]; rfl)
      refine ⟨_, rfl, _, rfl, q, _, _, _, rfl, rfl, SqL.of q2, at2, b, db, _, rfl, hb4, lk_no no_begin, b, si, rfl, hb3, _, rfl, _, rfl, q, _, _, _, rfl, rfl, SqL.of q2, at2, b, db, _, rfl, hb4, lk_no no_end, b, si, rfl, hb3, by show 2 ≤ sizeLine; decide, fun tp ntp => ⟨tp, rfl, ?_, same_new ntp⟩⟩
      rw [upd_same]
      dsimp only
      rw [told_get hsi]
      rfl
    · -- behind sorted
      have ts1 : Tb C Hs := ts
      have ex1 : ExtN H Hs := (ExtN.of e1).trans ex
      have hT : (told sl m).length = sl.length := told_len sl m
      have ord := order_is (T := told sl m) (d := (⟨0, 0⟩, false)) o1 (by rw [hT]; exact o2)
      have hperm := o2.perm
      have hnd : out.Nodup := hperm.nodup_iff.mpr List.nodup_range
      have hol : out.length = sl.length := by
        rw [hperm.length_eq, List.length_range]
      refine ⟨Nat.zero_le _, fun pa npa => ?_⟩
      have paM : pa ∉ M := fresh_M mo ex1 ts1 npa
      refine ⟨_, rfl, po, rfl, ⟨_, SqL.of (same_new npa _ _ hpo)⟩, ?_⟩
      refine for_list (a := po) (xs := out.map fun i : Nat => V.int i) (fun i σ H2 => ExtN Hs H2 ∧ Tb C H2 ∧ ∃ (AL : List Sel) (as : List Addr) (o : Option Nat) (v5 : Option V), H2 pa = some (.lst (as.map V.ref)) ∧ Paired (SelAt C (vis M H2)) as AL ∧ toldO AL o = ((out.map fun i => (told sl m).getD i (⟨0, 0⟩, false)).take i).foldl mstep [] ∧
          (o.isSome = true ↔ m ∈ out.take i) ∧ (∀ j, o = some j → j < AL.length) ∧ AL.length ≤ i ∧ (∀ (A2 : List Sel) (x : Sel), AL = A2 ++ [x] → ∀ z ∈ out.drop i, Ue15.lo x ≤ Ue15.lo ((told sl m).getD z (⟨0, 0⟩, false)).1) ∧ σ = [some (.ref q), some (.int (m : Nat)), some (.ref po), some (.ref pa), some (.int (o.getD 0 : Nat)), v5])
        ⟨ext_put (ExtN.refl Hs) npa, ts1.same (same_new npa), [], [], none, none, upd_same, .nil, rfl, by simp, fun j z => (by cases z), Nat.le_refl _, fun A2 x z => absurd (congrArg List.length z) (by simp), rfl⟩
        (fun i σ H2 _ ⟨e, _⟩ => SqL.of (e _ _ hpo (fun ps z => by cases z))) ?_ ?_
      · rintro i v σ H2 hi ⟨ex2, t2, AL, as, o, v5, hpa, hpr, htold, hseen, hoj, hAi, hlo, rfl⟩
        obtain ⟨k, hk, rfl⟩ : ∃ k, out[i]? = some k ∧ v = V.int (k : Nat) := by
          rw [List.getElem?_map] at hi
          cases e : out[i]? with
          | none =>
            rw [e] at hi
            cases hi
          | some k =>
            rw [e] at hi
            exact ⟨k, rfl, (Option.some.inj hi).symm⟩
        have hin : i < out.length := (List.getElem?_eq_some_iff.mp hk).1
        have hkn : k < sl.length := List.mem_range.mp (hperm.mem_iff.mp (List.mem_of_getElem? hk))
        obtain ⟨b, hb⟩ : ∃ b, bs[k]? = some b := ⟨_, List.getElem?_eq_getElem (by omega)⟩
        obtain ⟨sk, hsk, hbk⟩ := pr_get hq2 hb
        have hbk2 : SelAt C (vis M H2) b sk := hbk.ext (vis_ext (ex1.trans ex2))
        have hqH2 : H2 q = some (.lst (bs.map V.ref)) := ex2 _ _ (ex1 _ _ hqH (fun ps z => by cases z)) (fun ps z => by cases z)
        have atk : atI (bs.map V.ref) ((k : Nat) : Int) = some (V.ref b) := atI_nat (by rw [List.getElem?_map, hb]; rfl)
        have hy : (told sl m).getD k (⟨0, 0⟩, false) = (sk, k == m) := told_get hsk
        have hS : (out.map fun i => (told sl m).getD i (⟨0, 0⟩, false))[i]? = some (sk, k == m) := by
          rw [List.getElem?_map, hk]
          exact congrArg some hy
        have hstep : ((out.map fun i => (told sl m).getD i (⟨0, 0⟩, false)).take (i + 1)).foldl mstep [] = mstep (toldO AL o) (sk, k == m) := by
          rw [take_at hS, List.foldl_append, ← htold]
          rfl
        have hkm : (k == m) = true → o = none := fun e => by
          have e2 : k = m := eq_of_beq e
          cases ho : o with
          | none => rfl
          | some j =>
            exfalso
            rw [ho] at hseen
            have h3 := hseen.mp rfl
            obtain ⟨j2, h4⟩ := List.mem_iff_getElem?.mp h3
            have h5 : j2 < i := by
              have := (List.getElem?_eq_some_iff.mp h4).1
              rw [List.length_take] at this
              omega
            rw [List.getElem?_take_of_lt h5] at h4
            exact absurd (nd_ix hnd h4 (by rw [← e2]; exact hk)) (by omega)
        have hdrop : out.drop i = k :: out.drop (i + 1) := dropX_at hk
        have hmono : ∀ z ∈ out.drop (i + 1), Ue15.lo sk ≤ Ue15.lo ((told sl m).getD z (⟨0, 0⟩, false)).1 := fun z hz => by
          have o3 := o1.sublist (List.drop_sublist i out)
          rw [hdrop] at o3
          have h6 := (List.pairwise_cons.mp o3).1 z hz
          have h7 : ltT ((told sl m).getD z (⟨0, 0⟩, false)) ((told sl m).getD k (⟨0, 0⟩, false)) = false := h6
          rw [hy] at h7
          have h8 := ltT_no.mp h7
          have h9 : Ue15.lo sk = Ue15.lo (sk, k == m).1 := rfl
          omega
        refine ⟨fun σ3 H3 => ExtN Hs H3 ∧ Tb C H3 ∧ ∃ (BL : List Sel) (cs : List Addr), H3 pa = some (.lst (cs.map V.ref)) ∧ Paired (SelAt C (vis M H3)) cs BL ∧ toldO BL (if (k == m) = true then some (BL.length - 1) else o) = mstep (toldO AL o) (sk, k == m) ∧
          BL ≠ [] ∧ BL.length ≤ i + 1 ∧ AL.length ≤ BL.length ∧ (∀ (A2 : List Sel) (x : Sel), BL = A2 ++ [x] → ∀ z ∈ out.drop (i + 1), Ue15.lo x ≤ Ue15.lo ((told sl m).getD z (⟨0, 0⟩, false)).1) ∧ σ3 = [some (.ref q), some (.int (m : Nat)), some (.ref po), some (.ref pa), some (.int (o.getD 0 : Nat)), some (.int (k : Nat))], ?_, ?_⟩
        · have app : (∀ (A2 : List Sel) (x : Sel), AL = A2 ++ [x] → Ue15.touch x sk = false) → ∀ H3 : Hp, H3 = upd H2 pa (.lst (as.map V.ref ++ [V.ref b])) → ExtN Hs H3 ∧ Tb C H3 ∧ ∃ (BL : List Sel) (cs : List Addr), H3 pa = some (.lst (cs.map V.ref)) ∧ Paired (SelAt C (vis M H3)) cs BL ∧ toldO BL (if (k == m) = true then some (BL.length - 1) else o) = mstep (toldO AL o) (sk, k == m) ∧
              BL ≠ [] ∧ BL.length ≤ i + 1 ∧ AL.length ≤ BL.length ∧ (∀ (A2 : List Sel) (x : Sel), BL = A2 ++ [x] → ∀ z ∈ out.drop (i + 1), Ue15.lo x ≤ Ue15.lo ((told sl m).getD z (⟨0, 0⟩, false)).1) := fun hno H3 e3 => by
            subst e3
            refine ⟨ext_put ex2 npa, tb_put t2 ⟨_, hpa⟩, AL ++ [sk], as ++ [b], by rw [upd_same, List.map_append]; rfl, pr_app (pr_mono (fun _ _ z => sel_put ⟨_, hpa⟩ z) hpr) (.cons (sel_put ⟨_, hpa⟩ hbk2) .nil), ?_, by simp, by simp; omega, by simp, fun A2 x e z hz => ?_⟩
            · have := turn_new (y := sk) (km := k == m) (A := AL) (o := o) rfl hno hkm hoj
              rw [← this]
              simp
            · obtain ⟨_, e4⟩ := List.append_inj' e rfl
              have e5 : sk = x := by simpa using e4
              rw [← e5]
              exact hmono z hz
          by_cases hA : AL = []
          · subst hA
            cases hpr
            refine ⟨_, rfl, _, .inl ⟨_, SqL.of hpa, rfl⟩, iteF ?_⟩
            refine ⟨_, rfl, .inl ⟨rfl, _, SqL.of hpa⟩, _, rfl, _, rfl, q, _, _, _, rfl, rfl, SqL.of hqH2, atk, pa, _, _, rfl, rfl, hpa, szl (by simp), ?_⟩
            obtain ⟨c1, c2, BL, cs, c3⟩ := app (fun A2 x e => absurd (congrArg List.length e) (by simp)) _ rfl
            exact ⟨c1, c2, BL, cs, c3.1, c3.2.1, c3.2.2.1, c3.2.2.2.1, c3.2.2.2.2.1, c3.2.2.2.2.2.1, c3.2.2.2.2.2.2, rfl⟩
          · obtain ⟨A2, x, rfl⟩ := last_of hA
            obtain ⟨as2, a, rfl, hpr2, hax⟩ := pr_last hpr
            have e0 : ((as2 ++ [a]).map V.ref) = as2.map V.ref ++ [V.ref a] := List.map_append
            have atl : atI ((as2 ++ [a]).map V.ref) (-1) = some (V.ref a) := by
              rw [e0]
              exact atI_last _ _
            have hne : (!((as2 ++ [a]).map V.ref).isEmpty) = true := by simp
            refine ⟨_, rfl, _, .inl ⟨_, SqL.of hpa, rfl⟩, ?_⟩
            rw [hne]
            refine iteT ?_
            refine ⟨_, rfl, _, rfl, pa, _, _, _, rfl, rfl, SqL.of hpa, atl, _, rfl, _, rfl, q, _, _, _, rfl, rfl, SqL.of hqH2, atk, a, b, x, sk, rfl, hax.same (vis_sub M H2), hbk2.same (vis_sub M H2), _, rfl, bI (fun ht => ?_) fun ht => ?_⟩
            · refine ⟨_, rfl, _, rfl, pa, _, _, _, rfl, rfl, SqL.of hpa, atl, _, rfl, _, rfl, q, _, _, _, rfl, rfl, SqL.of hqH2, atk, _, rfl, _, rfl, rfl, a, b, x, sk, _, rfl, hax.same (vis_sub M H2), hbk2.same (vis_sub M H2), fun H3 z s3 nz hz => ?_⟩
              have hpa3 : H3 pa = some (.lst ((as2 ++ [a]).map V.ref)) := s3 _ _ hpa
              refine ⟨_, rfl, _, rfl, pa, _, _, as2.length, rfl, rfl, hpa3, by rw [List.length_map, List.length_append]; exact ixN_last _, ?_⟩
              have ekm : decide (V.int (k : Nat) = V.int (m : Nat)) = (k == m) := by
                by_cases h : k = m
                · subst h
                  simp
                · rw [decide_eq_false (fun z => h (int_eq z)), beq_eq_false_iff_ne.mpr h]
              rw [ekm] at hz
              have zM : z ∉ M := fresh_M mo (ex1.trans ex2) t2 nz
              have hz2 : SelAt C (vis M H3) z (Ue15.facing (if (k == m) = true then sk else x) (Ue15.lo x) (max (Ue15.hi x) (Ue15.hi sk))) := by
                obtain ⟨dz, hz⟩ := hz
                exact ⟨dz, vis_in hz zM⟩
              have e1 : ((as2 ++ [a]).map V.ref).set as2.length (V.ref z) = (as2 ++ [z]).map V.ref := by
                rw [e0, List.map_append]
                have := set_last (as2.map V.ref) (V.ref a) (V.ref z)
                rw [List.length_map] at this
                exact this
              have hlx := hlo A2 x rfl k (by rw [hdrop]; exact List.mem_cons_self)
              rw [hy] at hlx
              refine ⟨ext_put (ex2.trans (ExtN.of s3)) npa, tb_put (t2.same s3) ⟨_, hpa3⟩, A2 ++ [Ue15.facing (if (k == m) = true then sk else x) (Ue15.lo x) (max (Ue15.hi x) (Ue15.hi sk))], as2 ++ [z], by rw [upd_same, e1], pr_app (pr_mono (fun _ _ y => sel_put ⟨_, hpa3⟩ (y.same (vis_same s3))) hpr2) (.cons (sel_put ⟨_, hpa3⟩ hz2) .nil), ?_, by simp, by simp at hAi ⊢; omega, by simp, fun A3 x3 e z3 hz3 => ?_, rfl⟩
              · have := turn_in (y := sk) (km := k == m) (A := A2) (x := x) (o := o) rfl ht hkm hlx
                rw [← this]
                simp
              · obtain ⟨_, e4⟩ := List.append_inj' e rfl
                have e5 : Ue15.facing (if (k == m) = true then sk else x) (Ue15.lo x) (max (Ue15.hi x) (Ue15.hi sk)) = x3 := by simpa using e4
                rw [← e5]
                have e6 : Ue15.lo (Ue15.facing (if (k == m) = true then sk else x) (Ue15.lo x) (max (Ue15.hi x) (Ue15.hi sk))) = Ue15.lo x := by
                  have h1 : Ue15.lo x ≤ Ue15.hi x := by
                    unfold Ue15.lo Ue15.hi
                    omega
                  generalize hh : (if (k == m) = true then sk else x) = f0
                  unfold Ue15.facing
                  split
                  · show min (max (Ue15.hi x) (Ue15.hi sk)) (Ue15.lo x) = Ue15.lo x
                    omega
                  · show min (Ue15.lo x) (max (Ue15.hi x) (Ue15.hi sk)) = Ue15.lo x
                    omega
                rw [e6]
                exact hlo A2 x rfl z3 (by rw [hdrop]; exact List.mem_cons_of_mem _ hz3)
            · refine ⟨_, rfl, .inl ⟨rfl, _, SqL.of hpa⟩, _, rfl, _, rfl, q, _, _, _, rfl, rfl, SqL.of hqH2, atk, pa, _, _, rfl, rfl, hpa, szl (by rw [List.length_map]; have := pr_len hpr; rw [this]; omega), ?_⟩
              obtain ⟨c1, c2, BL, cs, c3⟩ := app (fun A3 x3 e => by
                obtain ⟨_, e4⟩ := List.append_inj' e rfl
                have e5 : x = x3 := by simpa using e4
                rw [← e5]
                exact ht) _ rfl
              exact ⟨c1, c2, BL, cs, c3.1, c3.2.1, c3.2.2.1, c3.2.2.2.1, c3.2.2.2.2.1, c3.2.2.2.2.2.1, c3.2.2.2.2.2.2, rfl⟩
        · rintro σ3 H3 ⟨d1, d2, BL, cs, d3, d4, d5, d6, d7, d8, d9, rfl⟩
          have hBL : 0 < BL.length := List.length_pos_iff.mpr d6
          refine ⟨_, rfl, _, rfl, rfl, _, rfl, dI (fun h1 => ?_) fun h1 => ?_⟩
          · have e1 := int_eq h1
            have e2 : (k == m) = true := beq_iff_eq.mpr e1
            rw [if_pos e2] at d5
            refine ⟨_, rfl, _, _, rfl, .inl (SqL.of d3), _, _, rfl, rfl, d1, d2, BL, cs, some (BL.length - 1), some (.int (k : Nat)), d3, d4, d5.trans hstep.symm, ?_, fun j z => by cases z; omega, d7, d9, ?_⟩
            · rw [take_at hk]
              simp [e1]
            · have e3 : (((cs.map V.ref).length : Nat) : Int) - 1 = ((BL.length - 1 : Nat) : Int) := by
                rw [List.length_map, pr_len d4]
                omega
              show [some (V.ref q), some (V.int (m : Nat)), some (V.ref po), some (V.ref pa), some (V.int ((((cs.map V.ref).length : Nat) : Int) - 1)), some (V.int (k : Nat))] = _
              rw [e3]
              rfl
          · have e1 := int_ne h1
            have e2 : ¬ (k == m) = true := by simpa using e1
            rw [if_neg e2] at d5
            refine ⟨d1, d2, BL, cs, o, some (.int (k : Nat)), d3, d4, d5.trans hstep.symm, ?_, fun j z => Nat.lt_of_lt_of_le (hoj j z) d8, d7, d9, rfl⟩
            rw [hseen, take_at hk]
            simp [Ne.symm e1]
      · rintro σ H2 ⟨ex2, t2, AL, as, o, v5, hpa, hpr, htold, hseen, hoj, hAi, hlo, rfl⟩
        rw [List.length_map] at htold hseen
        have e1 : (out.map fun i => (told sl m).getD i (⟨0, 0⟩, false)).take out.length = (told sl m).foldr Ue15.insertBy [] := by
          rw [← ord]
          exact (List.take_of_length_le (by simp))
        rw [e1, ← tidy_fold] at htold
        rw [List.take_length] at hseen
        have hmo : m ∈ out := hperm.mem_iff.mpr (List.mem_range.mpr hm)
        obtain ⟨j, rfl⟩ := Option.isSome_iff_exists.mp (hseen.mpr hmo)
        refine ⟨_, rfl, _, rfl, fun x dx nx ndx ne => ⟨x, dx, pa, j, rfl, upd_same, fun H3 h1 h2 => ⟨rfl, ?_⟩⟩⟩
        have s3 : Same H2 H3 := Same.made nx ndx h2
        have xM : x ∉ M := fresh_M mo (ex1.trans ex2) t2 nx
        refine hQ _ _ ((ex1.trans ex2).trans (ExtN.of s3)) (t2.same s3) ⟨AL, j, dx, pa, vis_in h1 xM, ⟨as, vis_in (s3 _ _ hpa) paM, pr_mono (fun _ _ z => z.same (vis_same s3)) hpr⟩, ?_, hoj j rfl⟩
        rw [told_some AL j]
        exact htold.symm
end
end Ke
end
section
set_option maxHeartbeats 4500000
namespace Ke
open PySem PySem.Spec L2 LamX PyProof.Rows
open Ue15 (Sel Told Ed)
/-! ### the editor in the heap -/
def nMom : List Str := ["text", "selected"]
def nEd : List Str := ["text", "selected", "kept", "mode", "count", "pieces", "searched", "prompt", "prompt_key", "undoable", "redoable", "last_change", "macro", "recorded", "coming", "under_way", "before"]
theorem fm_text : ix? "text" nMom = some 0 := by decide +kernel
theorem fm_sel : ix? "selected" nMom = some 1 := by decide +kernel
theorem fe_text : ix? "text" nEd = some 0 := by decide +kernel
theorem fe_selected : ix? "selected" nEd = some 1 := by decide +kernel
theorem fe_kept : ix? "kept" nEd = some 2 := by decide +kernel
theorem fe_mode : ix? "mode" nEd = some 3 := by decide +kernel
theorem fe_count : ix? "count" nEd = some 4 := by decide +kernel
theorem fe_pieces : ix? "pieces" nEd = some 5 := by decide +kernel
theorem fe_searched : ix? "searched" nEd = some 6 := by decide +kernel
theorem fe_prompt : ix? "prompt" nEd = some 7 := by decide +kernel
theorem fe_prompt_key : ix? "prompt_key" nEd = some 8 := by decide +kernel
theorem fe_undoable : ix? "undoable" nEd = some 9 := by decide +kernel
theorem fe_redoable : ix? "redoable" nEd = some 10 := by decide +kernel
theorem fe_last_change : ix? "last_change" nEd = some 11 := by decide +kernel
theorem fe_macro : ix? "macro" nEd = some 12 := by decide +kernel
theorem fe_recorded : ix? "recorded" nEd = some 13 := by decide +kernel
theorem fe_coming : ix? "coming" nEd = some 14 := by decide +kernel
theorem fe_under_way : ix? "under_way" nEd = some 15 := by decide +kernel
theorem fe_before : ix? "before" nEd = some 16 := by decide +kernel
theorem ne_now : ix? "now" nEd = none := by decide +kernel
theorem ne_times : ix? "times" nEd = none := by decide +kernel
theorem ne_select : ix? "select" nEd = none := by decide +kernel
theorem ne_become : ix? "become" nEd = none := by decide +kernel
theorem ne_go_back_to : ix? "go_back_to" nEd = none := by decide +kernel
theorem ne_add_to_command : ix? "add_to_command" nEd = none := by decide +kernel
theorem ne_end_command : ix? "end_command" nEd = none := by decide +kernel
theorem ne_end_command_as_step : ix? "end_command_as_step" nEd = none := by decide +kernel
def MomAt (C : Ca) (H : Hp) (p : Addr) (x : List Nat × List Told) : Prop := ∃ dx pt ps, H p = some (.ins C.mom dx (nMom.zip [.ref pt, .ref ps])) ∧ TxtAt H pt x.1 ∧ SelsAt C H ps x.2
def KeptAt (C : Ca) (H : Hp) (v : V) : Option (List Told) → Prop
  | none => v = .non
  | some l => ∃ p, v = .ref p ∧ SelsAt C H p l
def PcsAt (H : Hp) (p : Addr) (l : List (List Nat)) : Prop := ∃ as : List Addr, H p = some (.lst (as.map V.ref)) ∧ Paired (TxtAt H) as l
def RecAt (H : Hp) (v : V) (rm : List Addr) : Option (List Nat) → Prop
  | none => v = .non ∧ rm = []
  | some l => ∃ p, v = .ref p ∧ rm = [p] ∧ TxtAt H p l
/-- where the editor's parts stand -/
structure Lo where
  dx : Addr
  pt : Addr
  ps : Addr
  kv : V
  ppc : Addr
  psr : Addr
  ppr : V
  pk : V
  pu : Addr
  pr : Addr
  pl : Addr
  pm : Addr
  rv : V
  pq : Addr
  pw : Addr
  pb : V
  rm : List Addr
  us : List Addr
  rs : List Addr
def edV (e : Ed) (L : Lo) : List V := [.ref L.pt, .ref L.ps, L.kv, .int (Ue15.modeOf e.mode : Nat), .int (e.count : Nat), .ref L.ppc, .ref L.psr, L.ppr, L.pk, .ref L.pu, .ref L.pr, .ref L.pl, .ref L.pm, L.rv, .ref L.pq, .ref L.pw, L.pb]
def edM (C : Ca) (a : Addr) (L : Lo) : List Addr := a :: C.tP :: L.pu :: L.pr :: L.pq :: L.pw :: L.rm
structure EdAt (C : Ca) (H : Hp) (a : Addr) (L : Lo) (e : Ed) (cq : List Nat) : Prop where
  obj : H a = some (.ins C.ed L.dx (nEd.zip (edV e L)))
  tb : Tb C H
  nd : (edM C a L).Nodup
  txt : TxtAt (vis (edM C a L) H) L.pt e.text
  sel : SelsAt C (vis (edM C a L) H) L.ps e.sels
  kept : KeptAt C (vis (edM C a L) H) L.kv e.kept
  pcs : PcsAt (vis (edM C a L) H) L.ppc e.pieces
  srch : TxtAt (vis (edM C a L) H) L.psr e.search
  prm : ∀ k w, e.mode = .prompt k w → L.pk = .int (k : Nat) ∧ ∃ p, L.ppr = .ref p ∧ TxtAt (vis (edM C a L) H) p w
  und : H L.pu = some (.lst (L.us.reverse.map V.ref))
  undP : Paired (MomAt C (vis (edM C a L) H)) L.us e.undo
  red : H L.pr = some (.lst (L.rs.reverse.map V.ref))
  redP : Paired (MomAt C (vis (edM C a L) H)) L.rs e.redo
  last : TxtAt (vis (edM C a L) H) L.pl e.last
  mac : TxtAt (vis (edM C a L) H) L.pm e.macro_
  rec_ : RecAt H L.rv L.rm e.recording
  com : TxtAt H L.pq cq
  way : TxtAt H L.pw e.keys
  bef : ∀ x, e.ahead = some x → ∃ p, L.pb = .ref p ∧ MomAt C (vis (edM C a L) H) p x
  emp : e.keys = [] ↔ e.ahead = none
/-- the frame of a change: what stands apart from the editor's own lists -/
abbrev Fr2 (C : Ca) (a : Addr) (L : Lo) (H : Hp) (L2 : Lo) (H2 : Hp) : Prop := ExtN (vis (edM C a L) H) (vis (edM C a L2) H2)
section
variable {C : Ca} {H H2 : Hp}
theorem MomAt.ext {p : Addr} {x : List Nat × List Told} (h : MomAt C H p x) (e : ExtN H H2) : MomAt C H2 p x := by
  obtain ⟨dx, pt, ps, h1, h2, h3⟩ := h
  exact ⟨dx, pt, ps, e _ _ h1 (fun ps z => by cases z), h2.ext e, h3.ext e⟩
theorem KeptAt.ext {v : V} {o : Option (List Told)} (h : KeptAt C H v o) (e : ExtN H H2) : KeptAt C H2 v o := by
  cases o with
  | none => exact h
  | some l =>
    obtain ⟨p, h1, h2⟩ := h
    exact ⟨p, h1, h2.ext e⟩
theorem PcsAt.ext {p : Addr} {l : List (List Nat)} (h : PcsAt H p l) (e : ExtN H H2) : PcsAt H2 p l := by
  obtain ⟨as, h1, h2⟩ := h
  exact ⟨as, e _ _ h1 (fun ps z => by cases z), pr_mono (fun _ _ z => z.ext e) h2⟩
theorem RecAt.ext {v : V} {rm : List Addr} {o : Option (List Nat)} (h : RecAt H v rm o) (e : ExtN H H2) : RecAt H2 v rm o := by
  cases o with
  | none => exact h
  | some l =>
    obtain ⟨p, h1, h2, h3⟩ := h
    exact ⟨p, h1, h2, h3.ext e⟩
theorem lst_ext {p : Addr} {xs : List V} (h : H p = some (.lst xs)) (e : ExtN H H2) : H2 p = some (.lst xs) := e _ _ h (fun ps z => by cases z)
theorem ins_ext {p C0 dx : Addr} {fs : List (Str × V)} (h : H p = some (.ins C0 dx fs)) (e : ExtN H H2) : H2 p = some (.ins C0 dx fs) := e _ _ h (fun ps z => by cases z)
theorem EdAt.ext {a : Addr} {L : Lo} {e : Ed} {cq : List Nat} (h : EdAt C H a L e cq) (x : ExtN H H2) (t : Tb C H2) : EdAt C H2 a L e cq where
  obj := ins_ext h.obj x
  tb := t
  nd := h.nd
  txt := h.txt.ext (vis_ext x)
  sel := h.sel.ext (vis_ext x)
  kept := h.kept.ext (vis_ext x)
  pcs := h.pcs.ext (vis_ext x)
  srch := h.srch.ext (vis_ext x)
  prm := fun k w hm => by
    obtain ⟨h1, p, h2, h3⟩ := h.prm k w hm
    exact ⟨h1, p, h2, h3.ext (vis_ext x)⟩
  und := lst_ext h.und x
  undP := pr_mono (fun _ _ z => z.ext (vis_ext x)) h.undP
  red := lst_ext h.red x
  redP := pr_mono (fun _ _ z => z.ext (vis_ext x)) h.redP
  last := h.last.ext (vis_ext x)
  mac := h.mac.ext (vis_ext x)
  rec_ := h.rec_.ext x
  com := h.com.ext x
  way := h.way.ext x
  bef := fun y hy => by
    obtain ⟨p, h1, h2⟩ := h.bef y hy
    exact ⟨p, h1, h2.ext (vis_ext x)⟩
  emp := h.emp
theorem EdAt.same {a : Addr} {L : Lo} {e : Ed} {cq : List Nat} (h : EdAt C H a L e cq) (x : Same H H2) : EdAt C H2 a L e cq := h.ext (ExtN.of x) (h.tb.same x)
theorem EdAt.mok {a : Addr} {L : Lo} {e : Ed} {cq : List Nat} (h : EdAt C H a L e cq) : MOk C (edM C a L) H := fun b hb => by
  have rm : ∀ b ∈ L.rm, ∃ o, H b = some o ∧ ∀ ps, o ≠ .tbl ps := fun b hb => by
    have r := h.rec_
    cases hr : e.recording with
    | none =>
      rw [hr] at r
      rw [r.2] at hb
      cases hb
    | some l =>
      rw [hr] at r
      obtain ⟨p, _, h2, h3⟩ := r
      rw [h2] at hb
      rw [List.mem_singleton.mp hb]
      exact ⟨_, h3, fun ps z => by cases z⟩
  have hb2 : b = a ∨ b = C.tP ∨ b = L.pu ∨ b = L.pr ∨ b = L.pq ∨ b = L.pw ∨ b ∈ L.rm := by simpa [edM] using hb
  rcases hb2 with e | e | e | e | e | e | e
  · exact .inr ⟨_, by rw [e]; exact h.obj, fun ps z => by cases z⟩
  · exact .inl e
  · exact .inr ⟨_, by rw [e]; exact h.und, fun ps z => by cases z⟩
  · exact .inr ⟨_, by rw [e]; exact h.red, fun ps z => by cases z⟩
  · exact .inr ⟨_, by rw [e]; exact h.com, fun ps z => by cases z⟩
  · exact .inr ⟨_, by rw [e]; exact h.way, fun ps z => by cases z⟩
  · exact .inr (rm b e)
theorem EdAt.fresh {a : Addr} {L : Lo} {e : Ed} {cq : List Nat} (h : EdAt C H a L e cq) {x : Addr} (n : H x = none) : x ∉ edM C a L := fresh_M h.mok (ExtN.refl H) h.tb n
theorem vis_put {M : List Addr} {x : Addr} {o : HO} (h : x ∈ M) : vis M (upd H x o) = vis M H := by
  funext b
  unfold vis
  by_cases m : b ∈ M
  · rw [if_pos m, if_pos m]
  · rw [if_neg m, if_neg m, upd_ne (fun z => m (by rw [z]; exact h))]
theorem a_in {a : Addr} {L : Lo} : a ∈ edM C a L := List.mem_cons_self
theorem tb_ins {x C0 dx : Addr} {o : HO} {fs : List (Str × V)} (t : Tb C H) (n : H x = some (.ins C0 dx fs)) : Tb C (upd H x o) := by
  intro p hp
  obtain ⟨ps, h1, h2, h3⟩ := t p hp
  refine ⟨ps, by rw [upd_ne (ne_of h1 n (by intro z; cases z))]; exact h1, h2, fun pos cv hc => ?_⟩
  obtain ⟨c, e1, e2⟩ := (h3 pos cv hc)
  exact ⟨c, e1, by rw [upd_ne (ne_of e2 n (by intro z; unfold CodeO at z; cases z))]; exact e2⟩
/-- lists are not instances -/
theorem lst_ins {x p C0 dx : Addr} {o : HO} {fs : List (Str × V)} {xs : List V} (n : H x = some (.ins C0 dx fs)) (h : H p = some (.lst xs)) : upd H x o p = some (.lst xs) := by
  rw [upd_ne (ne_of h n (by intro z; cases z))]
  exact h
theorem RecAt.ins {x C0 dx : Addr} {o : HO} {fs : List (Str × V)} {v : V} {rm : List Addr} {r : Option (List Nat)} (n : H x = some (.ins C0 dx fs)) (h : RecAt H v rm r) : RecAt (upd H x o) v rm r := by
  cases r with
  | none => exact h
  | some l =>
    obtain ⟨p, h1, h2, h3⟩ := h
    exact ⟨p, h1, h2, lst_ins n h3⟩
end
/-- the object's fields are written: the lists of the editor stay -/
structure Put (C : Ca) (H H2 : Hp) (a : Addr) (L L2 : Lo) (e e2 : Ed) : Prop where
  lo : edM C a L2 = edM C a L
  pu : L2.pu = L.pu
  pr : L2.pr = L.pr
  us : L2.us = L.us
  rs : L2.rs = L.rs
  pq : L2.pq = L.pq
  pw : L2.pw = L.pw
  rv : L2.rv = L.rv
  rm : L2.rm = L.rm
  dx : L2.dx = L.dx
  eu : e2.undo = e.undo
  er : e2.redo = e.redo
  ec : e2.recording = e.recording
  ek : e2.keys = e.keys
  ea : e2.ahead = e.ahead
  pb : L2.pb = L.pb
  hp : H2 = upd H a (.ins C.ed L.dx (nEd.zip (edV e2 L2)))
theorem EdAt.put {C : Ca} {H H2 : Hp} {a : Addr} {L L2 : Lo} {e e2 : Ed} {cq : List Nat} (h : EdAt C H a L e cq) (p : Put C H H2 a L L2 e e2)
    (txt : TxtAt (vis (edM C a L) H) L2.pt e2.text) (sel : SelsAt C (vis (edM C a L) H) L2.ps e2.sels) (kept : KeptAt C (vis (edM C a L) H) L2.kv e2.kept) (pcs : PcsAt (vis (edM C a L) H) L2.ppc e2.pieces)
    (srch : TxtAt (vis (edM C a L) H) L2.psr e2.search) (prm : ∀ k w, e2.mode = .prompt k w → L2.pk = .int (k : Nat) ∧ ∃ p, L2.ppr = .ref p ∧ TxtAt (vis (edM C a L) H) p w)
    (last : TxtAt (vis (edM C a L) H) L2.pl e2.last) (mac : TxtAt (vis (edM C a L) H) L2.pm e2.macro_) : EdAt C H2 a L2 e2 cq ∧ Fr2 C a L H L2 H2 := by
  have hv : vis (edM C a L2) H2 = vis (edM C a L) H := by
    rw [p.hp, p.lo, vis_put a_in]
  have e3 := p.hp
  refine ⟨⟨?_, ?_, by rw [p.lo]; exact h.nd, by rw [hv]; exact txt, by rw [hv]; exact sel, by rw [hv]; exact kept, by rw [hv]; exact pcs, by rw [hv]; exact srch, fun k w hm => by rw [hv]; exact prm k w hm, ?_, ?_, ?_, ?_, by rw [hv]; exact last, by rw [hv]; exact mac, ?_, ?_, ?_, ?_, ?_⟩, ?_⟩
  · rw [e3, upd_same, p.dx]
  · rw [e3]
    exact tb_ins h.tb h.obj
  · rw [e3, p.pu, p.us]
    exact lst_ins h.obj h.und
  · rw [hv, p.us, p.eu]
    exact h.undP
  · rw [e3, p.pr, p.rs]
    exact lst_ins h.obj h.red
  · rw [hv, p.rs, p.er]
    exact h.redP
  · rw [e3, p.rv, p.rm, p.ec]
    exact h.rec_.ins h.obj
  · rw [e3, p.pq]
    exact lst_ins h.obj h.com
  · rw [e3, p.pw, p.ek]
    exact lst_ins h.obj h.way
  · rw [hv, p.ea, p.pb]
    exact h.bef
  · rw [p.ek, p.ea]
    exact h.emp
  · show ExtN (vis (edM C a L) H) (vis (edM C a L2) H2)
    rw [hv]
    exact ExtN.refl _
theorem ed_few (vs : List V) : (nEd.zip vs).length < 1000 := by
  rw [List.length_zip]
  exact Nat.lt_of_le_of_lt (Nat.min_le_left _ _) (by decide)
theorem put_ed {f : Str} {v : V} {vs : List V} {i : Nat} (h : ix? f nEd = some i) (hl : i < vs.length) : putF f v (nEd.zip vs) = nEd.zip (vs.set i v) := put_zip h hl
end Ke
end
section
set_option maxHeartbeats 4500000
namespace Ke
open PySem PySem.Spec L2 LamX PyProof.Rows
open Ue15 (Sel Told Ed)
/-! ### the mathematics of told -/
theorem told_map (s : List Sel) (m : Nat) (f : Sel → Sel) : (told s m).map (fun x => (f x.1, x.2)) = told (s.map f) m := by
  unfold told
  rw [List.map_map, List.zipIdx_map, List.map_map]
  rfl
section
variable {P : Program} {w : World} {K : PySem.W.Frag} {mg : Str → Option Value} {base : Heap} {C : Ca}
def sp_Moment_init (C : Ca) : Sp := fun vs H Q _ => ∃ (x dx p q : Addr), vs = [.ref x, .ref p, .ref q] ∧ H x = some (.ins C.mom dx []) ∧
  ∀ H2, H2 x = some (.ins C.mom dx (nMom.zip [.ref p, .ref q])) → (∀ b o, H b = some o → b ≠ x → H2 b = some o) → Q .non H2
theorem k_Moment_init (G : Gs K mg C) : C8.Mak P w K mg base 1 "Moment" C.mom (sp_Moment_init C) [] := by
  refine mak_of G.d_Moment_init sc_Moment_init (fun _ _ _ _ _ _ us hl => match us, hl with | [_, _, _], _ => rfl) (fun vs H Q E h => ?_) (fun f cdv A outer s H vs Q E hr h => ?_)
  · obtain ⟨x, dx, p, q, rfl, _⟩ := h; rfl
  · obtain ⟨x, dx, p, q, rfl, hx, hQ⟩ := h
    refine ⟨_, (pss_cons (ps_fld (pv 0) (pv 1) rfl) (pss_one (ps_fld (pv 0) (pv 2) rfl))), ?_⟩
    refine ⟨_, rfl, _, rfl, x, C.mom, dx, _, rfl, hx, G.k_Moment, G.n_Moment_text, by show 0 < 1000; decide, ?_⟩
    refine ⟨_, rfl, _, rfl, x, C.mom, dx, _, rfl, upd_same, G.k_Moment, G.n_Moment_selected, by show 1 < 1000; decide, ?_⟩
    refine hQ _ ?_ fun b o e hb => ?_
    · rw [upd_same]
      rfl
    · rw [upd_ne hb, upd_ne hb]
      exact e
def sp_Editor_now (C : Ca) : Sp := fun vs H Q _ => ∃ (a dx p q : Addr) (fs : List V), vs = [.ref a] ∧ H a = some (.ins C.ed dx (nEd.zip fs)) ∧ fs[0]? = some (.ref p) ∧ fs[1]? = some (.ref q) ∧
  ∀ H2 x d2, Same H H2 → H x = none → H2 x = some (.ins C.mom d2 (nMom.zip [.ref p, .ref q])) → Q (.ref x) H2
theorem k_Editor_now (G : Gs K mg C) : C8.Met P w K mg base 3 C.ed "now" (sp_Editor_now C) [] := by
  have K_Moment_init := k_Moment_init (P := P) (w := w) (base := base) G
  refine met_of G.k_Editor G.d_Editor_now sc_Editor_now (fun _ _ _ _ _ _ us hl => match us, hl with | [_], _ => rfl) (fun vs H Q E h => ?_) (fun f cdv A outer s H vs Q E hr h => ?_)
  · obtain ⟨a, dx, p, q, fs, rfl, _⟩ := h; rfl
  · obtain ⟨a, dx, p, q, fs, rfl, ha, h0, h1, hQ⟩ := h
    refine ⟨_, (pss_one (ps_ret (C8.pe_mk K_Moment_init hr (by decide) rfl (pa_cons (pe_fld (pv 0) rfl) (pa_cons (pe_fld (pv 0) rfl) pa_nil))))), ?_⟩
    refine ⟨_, rfl, a, C.ed, dx, _, _, rfl, ha, G.k_Editor, G.n_Editor_text, lk_zip fe_text h0, _, rfl, a, C.ed, dx, _, _, rfl, ha, G.k_Editor, G.n_Editor_selected, lk_zip fe_selected h1, fun x d2 nx nd ne => ⟨x, d2, p, q, rfl, upd_same, fun H2 h2 h3 => ⟨rfl, hQ _ _ _ (Same.made nx nd h3) nx h2⟩⟩⟩
def sp_Editor_times (C : Ca) : Sp := fun vs H Q _ => ∃ (a dx : Addr) (fs : List V) (n : Nat), vs = [.ref a] ∧ H a = some (.ins C.ed dx (nEd.zip fs)) ∧ fs[4]? = some (.int (n : Nat)) ∧ Q (.int (max n 1 : Nat)) H
theorem k_Editor_times (G : Gs K mg C) : C8.Met P w K mg base 1 C.ed "times" (sp_Editor_times C) [] := by
  refine met_of G.k_Editor G.d_Editor_times sc_Editor_times (fun _ _ _ _ _ _ us hl => match us, hl with | [_], _ => rfl) (fun vs H Q E h => ?_) (fun f cdv A outer s H vs Q E hr h => ?_)
  · obtain ⟨a, dx, fs, n, rfl, _⟩ := h; rfl
  · obtain ⟨a, dx, fs, n, rfl, ha, h4, hQ⟩ := h
    refine ⟨_, (pss_one (ps_ret (pe_callB (call_max2 rfl) (by rfl) G.b_max (by decide +kernel) (pa_cons (pe_fld (pv 0) rfl) (pa_cons pe_int pa_nil))))), ?_⟩
    refine ⟨_, rfl, a, C.ed, dx, _, _, rfl, ha, G.k_Editor, G.n_Editor_count, lk_zip fe_count h4, _, _, rfl, ?_⟩
    have e : (if (1 : Int) > ((n : Nat) : Int) then (1 : Int) else ((n : Nat) : Int)) = ((max n 1 : Nat) : Int) := by
      split <;> omega
    rw [e]
    exact hQ
def sp_carried_selections (C : Ca) : Sp := fun vs H Q _ => ∃ (M : List Addr) (p c : Addr) (l : List Told) (t u : List Nat), vs = [.ref p, .ref c] ∧ SelsAt C (vis M H) p l ∧ CarAt C H c t u ∧ (∀ x ∈ l, x.1.anchor ≤ t.length ∧ x.1.hand ≤ t.length) ∧ l.length ≤ 1000 ∧ Tb C H ∧ MOk C M H ∧
  ∀ H2 p2, ExtN H H2 → Tb C H2 → SelsAt C (vis M H2) p2 (Ue15.tidy (l.map fun x => (⟨Ue15.carried t u x.1.anchor, Ue15.carried t u x.1.hand⟩, x.2))) → Q (.ref p2) H2
theorem no_carried : ix? "carried" nCar = none := by decide +kernel
theorem told_mem {s : List Sel} {m : Nat} {x : Sel} (h : x ∈ s) : ∃ b, (x, b) ∈ told s m := by
  obtain ⟨i, hi⟩ := List.mem_iff_getElem?.mp h
  refine ⟨i == m, List.mem_iff_getElem?.mpr ⟨i, ?_⟩⟩
  unfold told
  rw [List.getElem?_map, List.getElem?_zipIdx, hi]
  simp
theorem k_carried_selections (G : Gs K mg C) (TB : TabB base mg C.tc C.tP) : C8.Cal P w K mg base 6 "carried_selections" (sp_carried_selections C) [] := by
  have K_Carrier_carried := k_Carrier_carried (P := P) (w := w) (base := base) G
  have K_Selection_init := k_Selection_init (P := P) (w := w) (base := base) G
  have K_tidied := k_tidied (P := P) (w := w) (base := base) G TB
  refine cal_of G.d_carried_selections sc_carried_selections (fun _ _ _ _ _ _ us hl => match us, hl with | [_, _], _ => rfl) (fun vs H Q E h => ?_) (fun f cdv A outer s H vs Q E hr h => ?_)
  · obtain ⟨M, p, c, l, t, u, rfl, _⟩ := h; rfl
  · obtain ⟨M, p, c, l, t, u, rfl, ⟨sl, m, dp, q, hp, hq, rfl, hm⟩, hc, hpl, hlen, tb, mo, hQ⟩ := h
    refine ⟨_, (pss_cons (ps_setLc (i := 2) (own := [("one", 3)]) (g := gName 3) (tt := tYes) (te := (tMake C.sel (sp_Selection_init C) [] C8.E0 (tCons (tMeth C.car "carried" (sp_Carrier_carried C) [] C8.E0 (tVar 1) (tCons (tFld K (tVar 3) "anchor") tNil)) (tCons (tMeth C.car "carried" (sp_Carrier_carried C) [] C8.E0 (tVar 1) (tCons (tFld K (tVar 3) "hand") tNil)) tNil)))) rfl sc_carried_selections.nd rfl rfl (sw_true rfl rfl rfl (by decide +kernel)) (pi_list (pe_fld (pv 0) rfl)) (blkOk_by (own := [("one", 3)]) (N := N_carried_selections) (sc := defScope s_carried_selections) (by decide +kernel)) (fun _ _ _ _ _ => (pg_name (i := 3) sc_carried_selections.nd rfl (Or.inl rfl))) (fun _ _ _ _ _ => pts_nil) (fun _ _ _ _ _ => (C8.pe_mk K_Selection_init hr (by decide) rfl (pa_cons (C8.pe_mt K_Carrier_carried hr (by decide) (pv 1) (pa_cons (pe_fld (pv 3) rfl) pa_nil)) (pa_cons (C8.pe_mt K_Carrier_carried hr (by decide) (pv 1) (pa_cons (pe_fld (pv 3) rfl) pa_nil)) pa_nil))))) (pss_one (ps_ret (C8.pe_c K_tidied hr (by decide) rfl (pa_cons (pv 2) (pa_cons (pe_fld (pv 0) rfl) pa_nil)))))), ?_⟩
    obtain ⟨bs, hq1, hq2⟩ := id hq
    have hpH := (vis_of hp).1
    have hqH := (vis_of hq1).1
    obtain ⟨dc, hcH⟩ := id hc
    rw [told_len] at hlen
    refine ⟨_, rfl, p, C.sels, dp, _, _, rfl, hpH, G.k_Selections, G.n_Selections_each, lk_zip fa_each rfl, q, rfl, ⟨_, SqL.of hqH⟩, fun D nD => ?_⟩
    have DM : D ∉ M := fresh_M mo (ExtN.refl H) tb nD
    refine lc_list (a := q) (xs := bs.map V.ref) (fun i H2 => Same H H2 ∧ ∃ as : List Addr, H2 D = some (.lst (as.map V.ref)) ∧ as.length = i ∧ Paired (SelAt C (vis M H2)) as ((sl.map fun s => (⟨Ue15.carried t u s.anchor, Ue15.carried t u s.hand⟩ : Sel)).take i)) ⟨same_new nD, [], upd_same, rfl, .nil⟩ (fun i H2 _ ⟨e, _⟩ => SqL.of (e _ _ hqH)) ?_ ?_
    · rintro i v H2 hi ⟨s2, as, hD, hl, hpr⟩
      obtain ⟨b, hb, rfl⟩ := ref_at hi
      obtain ⟨sb, hsb, hbs⟩ := pr_get hq2 hb
      have hbH : SelAt C H2 b sb := (hbs.same (vis_sub M H)).same s2
      obtain ⟨db, hb2⟩ := id hbH
      obtain ⟨fl, hfl⟩ := told_mem (m := m) (List.mem_of_getElem? hsb)
      have hpb := hpl _ hfl
      have hcS := s2 _ _ hcH
      refine ⟨rfl, ?_⟩
      refine ⟨_, rfl, c, dc, _, rfl, hcS, lk_no no_carried, _, rfl, b, C.sel, db, _, _, rfl, hb2, G.k_Selection, G.n_Selection_anchor, lk_zip fa_anchor rfl, c, _, t, u, rfl, hc.same s2, hpb.1, ?_⟩
      refine ⟨_, rfl, c, dc, _, rfl, hcS, lk_no no_carried, _, rfl, b, C.sel, db, _, _, rfl, hb2, G.k_Selection, G.n_Selection_hand, lk_zip fa_hand rfl, c, _, t, u, rfl, hc.same s2, hpb.2, ?_⟩
      intro x dx nx ndx ne
      refine ⟨x, dx, _, _, rfl, upd_same, fun H3 h3 h4 => ⟨rfl, ?_⟩⟩
      have s3 : Same H2 H3 := Same.made nx ndx h4
      have hD3 := s3 _ _ hD
      have xM : x ∉ M := fresh_M mo (ExtN.of s2) (tb.same s2) nx
      have hin := (List.getElem?_eq_some_iff.mp hb).1
      have lbs := pr_len hq2
      refine ⟨_, hD3, szl (by rw [List.length_map]; omega), same_put (s2.trans s3) nD, as ++ [x], by rw [upd_same, List.map_append]; rfl, by simp [hl], ?_⟩
      have hsm : (sl.map fun s => (⟨Ue15.carried t u s.anchor, Ue15.carried t u s.hand⟩ : Sel))[i]? = some ⟨Ue15.carried t u sb.anchor, Ue15.carried t u sb.hand⟩ := by
        rw [List.getElem?_map, hsb]
        rfl
      rw [take_at hsm]
      obtain ⟨d3, h3⟩ := h3
      exact pr_app (pr_mono (fun _ _ z => sel_put ⟨_, hD3⟩ (z.same (vis_same s3))) hpr) (.cons (sel_put ⟨_, hD3⟩ ⟨d3, vis_in h3 xM⟩) .nil)
    · rintro H2 ⟨s2, as, hD, hl, hpr⟩
      rw [List.length_map, pr_len hq2] at hpr
      rw [List.take_of_length_le (by simp)] at hpr
      refine ⟨_, rfl, _, rfl, p, C.sels, dp, _, _, rfl, s2 _ _ hpH, G.k_Selections, G.n_Selections_main, lk_zip fa_main rfl, M, D, _, m, rfl, ⟨as, vis_in hD DM, hpr⟩, by rw [List.length_map]; exact hlen, by rw [List.length_map]; exact hm, tb.same s2, ?_, fun H3 p2 e3 t3 h3 => ?_⟩
      · intro x hx
        rcases mo x hx with z | ⟨o, z1, z2⟩
        · exact .inl z
        · exact .inr ⟨o, s2 _ _ z1, z2⟩
      · refine hQ _ _ ((ExtN.of s2).trans e3) t3 ?_
        rw [← told_map] at h3
        exact h3
end
end Ke
end
section
set_option maxHeartbeats 4500000
namespace Ke
open PySem PySem.Spec L2 LamX PyProof.Rows
open Ue15 (Sel Told Ed)
theorem edi {e : Ed} {L : Lo} {i : Nat} (h : i < 17) : i < (edV e L).length := h
theorem vis_step {M M2 : List Addr} {H H2 : Hp} (h : ∀ b o, H b = some o → b ∉ M → (∀ ps, o ≠ .tbl ps) → H2 b = some o ∧ b ∉ M2) : ExtN (vis M H) (vis M2 H2) := fun b o hb n => by
  obtain ⟨h1, h2⟩ := vis_of hb
  obtain ⟨h3, h4⟩ := h b o h1 h2 n
  exact vis_in h3 h4
section
variable {P : Program} {w : World} {K : PySem.W.Frag} {mg : Str → Option Value} {base : Heap} {C : Ca}
def sp_Editor_select (C : Ca) : Sp := fun vs H Q _ => ∃ (a q : Addr) (L : Lo) (e : Ed) (cq : List Nat) (s : List Sel) (m : Nat), vs = [.ref a, .ref q, .int (m : Nat)] ∧ EdAt C H a L e cq ∧ SelsL C (vis (edM C a L) H) q s ∧ s.length ≤ 1000 ∧ m < s.length ∧
  ∀ H2 L2, EdAt C H2 a L2 { e with sels := Ue15.tidy (told s m) } cq → Fr2 C a L H L2 H2 → Q .non H2
theorem k_Editor_select (G : Gs K mg C) (TB : TabB base mg C.tc C.tP) : C8.Met P w K mg base 6 C.ed "select" (sp_Editor_select C) [] := by
  have K_tidied := k_tidied (P := P) (w := w) (base := base) G TB
  refine met_of G.k_Editor G.d_Editor_select sc_Editor_select (fun _ _ _ _ _ _ us hl => match us, hl with | [_, _, _], _ => rfl) (fun vs H Q E h => ?_) (fun f cdv A outer s H vs Q E hr h => ?_)
  · obtain ⟨a, q, L, e, cq, s, m, rfl, _⟩ := h; rfl
  · obtain ⟨a, q, L, e, cq, sl, m, rfl, hE, hq, hl, hm, hQ⟩ := h
    refine ⟨_, (pss_one (ps_fld (pv 0) (C8.pe_c K_tidied hr (by decide) rfl (pa_cons (pv 1) (pa_cons (pv 2) pa_nil))) rfl)), ?_⟩
    refine ⟨_, rfl, _, rfl, edM C a L, q, sl, m, rfl, hq, hl, hm, hE.tb, hE.mok, fun H1 p ex t1 hp => ?_⟩
    have h1 := hE.ext ex t1
    refine ⟨_, rfl, a, C.ed, L.dx, _, rfl, h1.obj, G.k_Editor, G.n_Editor_selected, ed_few _, ?_⟩
    rw [put_ed fe_selected (edi (by decide))]
    obtain ⟨h2, f2⟩ := h1.put (L2 := { L with ps := p }) (e2 := { e with sels := Ue15.tidy (told sl m) }) ⟨rfl, rfl, rfl, rfl, rfl, rfl, rfl, rfl, rfl, rfl, rfl, rfl, rfl, rfl, rfl, rfl, rfl⟩ h1.txt hp h1.kept h1.pcs h1.srch h1.prm h1.last h1.mac
    exact hQ _ _ h2 ((vis_ext ex).trans f2)
def KeptOk (e : Ed) : Prop := ∀ l, e.kept = some l → (∀ x ∈ l, x.1.anchor ≤ e.text.length ∧ x.1.hand ≤ e.text.length) ∧ l.length ≤ 1000
def sp_Editor_become (C : Ca) : Sp := fun vs H Q _ => ∃ (a p : Addr) (L : Lo) (e : Ed) (cq u : List Nat), vs = [.ref a, .ref p] ∧ EdAt C H a L e cq ∧ TxtAt (vis (edM C a L) H) p u ∧ KeptOk e ∧
  ∀ H2 L2, EdAt C H2 a L2 (Ue15.withText e u) cq → Fr2 C a L H L2 H2 → Q .non H2
theorem k_Editor_become (G : Gs K mg C) (TB : TabB base mg C.tc C.tP) : C8.Met P w K mg base 7 C.ed "become" (sp_Editor_become C) [] := by
  have K_Carrier_init := k_Carrier_init (P := P) (w := w) (base := base) G
  have K_carried_selections := k_carried_selections (P := P) (w := w) (base := base) G TB
  refine met_of G.k_Editor G.d_Editor_become sc_Editor_become (fun _ _ _ _ _ _ us hl => match us, hl with | [_, _], _ => rfl) (fun vs H Q E h => ?_) (fun f cdv A outer s H vs Q E hr h => ?_)
  · obtain ⟨a, p, L, e, cq, u, rfl, _⟩ := h; rfl
  · obtain ⟨a, p, L, e, cq, u, rfl, hE, hp, hk, hQ⟩ := h
    refine ⟨_, (pss_cons (ps_if (pt_cmpR op_notN (pe_fld (pv 0) rfl) pe_non (nomark _)) (pss_one (ps_fld (pv 0) (C8.pe_c K_carried_selections hr (by decide) rfl (pa_cons (pe_fld (pv 0) rfl) (pa_cons (C8.pe_mk K_Carrier_init hr (by decide) rfl (pa_cons (pe_fld (pv 0) rfl) (pa_cons (pv 1) pa_nil))) pa_nil))) rfl)) pss_nil) (pss_one (ps_fld (pv 0) (pv 1) rfl))), ?_⟩
    refine ⟨_, rfl, a, C.ed, L.dx, _, _, rfl, hE.obj, G.k_Editor, G.n_Editor_kept, lk_zip fe_kept rfl, rfl, _, rfl, ?_⟩
    have hkept := hE.kept
    cases hke : e.kept with
    | none =>
      rw [hke] at hkept
      have e0 : L.kv = .non := hkept
      rw [e0]
      refine ⟨_, rfl, _, rfl, a, C.ed, L.dx, _, rfl, hE.obj, G.k_Editor, G.n_Editor_text, ed_few _, ?_⟩
      rw [put_ed fe_text (edi (by decide))]
      have hw : Ue15.withText e u = { e with text := u } := by
        unfold Ue15.withText
        rw [hke]
        obtain ⟨⟩ := e
        cases hke
        rfl
      obtain ⟨h2, f2⟩ := hE.put (L2 := { L with pt := p }) (e2 := { e with text := u }) ⟨rfl, rfl, rfl, rfl, rfl, rfl, rfl, rfl, rfl, rfl, rfl, rfl, rfl, rfl, rfl, rfl, rfl⟩ hp hE.sel hE.kept hE.pcs hE.srch hE.prm hE.last hE.mac
      rw [hw] at hQ
      exact hQ _ _ h2 f2
    | some l =>
      rw [hke] at hkept
      obtain ⟨pk, ek, hpk⟩ := hkept
      obtain ⟨hb, hl⟩ := hk l hke
      rw [ek]
      have obj2 := hE.obj
      refine ⟨_, rfl, a, C.ed, L.dx, _, _, rfl, hE.obj, G.k_Editor, G.n_Editor_kept, lk_zip fe_kept rfl, _, rfl, a, C.ed, L.dx, _, _, rfl, hE.obj, G.k_Editor, G.n_Editor_text, lk_zip fe_text rfl, _, rfl, fun x dx nx ndx ne => ?_⟩
      have s0 : Same H (upd (upd H dx (.own x)) x (.ins C.car dx [])) := fun b o hb => by
        rw [upd_ne (ne_of_none hb nx), upd_ne (ne_of_none hb ndx)]
        exact hb
      refine ⟨x, dx, L.pt, p, e.text, u, rfl, upd_same, (hE.txt.same (vis_sub _ _)).same s0, (hp.same (vis_sub _ _)).same s0, fun H1 hc h1 => ⟨rfl, ?_⟩⟩
      have s1 : Same H H1 := Same.made nx ndx h1
      have hE1 := hE.same s1
      rw [ek]
      refine ⟨edM C a L, pk, x, l, e.text, u, rfl, hpk.same (vis_same s1), hc, hb, hl, hE1.tb, hE1.mok, fun H2 p2 ex2 t2 hp2 => ?_⟩
      have hE2 := hE1.ext ex2 t2
      refine ⟨_, rfl, a, C.ed, L.dx, _, rfl, hE2.obj, G.k_Editor, G.n_Editor_kept, ed_few _, ?_⟩
      rw [put_ed fe_kept (edi (by decide))]
      refine ⟨_, rfl, _, rfl, a, C.ed, L.dx, _, rfl, upd_same, G.k_Editor, G.n_Editor_text, ed_few _, ?_⟩
      rw [put_ed fe_text (by simp [edV]), upd_upd]
      have ex3 : ExtN H H2 := (ExtN.of s1).trans ex2
      have hw : (Ue15.withText e u).kept = some (Ue15.tidy (l.map fun x => (⟨Ue15.carried e.text u x.1.anchor, Ue15.carried e.text u x.1.hand⟩, x.2))) := by
        unfold Ue15.withText
        rw [hke]
        rfl
      obtain ⟨h2, f2⟩ := hE2.put (L2 := { L with pt := p, kv := .ref p2 }) (e2 := Ue15.withText e u) ⟨rfl, rfl, rfl, rfl, rfl, rfl, rfl, rfl, rfl, rfl, rfl, rfl, rfl, rfl, rfl, rfl, rfl⟩ (hp.ext (vis_ext ex3)) hE2.sel (by rw [hw]; exact ⟨p2, rfl, hp2⟩) hE2.pcs hE2.srch hE2.prm hE2.last hE2.mac
      exact hQ _ _ h2 ((vis_ext ex3).trans f2)
def sp_Editor_go_back_to (C : Ca) : Sp := fun vs H Q _ => ∃ (a p : Addr) (L : Lo) (e : Ed) (cq : List Nat) (x : List Nat × List Told), vs = [.ref a, .ref p] ∧ EdAt C H a L e cq ∧ MomAt C (vis (edM C a L) H) p x ∧ KeptOk e ∧
  ∀ H2 L2, EdAt C H2 a L2 { Ue15.withText e x.1 with sels := x.2 } cq → Fr2 C a L H L2 H2 → Q .non H2
theorem k_Editor_go_back_to (G : Gs K mg C) (TB : TabB base mg C.tc C.tP) : C8.Met P w K mg base 8 C.ed "go_back_to" (sp_Editor_go_back_to C) [] := by
  have K_Editor_become := k_Editor_become (P := P) (w := w) (base := base) G TB
  refine met_of G.k_Editor G.d_Editor_go_back_to sc_Editor_go_back_to (fun _ _ _ _ _ _ us hl => match us, hl with | [_, _], _ => rfl) (fun vs H Q E h => ?_) (fun f cdv A outer s H vs Q E hr h => ?_)
  · obtain ⟨a, p, L, e, cq, x, rfl, _⟩ := h; rfl
  · obtain ⟨a, p, L, e, cq, x, rfl, hE, ⟨dp, pt, ps, hp, ht, hs⟩, hk, hQ⟩ := h
    refine ⟨_, (pss_cons (ps_expr (C8.pe_mt K_Editor_become hr (by decide) (pv 0) (pa_cons (pe_fld (pv 1) rfl) pa_nil))) (pss_one (ps_fld (pv 0) (pe_fld (pv 1) rfl) rfl))), ?_⟩
    have hpH := (vis_of hp).1
    refine ⟨_, rfl, a, L.dx, _, rfl, hE.obj, lk_no ne_become, _, rfl, p, C.mom, dp, _, _, rfl, hpH, G.k_Moment, G.n_Moment_text, lk_zip fm_text rfl, a, pt, L, e, cq, x.1, rfl, hE, ht, hk, fun H2 L2 h2 f2 => ?_⟩
    have hp2 := f2 _ _ hp (fun ps z => by cases z)
    refine ⟨_, rfl, p, C.mom, dp, _, _, rfl, (vis_of hp2).1, G.k_Moment, G.n_Moment_selected, lk_zip fm_sel rfl, _, rfl, a, C.ed, L2.dx, _, rfl, h2.obj, G.k_Editor, G.n_Editor_selected, ed_few _, ?_⟩
    rw [put_ed fe_selected (edi (by decide))]
    obtain ⟨h3, f3⟩ := h2.put (L2 := { L2 with ps := ps }) (e2 := { Ue15.withText e x.1 with sels := x.2 }) ⟨rfl, rfl, rfl, rfl, rfl, rfl, rfl, rfl, rfl, rfl, rfl, rfl, rfl, rfl, rfl, rfl, rfl⟩ h2.txt (hs.ext f2) h2.kept h2.pcs h2.srch h2.prm h2.last h2.mac
    exact hQ _ _ h3 (f2.trans f3)
end
end Ke
end
section
set_option maxHeartbeats 4500000
namespace Ke
open PySem PySem.Spec L2 LamX PyProof.Rows
open Ue15 (Sel Told Ed)
section
variable {C : Ca} {H : Hp} {a : Addr} {L : Lo} {e : Ed} {cq : List Nat}
theorem pw_in : L.pw ∈ edM C a L := by simp [edM]
theorem pu_in : L.pu ∈ edM C a L := by simp [edM]
theorem pr_in : L.pr ∈ edM C a L := by simp [edM]
theorem pq_in : L.pq ∈ edM C a L := by simp [edM]
theorem rm_in {p : Addr} (h : p ∈ L.rm) : p ∈ edM C a L := by simp [edM, h]
theorem EdAt.nes (h : EdAt C H a L e cq) : L.pw ≠ L.pu ∧ L.pw ≠ L.pr ∧ L.pw ≠ L.pq ∧ L.pw ∉ L.rm ∧ L.pu ≠ L.pr ∧ L.pu ≠ L.pq ∧ L.pu ∉ L.rm ∧ L.pr ≠ L.pq ∧ L.pr ∉ L.rm ∧ L.pq ∉ L.rm ∧ L.rm.Nodup := by
  have n := h.nd
  unfold edM at n
  simp only [List.nodup_cons, List.mem_cons, not_or] at n
  obtain ⟨n1, n2, ⟨n3, n4, n5, n6⟩, ⟨n7, n8, n9⟩, ⟨n10, n11⟩, n12, n13⟩ := n
  exact ⟨fun z => n5 z.symm, fun z => n8 z.symm, fun z => n10 z.symm, n12, n3, n4, n6, n7, n9, n11, n13⟩
theorem RecAt.other {x : Addr} {o : HO} {v : V} {rm : List Addr} {r : Option (List Nat)} (h : RecAt H v rm r) (n : x ∉ rm) : RecAt (upd H x o) v rm r := by
  cases r with
  | none => exact h
  | some l =>
    obtain ⟨p, h1, h2, h3⟩ := h
    refine ⟨p, h1, h2, ?_⟩
    show upd H x o p = _
    rw [upd_ne (fun z => n (by rw [h2, z]; exact List.mem_singleton.mpr rfl))]
    exact h3
end
section
variable {P : Program} {w : World} {K : PySem.W.Frag} {mg : Str → Option Value} {base : Heap} {C : Ca}
def sp_Editor_add_to_command (C : Ca) : Sp := fun vs H Q _ => ∃ (a : Addr) (L : Lo) (e : Ed) (cq : List Nat) (k : Nat), vs = [.ref a, .int (k : Nat)] ∧ EdAt C H a L e cq ∧ e.keys.length ≤ 5000000 ∧
  ∀ H2 L2, EdAt C H2 a L2 (Ue15.opened e k) cq → Fr2 C a L H L2 H2 → Q .non H2
theorem way_put {H : Hp} {a : Addr} {L : Lo} {e : Ed} {cq : List Nat} {k : Nat} (hE : EdAt C H a L e cq) (ha : e.ahead ≠ none) : EdAt C (upd H L.pw (.lst (iL (e.keys ++ [k])))) a L { e with keys := e.keys ++ [k] } cq := by
  have hv : vis (edM C a L) (upd H L.pw (.lst (iL (e.keys ++ [k])))) = vis (edM C a L) H := vis_put pw_in
  obtain ⟨n1, n2, n3, n4, _⟩ := hE.nes
  refine ⟨?_, tb_put hE.tb ⟨_, hE.way⟩, hE.nd, by rw [hv]; exact hE.txt, by rw [hv]; exact hE.sel, by rw [hv]; exact hE.kept, by rw [hv]; exact hE.pcs, by rw [hv]; exact hE.srch, by rw [hv]; exact hE.prm, ?_, by rw [hv]; exact hE.undP, ?_, by rw [hv]; exact hE.redP, by rw [hv]; exact hE.last, by rw [hv]; exact hE.mac, hE.rec_.other n4, ?_, upd_same, by rw [hv]; exact hE.bef, ?_⟩
  · rw [upd_ne (ne_of hE.obj hE.way (by intro z; cases z))]
    exact hE.obj
  · rw [upd_ne (Ne.symm n1)]
    exact hE.und
  · rw [upd_ne (Ne.symm n2)]
    exact hE.red
  · show upd _ _ _ _ = _
    rw [upd_ne (Ne.symm n3)]
    exact hE.com
  · exact ⟨fun z => by simp at z, fun z => absurd z ha⟩
theorem way_open {H : Hp} {a x : Addr} {L : Lo} {e : Ed} {cq : List Nat} {k : Nat} (hE : EdAt C H a L e cq) (hm : MomAt C (vis (edM C a L) H) x (e.text, e.sels)) :
    EdAt C (upd (upd H a (.ins C.ed L.dx (nEd.zip ((edV e L).set 16 (.ref x))))) L.pw (.lst ([] ++ [V.int (k : Nat)]))) a { L with pb := .ref x } { e with ahead := some (e.text, e.sels), keys := [k] } cq ∧
    Fr2 C a L H { L with pb := .ref x } (upd (upd H a (.ins C.ed L.dx (nEd.zip ((edV e L).set 16 (.ref x))))) L.pw (.lst ([] ++ [V.int (k : Nat)]))) := by
  have hv : vis (edM C a { L with pb := .ref x }) (upd (upd H a (.ins C.ed L.dx (nEd.zip ((edV e L).set 16 (.ref x))))) L.pw (.lst ([] ++ [V.int (k : Nat)]))) = vis (edM C a L) H := by
    show vis (edM C a L) _ = _
    rw [vis_put pw_in, vis_put a_in]
  obtain ⟨n1, n2, n3, n4, _⟩ := hE.nes
  have na : a ≠ L.pw := ne_of hE.obj hE.way (by intro z; cases z)
  refine ⟨⟨?_, tb_put (tb_ins hE.tb hE.obj) ⟨_, lst_ins hE.obj hE.way⟩, hE.nd, by rw [hv]; exact hE.txt, by rw [hv]; exact hE.sel, by rw [hv]; exact hE.kept, by rw [hv]; exact hE.pcs, by rw [hv]; exact hE.srch, by rw [hv]; exact hE.prm, ?_, by rw [hv]; exact hE.undP, ?_, by rw [hv]; exact hE.redP, by rw [hv]; exact hE.last, by rw [hv]; exact hE.mac, (hE.rec_.ins hE.obj).other n4, ?_, upd_same, ?_, ?_⟩, ?_⟩
  · rw [upd_ne na, upd_same]
    rfl
  · show upd _ _ _ L.pu = _
    rw [upd_ne (Ne.symm n1)]
    exact lst_ins hE.obj hE.und
  · show upd _ _ _ L.pr = _
    rw [upd_ne (Ne.symm n2)]
    exact lst_ins hE.obj hE.red
  · show upd _ _ _ L.pq = _
    rw [upd_ne (Ne.symm n3)]
    exact lst_ins hE.obj hE.com
  · rw [hv]
    rintro y z
    cases z
    exact ⟨x, rfl, hm⟩
  · exact ⟨fun z => by simp at z, fun z => by cases z⟩
  · show ExtN _ (vis _ _)
    rw [hv]
    exact ExtN.refl _
theorem k_Editor_add_to_command (G : Gs K mg C) : C8.Met P w K mg base 4 C.ed "add_to_command" (sp_Editor_add_to_command C) [] := by
  have K_Editor_now := k_Editor_now (P := P) (w := w) (base := base) G
  refine met_of G.k_Editor G.d_Editor_add_to_command sc_Editor_add_to_command (fun _ _ _ _ _ _ us hl => match us, hl with | [_, _], _ => rfl) (fun vs H Q E h => ?_) (fun f cdv A outer s H vs Q E hr h => ?_)
  · obtain ⟨a, L, e, cq, k, rfl, _⟩ := h; rfl
  · obtain ⟨a, L, e, cq, k, rfl, hE, hl, hQ⟩ := h
    refine ⟨_, (pss_cons (ps_if (pt_not (pt_truth (pe_fld (pv 0) rfl) (by intro _; rfl))) (pss_one (ps_fld (pv 0) (C8.pe_mt0 K_Editor_now hr (by decide) (pv 0)) rfl)) pss_nil) (pss_one (ps_expr (pe_bm PySem.F.plainAttrs_list PySem.F.slot_list_append PySem.F.type_list_append mt_append (pe_fld (pv 0) rfl) (pa_cons (pv 1) pa_nil))))), ?_⟩
    have hz : (iL e.keys).length < sizeLine := szl (by rw [iL_len]; omega)
    refine ⟨_, rfl, a, C.ed, L.dx, _, _, rfl, hE.obj, G.k_Editor, G.n_Editor_under_way, lk_zip fe_under_way rfl, _, .inl ⟨_, SqL.of hE.way, rfl⟩, ?_⟩
    by_cases hk : e.keys = []
    · have ha : e.ahead = none := hE.emp.mp hk
      have e1 : (!(iL e.keys).isEmpty) = false := by rw [hk]; rfl
      rw [e1]
      refine ⟨_, rfl, a, L.dx, _, rfl, hE.obj, lk_no ne_now, a, L.dx, L.pt, L.ps, _, rfl, hE.obj, rfl, rfl, fun H1 x d2 s1 nx hx => ?_⟩
      have hE1 := hE.same s1
      have xM := hE.fresh nx
      refine ⟨_, rfl, a, C.ed, L.dx, _, rfl, hE1.obj, G.k_Editor, G.n_Editor_before, ed_few _, ?_⟩
      rw [put_ed fe_before (edi (by decide))]
      have obj2 : upd H1 a (.ins C.ed L.dx (nEd.zip ((edV e L).set 16 (.ref x)))) a = some (.ins C.ed L.dx (nEd.zip ((edV e L).set 16 (.ref x)))) := upd_same
      refine ⟨_, rfl, a, C.ed, L.dx, _, _, rfl, obj2, G.k_Editor, G.n_Editor_under_way, lk_zip fe_under_way rfl, .inl ⟨rfl, _, SqL.of (lst_ins hE1.obj hE1.way)⟩, _, rfl, L.pw, _, _, rfl, rfl, lst_ins hE1.obj hE1.way, hz, ?_⟩
      have hm : MomAt C (vis (edM C a L) H1) x (e.text, e.sels) := ⟨d2, L.pt, L.ps, vis_in hx xM, hE1.txt, hE1.sel⟩
      obtain ⟨h2, f2⟩ := way_open (k := k) hE1 hm
      have eo : Ue15.opened e k = { e with ahead := some (e.text, e.sels), keys := [k] } := by
        unfold Ue15.opened
        rw [ha, hk]
        rfl
      rw [eo] at hQ
      rw [hk]
      exact hQ _ _ h2 ((vis_ext (ExtN.of s1)).trans f2)
    · have ha : e.ahead ≠ none := fun z => hk (hE.emp.mpr z)
      have e1 : (!(iL e.keys).isEmpty) = true := by simp [hk]
      rw [e1]
      refine ⟨_, rfl, a, C.ed, L.dx, _, _, rfl, hE.obj, G.k_Editor, G.n_Editor_under_way, lk_zip fe_under_way rfl, .inl ⟨rfl, _, SqL.of hE.way⟩, _, rfl, L.pw, _, _, rfl, rfl, hE.way, hz, ?_⟩
      have h2 := way_put (k := k) hE ha
      have eo : Ue15.opened e k = { e with keys := e.keys ++ [k] } := by
        unfold Ue15.opened
        cases h : e.ahead with
        | none => exact absurd h ha
        | some x =>
          obtain ⟨⟩ := e
          cases h
          rfl
      rw [eo] at hQ
      rw [iL_app] at h2
      refine hQ _ _ h2 ?_
      show ExtN _ (vis (edM C a L) _)
      rw [vis_put pw_in]
      exact ExtN.refl _
def sp_Editor_end_command (C : Ca) : Sp := fun vs H Q _ => ∃ (a dx : Addr) (fs : List V), vs = [.ref a] ∧ H a = some (.ins C.ed dx (nEd.zip fs)) ∧ fs.length = 17 ∧
  ∀ H2 p, H p = none → H2 a = some (.ins C.ed dx (nEd.zip (((fs.set 3 (.int 0)).set 4 (.int 0)).set 15 (.ref p)))) → H2 p = some (.lst []) → (∀ b o, H b = some o → b ≠ a → H2 b = some o) → Q .non H2
theorem k_Editor_end_command (G : Gs K mg C) : C8.Met P w K mg base 1 C.ed "end_command" (sp_Editor_end_command C) [] := by
  refine met_of G.k_Editor G.d_Editor_end_command sc_Editor_end_command (fun _ _ _ _ _ _ us hl => match us, hl with | [_], _ => rfl) (fun vs H Q E h => ?_) (fun f cdv A outer s H vs Q E hr h => ?_)
  · obtain ⟨a, dx, fs, rfl, _⟩ := h; rfl
  · obtain ⟨a, dx, fs, rfl, ha, hl, hQ⟩ := h
    refine ⟨_, (pss_cons (ps_fld (pv 0) (C8.pe_gc rfl G.c_NORMAL) rfl) (pss_cons (ps_fld (pv 0) pe_int rfl) (pss_one (ps_fld (pv 0) (pe_lst pa_nil) rfl)))), ?_⟩
    refine ⟨_, rfl, a, C.ed, dx, _, rfl, ha, G.k_Editor, G.n_Editor_mode, ed_few _, ?_⟩
    rw [put_ed fe_mode (by omega)]
    refine ⟨_, rfl, a, C.ed, dx, _, rfl, upd_same, G.k_Editor, G.n_Editor_count, ed_few _, ?_⟩
    rw [put_ed fe_count (by rw [List.length_set]; omega), upd_upd]
    refine ⟨Nat.zero_le _, fun p np => ?_⟩
    have npa : p ≠ a := fun z => by
      rw [z, upd_same] at np
      cases np
    have np2 : H p = none := by
      rw [upd_ne npa] at np
      exact np
    refine ⟨_, rfl, a, C.ed, dx, _, rfl, by rw [upd_ne (Ne.symm npa), upd_same], G.k_Editor, G.n_Editor_under_way, ed_few _, ?_⟩
    rw [put_ed fe_under_way (by rw [List.length_set, List.length_set]; omega)]
    refine hQ _ p np2 upd_same ?_ fun b o hb hn => ?_
    · rw [upd_ne npa, upd_same]
    · rw [upd_ne hn, upd_ne (ne_of_none hb np2), upd_ne hn]
      exact hb
def endE (e : Ed) : Ed := { e with mode := .normal, count := 0, keys := [], ahead := none }
/-- behind end_command: the command's list is another one, new -/
theorem end_put {H H2 : Hp} {a p : Addr} {L : Lo} {e : Ed} {cq : List Nat} (hE : EdAt C H a L e cq) (np : H p = none) (h1 : H2 a = some (.ins C.ed L.dx (nEd.zip ((((edV e L).set 3 (.int 0)).set 4 (.int 0)).set 15 (.ref p))))) (h2 : H2 p = some (.lst [])) (h3 : ∀ b o, H b = some o → b ≠ a → H2 b = some o) :
    EdAt C H2 a { L with pw := p } (endE e) cq ∧ Fr2 C a L H { L with pw := p } H2 := by
  have pM := hE.fresh np
  have pne : ∀ b, b ∈ edM C a L → p ≠ b := fun b hb z => pM (by rw [z]; exact hb)
  obtain ⟨n1, n2, n3, n4, n5⟩ := hE.nes
  have fr : ExtN (vis (edM C a L) H) (vis (edM C a { L with pw := p }) H2) := vis_step fun b o hb hM hn => by
    refine ⟨h3 b o hb (fun z => hM (by rw [z]; exact a_in)), fun hm => ?_⟩
    have hm2 : b = a ∨ b = C.tP ∨ b = L.pu ∨ b = L.pr ∨ b = L.pq ∨ b = p ∨ b ∈ L.rm := by simpa [edM] using hm
    rcases hm2 with z | z | z | z | z | z | z
    · exact hM (by simp [edM, z])
    · exact hM (by simp [edM, z])
    · exact hM (by simp [edM, z])
    · exact hM (by simp [edM, z])
    · exact hM (by simp [edM, z])
    · rw [z, np] at hb
      cases hb
    · exact hM (by simp [edM, z])
  have ls : ∀ q xs, H q = some (.lst xs) → H2 q = some (.lst xs) := fun q xs hq => h3 _ _ hq (ne_of hq hE.obj (by intro z; cases z))
  refine ⟨⟨h1, ?_, ?_, hE.txt.ext fr, hE.sel.ext fr, hE.kept.ext fr, hE.pcs.ext fr, hE.srch.ext fr, (fun k w z => by cases z), ls _ _ hE.und, pr_mono (fun _ _ z => z.ext fr) hE.undP, ls _ _ hE.red, pr_mono (fun _ _ z => z.ext fr) hE.redP, hE.last.ext fr, hE.mac.ext fr, ?_, ls _ _ hE.com, h2, (fun x z => by cases z), ⟨fun _ => rfl, fun _ => rfl⟩⟩, fr⟩
  · intro q hq
    obtain ⟨ps, t1, t2, t3⟩ := hE.tb q hq
    refine ⟨ps, h3 _ _ t1 (ne_of t1 hE.obj (by intro z; cases z)), t2, fun pos cv hc => ?_⟩
    obtain ⟨c, e1, e2⟩ := t3 pos cv hc
    exact ⟨c, e1, h3 _ _ e2 (ne_of e2 hE.obj (by intro z; unfold CodeO at z; cases z))⟩
  · have n := hE.nd
    unfold edM at n ⊢
    simp only [List.nodup_cons, List.mem_cons, not_or] at n ⊢
    have q1 := pne a a_in
    have q2 := pne C.tP (by simp [edM])
    have q3 := pne L.pu pu_in
    have q4 := pne L.pr pr_in
    have q5 := pne L.pq pq_in
    have q6 : p ∉ L.rm := fun z => pM (rm_in z)
    obtain ⟨⟨a1, a2, a3, a4, a5, a6⟩, ⟨b2, b3, b4, b5, b6⟩, ⟨c3, c4, c5, c6⟩, ⟨d4, d5, d6⟩, ⟨e5, e6⟩, f6, g⟩ := n
    exact ⟨⟨a1, a2, a3, a4, Ne.symm q1, a6⟩, ⟨b2, b3, b4, Ne.symm q2, b6⟩, ⟨c3, c4, Ne.symm q3, c6⟩, ⟨d4, Ne.symm q4, d6⟩, ⟨Ne.symm q5, e6⟩, q6, g⟩
  · have r := hE.rec_
    show RecAt H2 L.rv L.rm e.recording
    cases hr : e.recording with
    | none =>
      rw [hr] at r
      exact r
    | some l =>
      rw [hr] at r
      obtain ⟨q, r1, r2, r3⟩ := r
      exact ⟨q, r1, r2, ls _ _ r3⟩
end
end Ke
end
section
set_option maxHeartbeats 4500000
namespace Ke
open PySem PySem.Spec L2 LamX PyProof.Rows
open Ue15 (Sel Told Ed)
section
variable {P : Program} {w : World} {K : PySem.W.Frag} {mg : Str → Option Value} {base : Heap} {C : Ca}
def stepE (e : Ed) (x : List Nat × List Told) : Ed := { e with mode := .normal, count := 0, keys := [], ahead := none, last := e.keys, undo := x :: e.undo, redo := [] }
theorem step_put {H H2 : Hp} {a p r pb : Addr} {L : Lo} {e : Ed} {cq : List Nat} {x : List Nat × List Told} (hE : EdAt C H a L e cq) (hx : MomAt C (vis (edM C a L) H) pb x) (np : H p = none) (nr : H r = none) (npr : p ≠ r)
    (h1 : H2 a = some (.ins C.ed L.dx (nEd.zip (((((((edV e L).set 10 (.ref r)).set 11 (.ref L.pw)).set 3 (.int 0)).set 4 (.int 0)).set 15 (.ref p)))))) (h2 : H2 p = some (.lst [])) (h4 : H2 r = some (.lst [])) (h5 : H2 L.pu = some (.lst ((pb :: L.us).reverse.map V.ref)))
    (h3 : ∀ b o, H b = some o → b ≠ a → b ≠ L.pu → H2 b = some o) :
    EdAt C H2 a { L with us := pb :: L.us, pr := r, rs := [], pl := L.pw, pw := p } (stepE e x) cq ∧ Fr2 C a L H { L with us := pb :: L.us, pr := r, rs := [], pl := L.pw, pw := p } H2 := by
  have pM := hE.fresh np
  have rM := hE.fresh nr
  have pne : ∀ b, b ∈ edM C a L → p ≠ b := fun b hb z => pM (by rw [z]; exact hb)
  have rne : ∀ b, b ∈ edM C a L → r ≠ b := fun b hb z => rM (by rw [z]; exact hb)
  obtain ⟨n1, n2, n3, n4, n5, n6, n7, n8, n9, n10, n11⟩ := hE.nes
  have fr : ExtN (vis (edM C a L) H) (vis (edM C a { L with us := pb :: L.us, pr := r, rs := [], pl := L.pw, pw := p }) H2) := vis_step fun b o hb hM hn => by
    refine ⟨h3 b o hb (fun z => hM (by rw [z]; exact a_in)) (fun z => hM (by rw [z]; exact pu_in)), fun hm => ?_⟩
    have hm2 : b = a ∨ b = C.tP ∨ b = L.pu ∨ b = r ∨ b = L.pq ∨ b = p ∨ b ∈ L.rm := by simpa [edM] using hm
    rcases hm2 with z | z | z | z | z | z | z
    · exact hM (by simp [edM, z])
    · exact hM (by simp [edM, z])
    · exact hM (by simp [edM, z])
    · rw [z, nr] at hb
      cases hb
    · exact hM (by simp [edM, z])
    · rw [z, np] at hb
      cases hb
    · exact hM (by simp [edM, z])
  have ls : ∀ q xs, H q = some (.lst xs) → q ≠ L.pu → H2 q = some (.lst xs) := fun q xs hq hn => h3 _ _ hq (ne_of hq hE.obj (by intro z; cases z)) hn
  have wM : L.pw ∉ edM C a { L with us := pb :: L.us, pr := r, rs := [], pl := L.pw, pw := p } := fun hm => by
    have hm2 : L.pw = a ∨ L.pw = C.tP ∨ L.pw = L.pu ∨ L.pw = r ∨ L.pw = L.pq ∨ L.pw = p ∨ L.pw ∈ L.rm := by simpa [edM] using hm
    rcases hm2 with z | z | z | z | z | z | z
    · exact ne_of hE.obj hE.way (by intro z; cases z) z.symm
    · obtain ⟨ps, t⟩ := hE.tb.at_
      exact ne_of t hE.way (by intro z; cases z) z.symm
    · exact n1 z
    · exact rne _ pw_in z.symm
    · exact n3 z
    · exact pne _ pw_in z.symm
    · exact n4 z
  refine ⟨⟨h1, ?_, ?_, hE.txt.ext fr, hE.sel.ext fr, hE.kept.ext fr, hE.pcs.ext fr, hE.srch.ext fr, (fun k w z => by cases z), h5, .cons (hx.ext fr) (pr_mono (fun _ _ z => z.ext fr) hE.undP), h4, .nil, vis_in (ls _ _ hE.way n1) wM, hE.mac.ext fr, ?_, ls _ _ hE.com (Ne.symm n6), h2, (fun x z => by cases z), ⟨fun _ => rfl, fun _ => rfl⟩⟩, fr⟩
  · intro q hq
    obtain ⟨ps, t1, t2, t3⟩ := hE.tb q hq
    refine ⟨ps, h3 _ _ t1 (ne_of t1 hE.obj (by intro z; cases z)) (ne_of t1 hE.und (by intro z; cases z)), t2, fun pos cv hc => ?_⟩
    obtain ⟨c, e1, e2⟩ := t3 pos cv hc
    exact ⟨c, e1, h3 _ _ e2 (ne_of e2 hE.obj (by intro z; unfold CodeO at z; cases z)) (ne_of e2 hE.und (by intro z; unfold CodeO at z; cases z))⟩
  · have n := hE.nd
    unfold edM at n ⊢
    simp only [List.nodup_cons, List.mem_cons, not_or] at n ⊢
    have q1 := pne a a_in
    have q2 := pne C.tP (by simp [edM])
    have q3 := pne L.pu pu_in
    have q5 := pne L.pq pq_in
    have q6 : p ∉ L.rm := fun z => pM (rm_in z)
    have u1 := rne a a_in
    have u2 := rne C.tP (by simp [edM])
    have u3 := rne L.pu pu_in
    have u5 := rne L.pq pq_in
    have u6 : r ∉ L.rm := fun z => rM (rm_in z)
    obtain ⟨⟨a1, a2, a3, a4, a5, a6⟩, ⟨b2, b3, b4, b5, b6⟩, ⟨c3, c4, c5, c6⟩, ⟨d4, d5, d6⟩, ⟨e5, e6⟩, f6, g⟩ := n
    exact ⟨⟨a1, a2, Ne.symm u1, a4, Ne.symm q1, a6⟩, ⟨b2, Ne.symm u2, b4, Ne.symm q2, b6⟩, ⟨Ne.symm u3, c4, Ne.symm q3, c6⟩, ⟨u5, Ne.symm npr, u6⟩, ⟨Ne.symm q5, e6⟩, q6, g⟩
  · have rr := hE.rec_
    show RecAt H2 L.rv L.rm e.recording
    cases hr : e.recording with
    | none =>
      rw [hr] at rr
      exact rr
    | some l =>
      rw [hr] at rr
      obtain ⟨q, r1, r2, r3⟩ := rr
      exact ⟨q, r1, r2, ls _ _ r3 (fun z => n7 (by rw [r2, z]; exact List.mem_singleton.mpr rfl))⟩
def sp_Editor_end_command_as_step (C : Ca) : Sp := fun vs H Q _ => ∃ (a : Addr) (L : Lo) (e : Ed) (cq : List Nat) (x : List Nat × List Told), vs = [.ref a] ∧ EdAt C H a L e cq ∧ e.ahead = some x ∧ e.undo.length ≤ 5000000 ∧
  ∀ H2 L2, EdAt C H2 a L2 (Ue15.through e) cq → Fr2 C a L H L2 H2 → Q .non H2
theorem thr_eq {e : Ed} {x : List Nat × List Told} (h : e.ahead = some x) (hx : x.1 = e.text) : Ue15.through e = endE e := by
  unfold Ue15.through endE
  rw [h]
  dsimp only
  rw [if_pos hx]
theorem thr_ne {e : Ed} {x : List Nat × List Told} (h : e.ahead = some x) (hx : ¬ x.1 = e.text) : Ue15.through e = stepE e x := by
  unfold Ue15.through stepE
  rw [h]
  dsimp only
  rw [if_neg hx]
theorem k_Editor_end_command_as_step (G : Gs K mg C) : C8.Met P w K mg base 2 C.ed "end_command_as_step" (sp_Editor_end_command_as_step C) [] := by
  have K_Editor_end_command := k_Editor_end_command (P := P) (w := w) (base := base) G
  refine met_of G.k_Editor G.d_Editor_end_command_as_step sc_Editor_end_command_as_step (fun _ _ _ _ _ _ us hl => match us, hl with | [_], _ => rfl) (fun vs H Q E h => ?_) (fun f cdv A outer s H vs Q E hr h => ?_)
  · obtain ⟨a, L, e, cq, x, rfl, _⟩ := h; rfl
  · obtain ⟨a, L, e, cq, x, rfl, hE, hx, hl, hQ⟩ := h
    refine ⟨_, (pss_cons (ps_if (pt_cmpR (op_neD hr.units) (pe_fld (pv 0) rfl) (pe_fld (pe_fld (pv 0) rfl) rfl) (nomark _)) (pss_cons (ps_expr (pe_bm PySem.F.plainAttrs_list PySem.F.slot_list_append PySem.F.type_list_append mt_append (pe_fld (pv 0) rfl) (pa_cons (pe_fld (pv 0) rfl) pa_nil))) (pss_cons (ps_fld (pv 0) (pe_lst pa_nil) rfl) (pss_one (ps_fld (pv 0) (pe_fld (pv 0) rfl) rfl)))) pss_nil) (pss_one (ps_expr (C8.pe_mt0 K_Editor_end_command hr (by decide) (pv 0))))), ?_⟩
    obtain ⟨pb, epb, hm⟩ := hE.bef x hx
    obtain ⟨db, bt, bs, hb1, hb2, hb3⟩ := id hm
    refine ⟨_, rfl, a, C.ed, L.dx, _, _, rfl, hE.obj, G.k_Editor, G.n_Editor_text, lk_zip fe_text rfl, _, rfl, a, C.ed, L.dx, _, _, rfl, hE.obj, G.k_Editor, G.n_Editor_before, lk_zip fe_before rfl, pb, C.mom, db, _, _, epb, (vis_of hb1).1, G.k_Moment, G.n_Moment_text, lk_zip fm_text rfl, ?_⟩
    refine ⟨_, _, dp_ints (hE.txt.same (vis_sub _ _)), dp_ints (hb2.same (vis_sub _ _)), shaped_ints _, shaped_ints _, _, rfl, ?_⟩
    rw [eqv_ints]
    refine dN (fun h1 => ?_) fun h1 => ?_
    · have lus := pr_len hE.undP
      rw [thr_ne hx (fun z => h1 z.symm)] at hQ
      obtain ⟨n1, n2, n3, n4, n5, n6, n7, n8, n9, n10, n11⟩ := hE.nes
      have nua : L.pu ≠ a := ne_of hE.und hE.obj (by intro z; cases z)
      refine ⟨_, rfl, a, C.ed, L.dx, _, _, rfl, hE.obj, G.k_Editor, G.n_Editor_undoable, lk_zip fe_undoable rfl, .inl ⟨rfl, _, SqL.of hE.und⟩, _, rfl, a, C.ed, L.dx, _, _, rfl, hE.obj, G.k_Editor, G.n_Editor_before, lk_zip fe_before rfl, L.pu, _, _, rfl, rfl, hE.und, szl (by rw [List.length_map, List.length_reverse]; omega), ?_⟩
      refine ⟨Nat.zero_le _, fun r nr => ?_⟩
      have nru : r ≠ L.pu := fun z => by
        rw [z, upd_same] at nr
        cases nr
      have nr2 : H r = none := by
        rw [upd_ne nru] at nr
        exact nr
      have nra : r ≠ a := fun z => by
        rw [z, hE.obj] at nr2
        cases nr2
      refine ⟨_, rfl, a, C.ed, L.dx, _, rfl, by rw [upd_ne (Ne.symm nra), upd_ne (Ne.symm nua)]; exact hE.obj, G.k_Editor, G.n_Editor_redoable, ed_few _, ?_⟩
      rw [put_ed fe_redoable (edi (by decide))]
      refine ⟨_, rfl, a, C.ed, L.dx, _, _, rfl, upd_same, G.k_Editor, G.n_Editor_under_way, lk_zip fe_under_way rfl, _, rfl, a, C.ed, L.dx, _, rfl, upd_same, G.k_Editor, G.n_Editor_last_change, ed_few _, ?_⟩
      rw [put_ed fe_last_change (by rw [List.length_set]; exact edi (by decide)), upd_upd]
      refine ⟨_, rfl, a, L.dx, _, rfl, upd_same, lk_no ne_end_command, a, L.dx, _, rfl, upd_same, rfl, fun H2 p np g1 g2 g3 => ?_⟩
      have npa : p ≠ a := fun z => by
        rw [z, upd_same] at np
        cases np
      rw [upd_ne npa] at np
      have npr : p ≠ r := fun z => by
        rw [z, upd_same] at np
        cases np
      rw [upd_ne npr] at np
      have npu : p ≠ L.pu := fun z => by
        rw [z, upd_same] at np
        cases np
      rw [upd_ne npu] at np
      have g4 : H2 r = some (.lst []) := g3 _ _ (by rw [upd_ne nra, upd_same]) nra
      have g5 : H2 L.pu = some (.lst ((pb :: L.us).reverse.map V.ref)) := g3 _ _ (by
        rw [upd_ne nua, upd_ne (Ne.symm nru), upd_same, epb]
        simp) nua
      obtain ⟨h2, f2⟩ := step_put hE hm np nr2 npr g1 g2 g4 g5 fun b o hb hn hu => g3 b o (by
        rw [upd_ne hn, upd_ne (ne_of_none hb nr2), upd_ne hu]
        exact hb) hn
      exact hQ _ _ h2 f2
    · rw [thr_eq hx h1.symm] at hQ
      refine ⟨_, rfl, a, L.dx, _, rfl, hE.obj, lk_no ne_end_command, a, L.dx, _, rfl, hE.obj, rfl, fun H2 p np g1 g2 g3 => ?_⟩
      obtain ⟨h2, f2⟩ := end_put hE np g1 g2 g3
      exact hQ _ _ h2 f2
end
end Ke
end
section
set_option maxHeartbeats 4500000
namespace Ke
open PySem PySem.Spec L2 LamX PyProof.Rows
open Ue15 (Sel Told Ed)
theorem put_grow {f : Str} {v : V} : ∀ {ns : List Str} {vs : List V}, ix? f ns = some vs.length → putF f v (ns.zip vs) = ns.zip (vs ++ [v])
  | [], _, h => by cases h
  | g :: r, [], h => by
    unfold ix? at h
    by_cases e : g = f
    · subst e
      cases r <;> rfl
    · rw [if_neg e] at h
      cases q : ix? f r with
      | none =>
        rw [q] at h
        cases h
      | some i =>
        rw [q] at h
        have : i + 1 = 0 := Option.some.inj h
        omega
  | g :: r, x :: vs, h => by
    unfold ix? at h
    by_cases e : g = f
    · rw [if_pos e] at h
      have : 0 = vs.length + 1 := Option.some.inj h
      omega
    · rw [if_neg e] at h
      obtain ⟨j, hj, e2⟩ := Option.map_eq_some_iff.mp h
      have e3 : j = vs.length := by
        have : j + 1 = vs.length + 1 := e2
        omega
      subst e3
      show (if g = f then (g, v) :: r.zip vs else (g, x) :: putF f v (r.zip vs)) = _
      rw [if_neg e, put_grow hj]
      rfl
structure Ini (C : Ca) (HB : Hp) (x dx : Addr) (Hk : Hp) (vs : List V) (news : List Addr) : Prop where
  obj : Hk x = some (.ins C.ed dx (nEd.zip vs))
  kp : ∀ b o, HB b = some o → b ≠ x → Hk b = some o
  nw : ∀ q ∈ news, Hk q = some (.lst [])
  nd : news.Nodup
  fr : ∀ q ∈ news, HB q = none ∧ q ≠ x
theorem Ini.put {C : Ca} {HB Hk : Hp} {x dx : Addr} {vs : List V} {news : List Addr} (I : Ini C HB x dx Hk vs news) (v : V) : Ini C HB x dx (upd Hk x (.ins C.ed dx (nEd.zip (vs ++ [v])))) (vs ++ [v]) news :=
  ⟨upd_same, fun b o h n => by rw [upd_ne n]; exact I.kp b o h n, fun q hq => by rw [upd_ne (I.fr q hq).2]; exact I.nw q hq, I.nd, I.fr⟩
theorem Ini.new {C : Ca} {HB Hk : Hp} {x dx p : Addr} {vs : List V} {news : List Addr} (I : Ini C HB x dx Hk vs news) (hx : ∃ o, HB x = some o) (n : Hk p = none) :
    (upd Hk p (.lst [])) x = some (.ins C.ed dx (nEd.zip vs)) ∧ Ini C HB x dx (upd (upd Hk p (.lst [])) x (.ins C.ed dx (nEd.zip (vs ++ [.ref p])))) (vs ++ [.ref p]) (p :: news) := by
  have px : p ≠ x := fun z => by
    rw [z, I.obj] at n
    cases n
  have pB : HB p = none := by
    cases h : HB p with
    | none => rfl
    | some o =>
      rw [I.kp p o h px] at n
      cases n
  refine ⟨by rw [upd_ne (Ne.symm px)]; exact I.obj, upd_same, fun b o h hb => ?_, fun q hq => ?_, ?_, fun q hq => ?_⟩
  · rw [upd_ne hb, upd_ne (ne_of_none h pB)]
    exact I.kp b o h hb
  · rcases List.mem_cons.mp hq with e | hq
    · rw [e, upd_ne px, upd_same]
    · rw [upd_ne (I.fr q hq).2, upd_ne (ne_of_none (I.nw q hq) n)]
      exact I.nw q hq
  · refine List.nodup_cons.mpr ⟨fun z => ?_, I.nd⟩
    rw [I.nw p z] at n
    cases n
  · rcases List.mem_cons.mp hq with e | hq
    · rw [e]
      exact ⟨pB, px⟩
    · exact I.fr q hq
section
variable {P : Program} {w : World} {K : PySem.W.Frag} {mg : Str → Option Value} {base : Heap} {C : Ca}
def sp_Editor_init (C : Ca) : Sp := fun vs H Q _ => ∃ (x dx p : Addr) (t : List Nat), vs = [.ref x, .ref p] ∧ H x = some (.ins C.ed dx []) ∧ TxtAt H p t ∧ Tb C H ∧
  ∀ H2 L, EdAt C H2 x L (Ue15.begin_ t) [] → (∀ b o, H b = some o → b ≠ x → (∀ ps, o ≠ .tbl ps) → H2 b = some o ∧ b ∉ edM C x L) → Q .non H2
theorem k_Editor_init (G : Gs K mg C) : C8.Mak P w K mg base 4 "Editor" C.ed (sp_Editor_init C) [] := by
  have K_Editor_now := k_Editor_now (P := P) (w := w) (base := base) G
  have K_Selections_init := k_Selections_init (P := P) (w := w) (base := base) G
  have K_caret := k_caret (P := P) (w := w) (base := base) G
  refine mak_of G.d_Editor_init sc_Editor_init (fun _ _ _ _ _ _ us hl => match us, hl with | [_, _], _ => rfl) (fun vs H Q E h => ?_) (fun f cdv A outer s H vs Q E hr h => ?_)
  · obtain ⟨x, dx, p, t, rfl, _⟩ := h; rfl
  · obtain ⟨x, dx, p, t, rfl, hx, hp, tb, hQ⟩ := h
    refine ⟨_, (pss_cons (ps_fld (pv 0) (pv 1) rfl) (pss_cons (ps_fld (pv 0) (C8.pe_mk K_Selections_init hr (by decide) rfl (pa_cons (pe_lst (pa_cons (C8.pe_c K_caret hr (by decide) rfl (pa_cons pe_int pa_nil)) pa_nil)) (pa_cons pe_int pa_nil))) rfl) (pss_cons (ps_fld (pv 0) pe_non rfl) (pss_cons (ps_fld (pv 0) (C8.pe_gc rfl G.c_NORMAL) rfl) (pss_cons (ps_fld (pv 0) pe_int rfl) (pss_cons (ps_fld (pv 0) (pe_lst pa_nil) rfl) (pss_cons (ps_fld (pv 0) (pe_lst pa_nil) rfl) (pss_cons (ps_fld (pv 0) (pe_lst pa_nil) rfl) (pss_cons (ps_fld (pv 0) pe_int rfl) (pss_cons (ps_fld (pv 0) (pe_lst pa_nil) rfl) (pss_cons (ps_fld (pv 0) (pe_lst pa_nil) rfl) (pss_cons (ps_fld (pv 0) (pe_lst pa_nil) rfl) (pss_cons (ps_fld (pv 0) (pe_lst pa_nil) rfl) (pss_cons (ps_fld (pv 0) pe_non rfl) (pss_cons (ps_fld (pv 0) (pe_lst pa_nil) rfl) (pss_cons (ps_fld (pv 0) (pe_lst pa_nil) rfl) (pss_one (ps_fld (pv 0) (C8.pe_mt0 K_Editor_now hr (by decide) (pv 0)) rfl)))))))))))))))))), ?_⟩
    have pnx : p ≠ x := ne_of hp hx (by intro z; cases z)
    refine ⟨_, rfl, _, rfl, x, C.ed, dx, _, rfl, hx, G.k_Editor, G.n_Editor_text, by show 0 < 1000; decide, ?_⟩
    have f0 : putF "text" (.ref p) ([] : List (Str × V)) = nEd.zip [.ref p] := rfl
    rw [f0]
    have tb0 : Tb C (upd H x (.ins C.ed dx (nEd.zip [.ref p]))) := tb_ins tb hx
    refine ⟨0, rfl, fun H1 s s1 ns hs => ?_⟩
    refine ⟨Nat.succ_le_succ (Nat.zero_le _), fun q nq => ?_⟩
    intro z dz nz ndz nez
    have hx1 : H1 x = some (.ins C.ed dx (nEd.zip [.ref p])) := s1 _ _ upd_same
    have s2 : Same H1 (upd H1 q (.lst [V.ref s])) := same_new nq
    refine ⟨z, dz, q, 0, rfl, upd_same, fun HB hz hk => ⟨rfl, ?_⟩⟩
    have s3 : Same (upd H1 q (.lst [V.ref s])) HB := Same.made nz ndz hk
    have sB : Same (upd H x (.ins C.ed dx (nEd.zip [.ref p]))) HB := (s1.trans s2).trans s3
    have hxB : HB x = some (.ins C.ed dx (nEd.zip [.ref p])) := sB _ _ upd_same
    have tbB : Tb C HB := tb0.same sB
    obtain ⟨tps, tpB⟩ := tbB.at_
    have qB : HB q = some (.lst [V.ref s]) := s3 _ _ upd_same
    obtain ⟨ds, hsB⟩ : SelAt C HB s ⟨0, 0⟩ := (hs.same s2).same s3
    have vS : s ∉ [x, C.tP] := by
      intro h
      rcases (List.mem_cons.mp h) with e | h
      · rw [e, hxB] at hsB
        have := Option.some.inj hsB
        rw [e, upd_same] at ns
        cases ns
      · rw [List.mem_singleton.mp h, tpB] at hsB
        cases hsB
    have vQ : q ∉ [x, C.tP] := by
      intro h
      rcases (List.mem_cons.mp h) with e | h
      · rw [e, hxB] at qB
        cases qB
      · rw [List.mem_singleton.mp h, tpB] at qB
        cases qB
    have vZ : z ∉ [x, C.tP] := by
      intro h
      rcases (List.mem_cons.mp h) with e | h
      · rw [e] at nz
        rw [s2 _ _ hx1] at nz
        cases nz
      · rw [List.mem_singleton.mp h, tpB] at hz
        cases hz
    have hSel : SelsAt C (vis [x, C.tP] HB) z [(Ue15.caret 0, true)] := ⟨[⟨0, 0⟩], 0, dz, q, vis_in hz vZ, ⟨[s], vis_in qB vQ, .cons ⟨ds, vis_in hsB vS⟩ .nil⟩, rfl, by decide⟩
    have I0 : Ini C HB x dx HB [.ref p] [] := ⟨hxB, fun b o h _ => h, fun q hq => (by cases hq), List.nodup_nil, fun q hq => (by cases hq)⟩
    have oB : ∃ o, HB x = some o := ⟨_, hxB⟩
    refine ⟨_, rfl, x, C.ed, dx, _, rfl, I0.obj, G.k_Editor, G.n_Editor_selected, ed_few _, ?_⟩
    have I1 : Ini C HB x dx (upd HB x (HO.ins C.ed dx (nEd.zip [.ref p, .ref z]))) [.ref p, .ref z] [] := I0.put (.ref z)
    rw [show putF "selected" (.ref z) (nEd.zip [.ref p]) = nEd.zip [.ref p, .ref z] from put_grow fe_selected]
    generalize hH1 : upd HB x (HO.ins C.ed dx (nEd.zip [.ref p, .ref z])) = W1 at I1 ⊢
    clear hH1
    refine ⟨_, rfl, x, C.ed, dx, _, rfl, I1.obj, G.k_Editor, G.n_Editor_kept, ed_few _, ?_⟩
    have I2 : Ini C HB x dx (upd W1 x (HO.ins C.ed dx (nEd.zip [.ref p, .ref z, .non]))) [.ref p, .ref z, .non] [] := I1.put (.non)
    rw [show putF "kept" (.non) (nEd.zip [.ref p, .ref z]) = nEd.zip [.ref p, .ref z, .non] from put_grow fe_kept]
    generalize hH2 : upd W1 x (HO.ins C.ed dx (nEd.zip [.ref p, .ref z, .non])) = W2 at I2 ⊢
    clear hH2
    refine ⟨_, rfl, x, C.ed, dx, _, rfl, I2.obj, G.k_Editor, G.n_Editor_mode, ed_few _, ?_⟩
    have I3 : Ini C HB x dx (upd W2 x (HO.ins C.ed dx (nEd.zip [.ref p, .ref z, .non, .int 0]))) [.ref p, .ref z, .non, .int 0] [] := I2.put (.int 0)
    rw [show putF "mode" (.int 0) (nEd.zip [.ref p, .ref z, .non]) = nEd.zip [.ref p, .ref z, .non, .int 0] from put_grow fe_mode]
    generalize hH3 : upd W2 x (HO.ins C.ed dx (nEd.zip [.ref p, .ref z, .non, .int 0])) = W3 at I3 ⊢
    clear hH3
    refine ⟨_, rfl, x, C.ed, dx, _, rfl, I3.obj, G.k_Editor, G.n_Editor_count, ed_few _, ?_⟩
    have I4 : Ini C HB x dx (upd W3 x (HO.ins C.ed dx (nEd.zip [.ref p, .ref z, .non, .int 0, .int 0]))) [.ref p, .ref z, .non, .int 0, .int 0] [] := I3.put (.int 0)
    rw [show putF "count" (.int 0) (nEd.zip [.ref p, .ref z, .non, .int 0]) = nEd.zip [.ref p, .ref z, .non, .int 0, .int 0] from put_grow fe_count]
    generalize hH4 : upd W3 x (HO.ins C.ed dx (nEd.zip [.ref p, .ref z, .non, .int 0, .int 0])) = W4 at I4 ⊢
    clear hH4
    refine ⟨Nat.zero_le _, fun p5 n5 => ?_⟩
    obtain ⟨o5, J5⟩ := I4.new oB n5
    have I5 : Ini C HB x dx (upd (upd W4 p5 (HO.lst [])) x (HO.ins C.ed dx (nEd.zip [.ref p, .ref z, .non, .int 0, .int 0, .ref p5]))) [.ref p, .ref z, .non, .int 0, .int 0, .ref p5] [p5] := J5
    refine ⟨_, rfl, x, C.ed, dx, _, rfl, o5, G.k_Editor, G.n_Editor_pieces, ed_few _, ?_⟩
    rw [show putF "pieces" (.ref p5) (nEd.zip [.ref p, .ref z, .non, .int 0, .int 0]) = nEd.zip [.ref p, .ref z, .non, .int 0, .int 0, .ref p5] from put_grow fe_pieces]
    generalize hH5 : upd (upd W4 p5 (HO.lst [])) x (HO.ins C.ed dx (nEd.zip [.ref p, .ref z, .non, .int 0, .int 0, .ref p5])) = W5 at I5 ⊢
    clear hH5
    refine ⟨Nat.zero_le _, fun p6 n6 => ?_⟩
    obtain ⟨o6, J6⟩ := I5.new oB n6
    have I6 : Ini C HB x dx (upd (upd W5 p6 (HO.lst [])) x (HO.ins C.ed dx (nEd.zip [.ref p, .ref z, .non, .int 0, .int 0, .ref p5, .ref p6]))) [.ref p, .ref z, .non, .int 0, .int 0, .ref p5, .ref p6] [p6, p5] := J6
    refine ⟨_, rfl, x, C.ed, dx, _, rfl, o6, G.k_Editor, G.n_Editor_searched, ed_few _, ?_⟩
    rw [show putF "searched" (.ref p6) (nEd.zip [.ref p, .ref z, .non, .int 0, .int 0, .ref p5]) = nEd.zip [.ref p, .ref z, .non, .int 0, .int 0, .ref p5, .ref p6] from put_grow fe_searched]
    generalize hH6 : upd (upd W5 p6 (HO.lst [])) x (HO.ins C.ed dx (nEd.zip [.ref p, .ref z, .non, .int 0, .int 0, .ref p5, .ref p6])) = W6 at I6 ⊢
    clear hH6
    refine ⟨Nat.zero_le _, fun p7 n7 => ?_⟩
    obtain ⟨o7, J7⟩ := I6.new oB n7
    have I7 : Ini C HB x dx (upd (upd W6 p7 (HO.lst [])) x (HO.ins C.ed dx (nEd.zip [.ref p, .ref z, .non, .int 0, .int 0, .ref p5, .ref p6, .ref p7]))) [.ref p, .ref z, .non, .int 0, .int 0, .ref p5, .ref p6, .ref p7] [p7, p6, p5] := J7
    refine ⟨_, rfl, x, C.ed, dx, _, rfl, o7, G.k_Editor, G.n_Editor_prompt, ed_few _, ?_⟩
    rw [show putF "prompt" (.ref p7) (nEd.zip [.ref p, .ref z, .non, .int 0, .int 0, .ref p5, .ref p6]) = nEd.zip [.ref p, .ref z, .non, .int 0, .int 0, .ref p5, .ref p6, .ref p7] from put_grow fe_prompt]
    generalize hH7 : upd (upd W6 p7 (HO.lst [])) x (HO.ins C.ed dx (nEd.zip [.ref p, .ref z, .non, .int 0, .int 0, .ref p5, .ref p6, .ref p7])) = W7 at I7 ⊢
    clear hH7
    refine ⟨_, rfl, x, C.ed, dx, _, rfl, I7.obj, G.k_Editor, G.n_Editor_prompt_key, ed_few _, ?_⟩
    have I8 : Ini C HB x dx (upd W7 x (HO.ins C.ed dx (nEd.zip [.ref p, .ref z, .non, .int 0, .int 0, .ref p5, .ref p6, .ref p7, .int 0]))) [.ref p, .ref z, .non, .int 0, .int 0, .ref p5, .ref p6, .ref p7, .int 0] [p7, p6, p5] := I7.put (.int 0)
    rw [show putF "prompt_key" (.int 0) (nEd.zip [.ref p, .ref z, .non, .int 0, .int 0, .ref p5, .ref p6, .ref p7]) = nEd.zip [.ref p, .ref z, .non, .int 0, .int 0, .ref p5, .ref p6, .ref p7, .int 0] from put_grow fe_prompt_key]
    generalize hH8 : upd W7 x (HO.ins C.ed dx (nEd.zip [.ref p, .ref z, .non, .int 0, .int 0, .ref p5, .ref p6, .ref p7, .int 0])) = W8 at I8 ⊢
    clear hH8
    refine ⟨Nat.zero_le _, fun p9 n9 => ?_⟩
    obtain ⟨o9, J9⟩ := I8.new oB n9
    have I9 : Ini C HB x dx (upd (upd W8 p9 (HO.lst [])) x (HO.ins C.ed dx (nEd.zip [.ref p, .ref z, .non, .int 0, .int 0, .ref p5, .ref p6, .ref p7, .int 0, .ref p9]))) [.ref p, .ref z, .non, .int 0, .int 0, .ref p5, .ref p6, .ref p7, .int 0, .ref p9] [p9, p7, p6, p5] := J9
    refine ⟨_, rfl, x, C.ed, dx, _, rfl, o9, G.k_Editor, G.n_Editor_undoable, ed_few _, ?_⟩
    rw [show putF "undoable" (.ref p9) (nEd.zip [.ref p, .ref z, .non, .int 0, .int 0, .ref p5, .ref p6, .ref p7, .int 0]) = nEd.zip [.ref p, .ref z, .non, .int 0, .int 0, .ref p5, .ref p6, .ref p7, .int 0, .ref p9] from put_grow fe_undoable]
    generalize hH9 : upd (upd W8 p9 (HO.lst [])) x (HO.ins C.ed dx (nEd.zip [.ref p, .ref z, .non, .int 0, .int 0, .ref p5, .ref p6, .ref p7, .int 0, .ref p9])) = W9 at I9 ⊢
    clear hH9
    refine ⟨Nat.zero_le _, fun p10 n10 => ?_⟩
    obtain ⟨o10, J10⟩ := I9.new oB n10
    have I10 : Ini C HB x dx (upd (upd W9 p10 (HO.lst [])) x (HO.ins C.ed dx (nEd.zip [.ref p, .ref z, .non, .int 0, .int 0, .ref p5, .ref p6, .ref p7, .int 0, .ref p9, .ref p10]))) [.ref p, .ref z, .non, .int 0, .int 0, .ref p5, .ref p6, .ref p7, .int 0, .ref p9, .ref p10] [p10, p9, p7, p6, p5] := J10
    refine ⟨_, rfl, x, C.ed, dx, _, rfl, o10, G.k_Editor, G.n_Editor_redoable, ed_few _, ?_⟩
    rw [show putF "redoable" (.ref p10) (nEd.zip [.ref p, .ref z, .non, .int 0, .int 0, .ref p5, .ref p6, .ref p7, .int 0, .ref p9]) = nEd.zip [.ref p, .ref z, .non, .int 0, .int 0, .ref p5, .ref p6, .ref p7, .int 0, .ref p9, .ref p10] from put_grow fe_redoable]
    generalize hH10 : upd (upd W9 p10 (HO.lst [])) x (HO.ins C.ed dx (nEd.zip [.ref p, .ref z, .non, .int 0, .int 0, .ref p5, .ref p6, .ref p7, .int 0, .ref p9, .ref p10])) = W10 at I10 ⊢
    clear hH10
    refine ⟨Nat.zero_le _, fun p11 n11 => ?_⟩
    obtain ⟨o11, J11⟩ := I10.new oB n11
    have I11 : Ini C HB x dx (upd (upd W10 p11 (HO.lst [])) x (HO.ins C.ed dx (nEd.zip [.ref p, .ref z, .non, .int 0, .int 0, .ref p5, .ref p6, .ref p7, .int 0, .ref p9, .ref p10, .ref p11]))) [.ref p, .ref z, .non, .int 0, .int 0, .ref p5, .ref p6, .ref p7, .int 0, .ref p9, .ref p10, .ref p11] [p11, p10, p9, p7, p6, p5] := J11
    refine ⟨_, rfl, x, C.ed, dx, _, rfl, o11, G.k_Editor, G.n_Editor_last_change, ed_few _, ?_⟩
    rw [show putF "last_change" (.ref p11) (nEd.zip [.ref p, .ref z, .non, .int 0, .int 0, .ref p5, .ref p6, .ref p7, .int 0, .ref p9, .ref p10]) = nEd.zip [.ref p, .ref z, .non, .int 0, .int 0, .ref p5, .ref p6, .ref p7, .int 0, .ref p9, .ref p10, .ref p11] from put_grow fe_last_change]
    generalize hH11 : upd (upd W10 p11 (HO.lst [])) x (HO.ins C.ed dx (nEd.zip [.ref p, .ref z, .non, .int 0, .int 0, .ref p5, .ref p6, .ref p7, .int 0, .ref p9, .ref p10, .ref p11])) = W11 at I11 ⊢
    clear hH11
    refine ⟨Nat.zero_le _, fun p12 n12 => ?_⟩
    obtain ⟨o12, J12⟩ := I11.new oB n12
    have I12 : Ini C HB x dx (upd (upd W11 p12 (HO.lst [])) x (HO.ins C.ed dx (nEd.zip [.ref p, .ref z, .non, .int 0, .int 0, .ref p5, .ref p6, .ref p7, .int 0, .ref p9, .ref p10, .ref p11, .ref p12]))) [.ref p, .ref z, .non, .int 0, .int 0, .ref p5, .ref p6, .ref p7, .int 0, .ref p9, .ref p10, .ref p11, .ref p12] [p12, p11, p10, p9, p7, p6, p5] := J12
    refine ⟨_, rfl, x, C.ed, dx, _, rfl, o12, G.k_Editor, G.n_Editor_macro, ed_few _, ?_⟩
    rw [show putF "macro" (.ref p12) (nEd.zip [.ref p, .ref z, .non, .int 0, .int 0, .ref p5, .ref p6, .ref p7, .int 0, .ref p9, .ref p10, .ref p11]) = nEd.zip [.ref p, .ref z, .non, .int 0, .int 0, .ref p5, .ref p6, .ref p7, .int 0, .ref p9, .ref p10, .ref p11, .ref p12] from put_grow fe_macro]
    generalize hH12 : upd (upd W11 p12 (HO.lst [])) x (HO.ins C.ed dx (nEd.zip [.ref p, .ref z, .non, .int 0, .int 0, .ref p5, .ref p6, .ref p7, .int 0, .ref p9, .ref p10, .ref p11, .ref p12])) = W12 at I12 ⊢
    clear hH12
    refine ⟨_, rfl, x, C.ed, dx, _, rfl, I12.obj, G.k_Editor, G.n_Editor_recorded, ed_few _, ?_⟩
    have I13 : Ini C HB x dx (upd W12 x (HO.ins C.ed dx (nEd.zip [.ref p, .ref z, .non, .int 0, .int 0, .ref p5, .ref p6, .ref p7, .int 0, .ref p9, .ref p10, .ref p11, .ref p12, .non]))) [.ref p, .ref z, .non, .int 0, .int 0, .ref p5, .ref p6, .ref p7, .int 0, .ref p9, .ref p10, .ref p11, .ref p12, .non] [p12, p11, p10, p9, p7, p6, p5] := I12.put (.non)
    rw [show putF "recorded" (.non) (nEd.zip [.ref p, .ref z, .non, .int 0, .int 0, .ref p5, .ref p6, .ref p7, .int 0, .ref p9, .ref p10, .ref p11, .ref p12]) = nEd.zip [.ref p, .ref z, .non, .int 0, .int 0, .ref p5, .ref p6, .ref p7, .int 0, .ref p9, .ref p10, .ref p11, .ref p12, .non] from put_grow fe_recorded]
    generalize hH13 : upd W12 x (HO.ins C.ed dx (nEd.zip [.ref p, .ref z, .non, .int 0, .int 0, .ref p5, .ref p6, .ref p7, .int 0, .ref p9, .ref p10, .ref p11, .ref p12, .non])) = W13 at I13 ⊢
    clear hH13
    refine ⟨Nat.zero_le _, fun p14 n14 => ?_⟩
    obtain ⟨o14, J14⟩ := I13.new oB n14
    have I14 : Ini C HB x dx (upd (upd W13 p14 (HO.lst [])) x (HO.ins C.ed dx (nEd.zip [.ref p, .ref z, .non, .int 0, .int 0, .ref p5, .ref p6, .ref p7, .int 0, .ref p9, .ref p10, .ref p11, .ref p12, .non, .ref p14]))) [.ref p, .ref z, .non, .int 0, .int 0, .ref p5, .ref p6, .ref p7, .int 0, .ref p9, .ref p10, .ref p11, .ref p12, .non, .ref p14] [p14, p12, p11, p10, p9, p7, p6, p5] := J14
    refine ⟨_, rfl, x, C.ed, dx, _, rfl, o14, G.k_Editor, G.n_Editor_coming, ed_few _, ?_⟩
    rw [show putF "coming" (.ref p14) (nEd.zip [.ref p, .ref z, .non, .int 0, .int 0, .ref p5, .ref p6, .ref p7, .int 0, .ref p9, .ref p10, .ref p11, .ref p12, .non]) = nEd.zip [.ref p, .ref z, .non, .int 0, .int 0, .ref p5, .ref p6, .ref p7, .int 0, .ref p9, .ref p10, .ref p11, .ref p12, .non, .ref p14] from put_grow fe_coming]
    generalize hH14 : upd (upd W13 p14 (HO.lst [])) x (HO.ins C.ed dx (nEd.zip [.ref p, .ref z, .non, .int 0, .int 0, .ref p5, .ref p6, .ref p7, .int 0, .ref p9, .ref p10, .ref p11, .ref p12, .non, .ref p14])) = W14 at I14 ⊢
    clear hH14
    refine ⟨Nat.zero_le _, fun p15 n15 => ?_⟩
    obtain ⟨o15, J15⟩ := I14.new oB n15
    have I15 : Ini C HB x dx (upd (upd W14 p15 (HO.lst [])) x (HO.ins C.ed dx (nEd.zip [.ref p, .ref z, .non, .int 0, .int 0, .ref p5, .ref p6, .ref p7, .int 0, .ref p9, .ref p10, .ref p11, .ref p12, .non, .ref p14, .ref p15]))) [.ref p, .ref z, .non, .int 0, .int 0, .ref p5, .ref p6, .ref p7, .int 0, .ref p9, .ref p10, .ref p11, .ref p12, .non, .ref p14, .ref p15] [p15, p14, p12, p11, p10, p9, p7, p6, p5] := J15
    refine ⟨_, rfl, x, C.ed, dx, _, rfl, o15, G.k_Editor, G.n_Editor_under_way, ed_few _, ?_⟩
    rw [show putF "under_way" (.ref p15) (nEd.zip [.ref p, .ref z, .non, .int 0, .int 0, .ref p5, .ref p6, .ref p7, .int 0, .ref p9, .ref p10, .ref p11, .ref p12, .non, .ref p14]) = nEd.zip [.ref p, .ref z, .non, .int 0, .int 0, .ref p5, .ref p6, .ref p7, .int 0, .ref p9, .ref p10, .ref p11, .ref p12, .non, .ref p14, .ref p15] from put_grow fe_under_way]
    generalize hH15 : upd (upd W14 p15 (HO.lst [])) x (HO.ins C.ed dx (nEd.zip [.ref p, .ref z, .non, .int 0, .int 0, .ref p5, .ref p6, .ref p7, .int 0, .ref p9, .ref p10, .ref p11, .ref p12, .non, .ref p14, .ref p15])) = W15 at I15 ⊢
    clear hH15
    refine ⟨_, rfl, x, dx, _, rfl, I15.obj, lk_no ne_now, x, dx, p, z, _, rfl, I15.obj, rfl, rfl, fun H16 m dm s16 nm hm => ?_⟩
    refine ⟨_, rfl, x, C.ed, dx, _, rfl, s16 _ _ I15.obj, G.k_Editor, G.n_Editor_before, ed_few _, ?_⟩
    rw [show putF "before" (.ref m) (nEd.zip [.ref p, .ref z, .non, .int 0, .int 0, .ref p5, .ref p6, .ref p7, .int 0, .ref p9, .ref p10, .ref p11, .ref p12, .non, .ref p14, .ref p15]) = nEd.zip [.ref p, .ref z, .non, .int 0, .int 0, .ref p5, .ref p6, .ref p7, .int 0, .ref p9, .ref p10, .ref p11, .ref p12, .non, .ref p14, .ref p15, .ref m] from put_grow fe_before]
    have keep : ∀ b o, W15 b = some o → b ≠ x → upd H16 x (HO.ins C.ed dx (nEd.zip [.ref p, .ref z, .non, .int 0, .int 0, .ref p5, .ref p6, .ref p7, .int 0, .ref p9, .ref p10, .ref p11, .ref p12, .non, .ref p14, .ref p15, .ref m])) b = some o := fun b o h n => by
      rw [upd_ne n]
      exact s16 _ _ h
    have obj : upd H16 x (HO.ins C.ed dx (nEd.zip [.ref p, .ref z, .non, .int 0, .int 0, .ref p5, .ref p6, .ref p7, .int 0, .ref p9, .ref p10, .ref p11, .ref p12, .non, .ref p14, .ref p15, .ref m])) x = some (HO.ins C.ed dx (nEd.zip [.ref p, .ref z, .non, .int 0, .int 0, .ref p5, .ref p6, .ref p7, .int 0, .ref p9, .ref p10, .ref p11, .ref p12, .non, .ref p14, .ref p15, .ref m])) := upd_same
    generalize upd H16 x (HO.ins C.ed dx (nEd.zip [.ref p, .ref z, .non, .int 0, .int 0, .ref p5, .ref p6, .ref p7, .int 0, .ref p9, .ref p10, .ref p11, .ref p12, .non, .ref p14, .ref p15, .ref m])) = H17 at keep obj ⊢
    have tx : C.tP ≠ x := ne_of tpB hxB (by intro z; cases z)
    have nw : ∀ q ∈ [p15, p14, p12, p11, p10, p9, p7, p6, p5], H17 q = some (.lst []) ∧ q ≠ x ∧ q ≠ C.tP ∧ HB q = none := fun q hq => ⟨keep _ _ (I15.nw q hq) (I15.fr q hq).2, (I15.fr q hq).2, (fun e => by
      have h1 := (I15.fr q hq).1
      rw [e, tpB] at h1
      cases h1), (I15.fr q hq).1⟩
    have nd := I15.nd
    simp only [List.nodup_cons, List.mem_cons, not_or, List.not_mem_nil, not_false_eq_true, List.nodup_nil, and_true] at nd
    obtain ⟨⟨a1, a2, a3, a4, a5, a6, a7, a8⟩, ⟨b2, b3, b4, b5, b6, b7, b8⟩, ⟨c3, c4, c5, c6, c7, c8⟩, ⟨d4, d5, d6, d7, d8⟩, ⟨e5, e6, e7, e8⟩, ⟨g6, g7, g8⟩, ⟨h7, h8⟩, i8⟩ := nd
    let L : Lo := ⟨dx, p, z, .non, p5, p6, .ref p7, .int 0, p9, p10, p11, p12, .non, p14, p15, .ref m, [], [], []⟩
    have eM : edM C x L = [x, C.tP, p9, p10, p14, p15] := rfl
    have fr : ExtN (vis [x, C.tP] HB) (vis (edM C x L) H17) := vis_step fun b o hb hM hn => by
      have hbx : b ≠ x := fun e => hM (by simp [e])
      refine ⟨keep _ _ (I15.kp b o hb hbx) hbx, fun hm => ?_⟩
      rw [eM] at hm
      simp only [List.mem_cons, List.not_mem_nil, or_false] at hm hM
      rcases hm with e | e | e | e | e | e
      · exact hbx e
      · exact hM (.inr e)
      · rw [e, (nw p9 (by simp)).2.2.2] at hb
        cases hb
      · rw [e, (nw p10 (by simp)).2.2.2] at hb
        cases hb
      · rw [e, (nw p14 (by simp)).2.2.2] at hb
        cases hb
      · rw [e, (nw p15 (by simp)).2.2.2] at hb
        cases hb
    have new : ∀ q, q ∈ [p15, p14, p12, p11, p10, p9, p7, p6, p5] → q ≠ p9 → q ≠ p10 → q ≠ p14 → q ≠ p15 → vis (edM C x L) H17 q = some (.lst []) := fun q hq q1 q2 q3 q4 => by
      obtain ⟨w1, w2, w3, w4⟩ := nw q hq
      refine vis_in w1 fun hm => ?_
      rw [eM] at hm
      simp only [or_false, List.mem_cons, List.not_mem_nil] at hm
      rcases hm with e | e | e | e | e | e
      · exact w2 e
      · exact w3 e
      · exact q1 e
      · exact q2 e
      · exact q3 e
      · exact q4 e
    have pB : HB p = some (.lst (iL t)) := sB _ _ (by rw [upd_ne pnx]; exact hp)
    have ptP : p ≠ C.tP := ne_of pB tpB (by intro z; cases z)
    refine hQ H17 L ⟨obj, ?_, ?_, TxtAt.ext (H := vis [x, C.tP] HB) (p := p) (vis_in pB (by simp [pnx, ptP])) fr, hSel.ext fr, rfl, ⟨[], new p5 (by simp) (Ne.symm g8) (Ne.symm e8) (Ne.symm b8) (Ne.symm a8), .nil⟩, new p6 (by simp) (Ne.symm g7) (Ne.symm e7) (Ne.symm b7) (Ne.symm a7), (fun k w e => by cases e), (nw p9 (by simp)).1, .nil, (nw p10 (by simp)).1, .nil, new p11 (by simp) d5 d4 (Ne.symm b3) (Ne.symm a3), new p12 (by simp) c5 c4 (Ne.symm b2) (Ne.symm a2), ⟨rfl, rfl⟩, (nw p14 (by simp)).1, (nw p15 (by simp)).1, (fun x e => by cases e), ⟨fun _ => rfl, fun _ => rfl⟩⟩ fun b o hb hbx hn => ?_
    · intro q hq
      obtain ⟨ps, t1, t2, t3⟩ := tbB q hq
      refine ⟨ps, keep _ _ (I15.kp _ _ t1 (ne_of t1 hxB (by intro z; cases z))) (ne_of t1 hxB (by intro z; cases z)), t2, fun pos cv hc => ?_⟩
      obtain ⟨c, e1, e2⟩ := t3 pos cv hc
      have ne := ne_of e2 hxB (by intro z; unfold CodeO at z; cases z)
      exact ⟨c, e1, keep _ _ (I15.kp _ _ e2 ne) ne⟩
    · rw [eM]
      have w9 := nw p9 (by simp)
      have w10 := nw p10 (by simp)
      have w14 := nw p14 (by simp)
      have w15 := nw p15 (by simp)
      simp only [List.nodup_cons, List.mem_cons, not_or, List.not_mem_nil, not_false_eq_true, List.nodup_nil, and_true]
      exact ⟨⟨Ne.symm tx, Ne.symm w9.2.1, Ne.symm w10.2.1, Ne.symm w14.2.1, Ne.symm w15.2.1⟩, ⟨Ne.symm w9.2.2.1, Ne.symm w10.2.2.1, Ne.symm w14.2.2.1, Ne.symm w15.2.2.1⟩, ⟨Ne.symm e5, Ne.symm b5, Ne.symm a5⟩, ⟨Ne.symm b4, Ne.symm a4⟩, Ne.symm a1⟩
    · have hB : HB b = some o := sB _ _ (by rw [upd_ne hbx]; exact hb)
      have bt : b ≠ C.tP := fun e => by
        rw [e, tpB] at hB
        exact hn _ (Option.some.inj hB).symm
      exact vis_of (fr b o (vis_in hB (by simp [hbx, bt])) hn)
end
end Ke
end
section
set_option maxHeartbeats 4500000
namespace Ke
open PySem PySem.Spec L2 LamX PyProof.Rows
open Ue15 (Sel Told Ed)
/-! ### a held def of some level not beyond -/
def HeldM (P : Program) (w : World) (K : PySem.W.Frag) (mg : Str → Option Value) (base : Heap) (k : Nat) (f : Addr) (sp : Sp) : Prop := ∃ j, j ≤ k ∧ Held P w K mg base j f sp
theorem pe_callM {X : Cx} {k i : Nat} {x : Str} {p pos : Pos} {e : Expr} {es : List Expr} {t : TA} (hr : Room k X.A) (hN : X.N[i]? = some x) (hv : Vis X.env.scope x) (ha : PA X (e :: es) t)
    (hdb : ((x == ("__debug__" : Str)) = false) := by decide) (hcd : ((x == ("__classdict__" : Str)) = false) := by decide)
    (he : (starEach (e :: es) X.env = (false, eval e X.env) :: starEach es X.env) := by rfl) (hpl : ((backTo pos (starEach es X.env)).any (·.1) = false) := by rfl) :
    PE X (.Call (.Name x p) (e :: es) [] pos) (tCallH (HeldM X.prog X.w X.K X.mg X.base k) i t) := by
  refine (⟨fun pins s σ H Q I h => ?_⟩)
  obtain ⟨f, sp, h1, ⟨j, hj, h2⟩, h3⟩ := h
  exact (pe_callH (hr.mono hj) hN hv ha hdb hcd he hpl).run pins s σ H Q I ⟨f, sp, h1, h2, h3⟩
/-! ### runs of bytes -/
def onW (f : Nat → Bool) (t : List Nat) (p : Nat) : Nat := p + ((t.drop p).takeWhile f).length
def backW (f : Nat → Bool) (t : List Nat) (p : Nat) : Nat := p - ((t.take p).reverse.takeWhile f).length
theorem on_end {f : Nat → Bool} {t : List Nat} {p : Nat} (h : t.length ≤ p) : onW f t p = p := by
  unfold onW
  rw [List.drop_eq_nil_of_le h]
  rfl
theorem on_go {f : Nat → Bool} {t : List Nat} {p b : Nat} (h : t[p]? = some b) (hb : f b = true) : onW f t p = onW f t (p + 1) := by
  unfold onW
  rw [drop_at h, List.takeWhile_cons_of_pos hb, List.length_cons]
  omega
theorem on_no {f : Nat → Bool} {t : List Nat} {p b : Nat} (h : t[p]? = some b) (hb : f b = false) : onW f t p = p := by
  unfold onW
  rw [drop_at h, List.takeWhile_cons_of_neg (by rw [hb]; exact Bool.false_ne_true)]
  rfl
theorem back_zero {f : Nat → Bool} {t : List Nat} : backW f t 0 = 0 := Nat.zero_sub _
theorem back_go {f : Nat → Bool} {t : List Nat} {p b : Nat} (h : t[p]? = some b) (hb : f b = true) : backW f t (p + 1) = backW f t p := by
  unfold backW
  rw [take_succ_rev h, List.takeWhile_cons_of_pos hb, List.length_cons]
  omega
theorem back_no {f : Nat → Bool} {t : List Nat} {p b : Nat} (h : t[p]? = some b) (hb : f b = false) : backW f t (p + 1) = p + 1 := by
  unfold backW
  rw [take_succ_rev h, List.takeWhile_cons_of_neg (by rw [hb]; exact Bool.false_ne_true)]
  rfl
theorem on_le {f : Nat → Bool} {t : List Nat} {p : Nat} (h : p ≤ t.length) : onW f t p ≤ t.length := by
  unfold onW
  have h1 := (List.takeWhile_prefix f (l := t.drop p)).length_le
  rw [List.length_drop] at h1
  omega
theorem back_le {f : Nat → Bool} {t : List Nat} {p : Nat} : backW f t p ≤ p := Nat.sub_le _ _
theorem lEnd_on (t : List Nat) (p : Nat) : Ue15.lineEnd t p = onW (fun b => b != 10) t p := rfl
theorem lSt_back (t : List Nat) (p : Nat) : Ue15.lineStart t p = backW (fun b => b != 10) t p := rfl
theorem on_at {f : Nat → Bool} {t : List Nat} {p : Nat} (hp : p ≤ t.length) (hn : onW f t p ≠ t.length) : onW f t p < t.length := Nat.lt_of_le_of_ne (on_le hp) hn
theorem step_le {t : List Nat} {k p : Nat} (h : p ≤ t.length) : Ue15.stepOf t k p ≤ t.length := by
  have b1 : ∀ q, Ue15.lineStart t q ≤ q := fun q => back_le
  have b2 : ∀ q, q ≤ t.length → Ue15.lineEnd t q ≤ t.length := fun q hq => on_le hq
  unfold Ue15.stepOf
  dsimp only
  split
  · omega
  split
  · omega
  split
  · split
    · omega
    · have := b2 p h
      have := b2 (Ue15.lineEnd t p + 1) (by omega)
      omega
  split
  · split
    · omega
    · have := b1 p
      omega
  split
  · exact on_le (f := fun b => !Ue15.isWord b) (p := onW Ue15.isWord t p) (on_le h)
  · exact Nat.le_trans (back_le (f := Ue15.isWord) (p := backW (fun b => !Ue15.isWord b) t p)) (Nat.le_trans back_le h)
theorem steps_le {t : List Nat} {k : Nat} : ∀ {n p : Nat}, p ≤ t.length → Ue15.stepsOf t k n p ≤ t.length
  | 0, _, h => h
  | n + 1, _, h => steps_le (n := n) (step_le h)
theorem steps_succ {t : List Nat} {k : Nat} : ∀ {n p : Nat}, Ue15.stepsOf t k (n + 1) p = Ue15.stepOf t k (Ue15.stepsOf t k n p)
  | 0, _ => rfl
  | n + 1, p => steps_succ (n := n) (p := Ue15.stepOf t k p)
section
variable {P : Program} {w : World} {K : PySem.W.Frag} {mg : Str → Option Value} {base : Heap} {C : Ca}
def spStep (k : Nat) : Sp := fun vs H Q _ => ∃ (p : Addr) (t : List Nat) (i : Nat), vs = [.ref p, .int i] ∧ TxtAt H p t ∧ i ≤ t.length ∧ Q (.int (Ue15.stepOf t k i : Nat)) H
theorem k_step_left (G : Gs K mg C) : C8.Cal P w K mg base 1 "step_left" (spStep 104) [] := by
  refine cal_of G.d_step_left sc_step_left (fun _ _ _ _ _ _ us hl => match us, hl with | [_, _], _ => rfl) (fun vs H Q E h => ?_) (fun f cdv A outer s H vs Q E hr h => ?_)
  · obtain ⟨p, t, i, rfl, _⟩ := h; rfl
  · obtain ⟨p, t, i, rfl, hp, hi, hQ⟩ := h
    refine ⟨_, (pss_one (ps_ret (pe_callB (call_max2 rfl) (by rfl) G.b_max (by decide +kernel) (pa_cons (pe_op op_sub (pv 1) pe_int) (pa_cons pe_int pa_nil))))), ?_⟩
    refine ⟨_, rfl, _, _, rfl, rfl, _, _, rfl, ?_⟩
    have e : (if (0 : Int) > ((i : Nat) : Int) - 1 then (0 : Int) else ((i : Nat) : Int) - 1) = ((Ue15.stepOf t 104 i : Nat) : Int) := by
      have : Ue15.stepOf t 104 i = i - 1 := rfl
      split <;> omega
    exact e ▸ hQ
theorem k_step_right (G : Gs K mg C) : C8.Cal P w K mg base 1 "step_right" (spStep 108) [] := by
  refine cal_of G.d_step_right sc_step_right (fun _ _ _ _ _ _ us hl => match us, hl with | [_, _], _ => rfl) (fun vs H Q E h => ?_) (fun f cdv A outer s H vs Q E hr h => ?_)
  · obtain ⟨p, t, i, rfl, _⟩ := h; rfl
  · obtain ⟨p, t, i, rfl, hp, hi, hQ⟩ := h
    refine ⟨_, (pss_one (ps_ret (pe_callB (call_min2 rfl) (by rfl) G.b_min (by decide +kernel) (pa_cons (pe_op op_add (pv 1) pe_int) (pa_cons (pe_callB call_len_seq (by rfl) G.b_len PySem.boot_len (pa_cons (pv 0) pa_nil)) pa_nil))))), ?_⟩
    refine ⟨_, rfl, _, _, rfl, rfl, _, rfl, _, _, rfl, .inl (SqL.of hp), _, _, rfl, ?_⟩
    have e : (if ((iL t).length : Int) < ((i : Nat) : Int) + 1 then ((iL t).length : Int) else ((i : Nat) : Int) + 1) = ((Ue15.stepOf t 108 i : Nat) : Int) := by
      have : Ue15.stepOf t 108 i = min t.length (i + 1) := rfl
      rw [iL_len]
      split <;> omega
    exact e ▸ hQ
theorem k_step_down (G : Gs K mg C) : C8.Cal P w K mg base 2 "step_down" (spStep 106) [] := by
  have K_line_begin := k_line_begin (P := P) (w := w) (base := base) G
  have K_line_end := k_line_end (P := P) (w := w) (base := base) G
  refine cal_of G.d_step_down sc_step_down (fun _ _ _ _ _ _ us hl => match us, hl with | [_, _], _ => rfl) (fun vs H Q E h => ?_) (fun f cdv A outer s H vs Q E hr h => ?_)
  · obtain ⟨p, t, i, rfl, _⟩ := h; rfl
  · obtain ⟨p, t, i, rfl, hp, hi, hQ⟩ := h
    refine ⟨_, (pss_cons (ps_set (i := 2) sc_step_down.nd rfl (Or.inl rfl) (C8.pe_c K_line_end hr (by decide) rfl (pa_cons (pv 0) (pa_cons (pv 1) pa_nil)))) (pss_cons (ps_if (pt_cmpR op_eq (pv 2) (pe_callB call_len_seq (by rfl) G.b_len PySem.boot_len (pa_cons (pv 0) pa_nil)) (nomark _)) (pss_one (ps_ret (pv 2))) pss_nil) (pss_cons (ps_set (i := 3) sc_step_down.nd rfl (Or.inl rfl) (pe_op op_sub (pv 1) (C8.pe_c K_line_begin hr (by decide) rfl (pa_cons (pv 0) (pa_cons (pv 1) pa_nil))))) (pss_one (ps_ret (pe_callB (call_min2 rfl) (by rfl) G.b_min (by decide +kernel) (pa_cons (pe_op op_add (pe_op op_add (pv 2) pe_int) (pv 3)) (pa_cons (C8.pe_c K_line_end hr (by decide) rfl (pa_cons (pv 0) (pa_cons (pe_op op_add (pv 2) pe_int) pa_nil))) pa_nil)))))))), ?_⟩
    have es : Ue15.stepOf t 106 i = if Ue15.lineEnd t i = t.length then t.length else min (Ue15.lineEnd t i + 1 + (i - Ue15.lineStart t i)) (Ue15.lineEnd t (Ue15.lineEnd t i + 1)) := rfl
    have b1 : Ue15.lineStart t i ≤ i := back_le
    refine ⟨_, rfl, _, rfl, p, t, i, rfl, hp, hi, ?_⟩
    refine ⟨_, rfl, _, rfl, _, _, rfl, .inl (SqL.of hp), rfl, _, rfl, ?_⟩
    rw [iL_len]
    refine dI (fun h1 => ?_) fun h1 => ?_
    · refine ⟨_, rfl, ?_⟩
      have h2 := int_eq h1
      rw [es, if_pos h2] at hQ
      rw [h2]
      exact hQ
    · have h2 := int_ne h1
      have h3 : Ue15.lineEnd t i < t.length := on_at hi h2
      rw [es, if_neg h2] at hQ
      refine ⟨_, rfl, _, rfl, _, rfl, p, t, i, rfl, hp, hi, _, _, rfl, rfl, ?_⟩
      refine ⟨_, rfl, _, _, rfl, rfl, _, rfl, _, _, rfl, rfl, _, rfl, _, rfl, _, _, rfl, rfl, p, t, Ue15.lineEnd t i + 1, rfl, hp, h3, _, _, rfl, ?_⟩
      have e : (if ((Ue15.lineEnd t (Ue15.lineEnd t i + 1) : Nat) : Int) < ((Ue15.lineEnd t i : Nat) : Int) + 1 + (((i : Nat) : Int) - ((Ue15.lineStart t i : Nat) : Int)) then ((Ue15.lineEnd t (Ue15.lineEnd t i + 1) : Nat) : Int) else ((Ue15.lineEnd t i : Nat) : Int) + 1 + (((i : Nat) : Int) - ((Ue15.lineStart t i : Nat) : Int))) = ((min (Ue15.lineEnd t i + 1 + (i - Ue15.lineStart t i)) (Ue15.lineEnd t (Ue15.lineEnd t i + 1)) : Nat) : Int) := by
        split <;> omega
      exact e ▸ hQ
theorem k_step_up (G : Gs K mg C) : C8.Cal P w K mg base 2 "step_up" (spStep 107) [] := by
  have K_line_begin := k_line_begin (P := P) (w := w) (base := base) G
  refine cal_of G.d_step_up sc_step_up (fun _ _ _ _ _ _ us hl => match us, hl with | [_, _], _ => rfl) (fun vs H Q E h => ?_) (fun f cdv A outer s H vs Q E hr h => ?_)
  · obtain ⟨p, t, i, rfl, _⟩ := h; rfl
  · obtain ⟨p, t, i, rfl, hp, hi, hQ⟩ := h
    refine ⟨_, (pss_cons (ps_set (i := 2) sc_step_up.nd rfl (Or.inl rfl) (C8.pe_c K_line_begin hr (by decide) rfl (pa_cons (pv 0) (pa_cons (pv 1) pa_nil)))) (pss_cons (ps_if (pt_cmpR op_eq (pv 2) pe_int (nomark _)) (pss_one (ps_ret pe_int)) pss_nil) (pss_one (ps_ret (pe_callB (call_min2 rfl) (by rfl) G.b_min (by decide +kernel) (pa_cons (pe_op op_sub (pe_op op_add (C8.pe_c K_line_begin hr (by decide) rfl (pa_cons (pv 0) (pa_cons (pe_op op_sub (pv 2) pe_int) pa_nil))) (pv 1)) (pv 2)) (pa_cons (pe_op op_sub (pv 2) pe_int) pa_nil))))))), ?_⟩
    have es : Ue15.stepOf t 107 i = if Ue15.lineStart t i = 0 then 0 else min (Ue15.lineStart t (Ue15.lineStart t i - 1) + (i - Ue15.lineStart t i)) (Ue15.lineStart t i - 1) := rfl
    have b1 : Ue15.lineStart t i ≤ i := back_le
    refine ⟨_, rfl, _, rfl, p, t, i, rfl, hp, hi, ?_⟩
    refine ⟨_, rfl, rfl, _, rfl, dI (fun h1 => ?_) fun h1 => ?_⟩
    · have h2 : Ue15.lineStart t i = 0 := int_eq h1
      rw [es, if_pos h2] at hQ
      exact hQ
    · have h2 : Ue15.lineStart t i ≠ 0 := int_ne h1
      rw [es, if_neg h2] at hQ
      have e1 : ((Ue15.lineStart t i : Nat) : Int) - 1 = ((Ue15.lineStart t i - 1 : Nat) : Int) := by omega
      refine ⟨_, rfl, _, rfl, _, _, rfl, rfl, p, t, Ue15.lineStart t i - 1, by dsimp only; rw [e1]; rfl, hp, by omega, _, rfl, _, _, rfl, rfl, _, rfl, _, _, rfl, rfl, _, rfl, _, _, rfl, rfl, _, _, rfl, ?_⟩
      have e : (if ((Ue15.lineStart t i : Nat) : Int) - 1 < ((Ue15.lineStart t (Ue15.lineStart t i - 1) : Nat) : Int) + ((i : Nat) : Int) - ((Ue15.lineStart t i : Nat) : Int) then ((Ue15.lineStart t i : Nat) : Int) - 1 else ((Ue15.lineStart t (Ue15.lineStart t i - 1) : Nat) : Int) + ((i : Nat) : Int) - ((Ue15.lineStart t i : Nat) : Int)) = ((min (Ue15.lineStart t (Ue15.lineStart t i - 1) + (i - Ue15.lineStart t i)) (Ue15.lineStart t i - 1) : Nat) : Int) := by
        split <;> omega
      exact e ▸ hQ
end
end Ke
end
section
set_option maxHeartbeats 4500000
namespace Ke
open PySem PySem.Spec L2 LamX PyProof.Rows
open Ue15 (Sel Told Ed)
theorem nI {b : Bool} {A B : Prop} (h1 : b = false → A) (h2 : b = true → B) : if (!b) = true then A else B := by
  cases b
  · exact h1 rfl
  · exact h2 rfl
section
variable {P : Program} {w : World} {K : PySem.W.Frag} {mg : Str → Option Value} {base : Heap} {C : Ca}
theorem k_step_word_on (G : Gs K mg C) : C8.Cal P w K mg base 3 "step_word_on" (spStep 119) [] := by
  have K_is_word_byte := k_is_word_byte (P := P) (w := w) (base := base) G
  refine cal_of G.d_step_word_on sc_step_word_on (fun _ _ _ _ _ _ us hl => match us, hl with | [_, _], _ => rfl) (fun vs H Q E h => ?_) (fun f cdv A outer s H vs Q E hr h => ?_)
  · obtain ⟨p, t, i, rfl, _⟩ := h; rfl
  · obtain ⟨p, t, i, rfl, hp, hi, hQ⟩ := h
    refine ⟨_, (pss_cons (ps_while PassesOwn.never (PW.pt (pw_and (pt_cmpR op_lt (pv 1) (pe_callB call_len_seq (by rfl) G.b_len PySem.boot_len (pa_cons (pv 0) pa_nil)) (nomark _)) (pw_and1 (pt_val (C8.pe_c K_is_word_byte hr (by decide) rfl (pa_cons (pe_ix ix_list (pv 0) (pv 1) (fun _ _ => rfl)) pa_nil)))))) (pss_one (ps_aug (i := 1) sc_step_word_on.nd rfl (Or.inl rfl) pe_int ip_add))) (pss_cons (ps_while PassesOwn.never (PW.pt (pw_and (pt_cmpR op_lt (pv 1) (pe_callB call_len_seq (by rfl) G.b_len PySem.boot_len (pa_cons (pv 0) pa_nil)) (nomark _)) (pw_and1 (pt_not (pt_val (C8.pe_c K_is_word_byte hr (by decide) rfl (pa_cons (pe_ix ix_list (pv 0) (pv 1) (fun _ _ => rfl)) pa_nil))))))) (pss_one (ps_aug (i := 1) sc_step_word_on.nd rfl (Or.inl rfl) pe_int ip_add))) (pss_one (ps_ret (pv 1))))), ?_⟩
    have es : Ue15.stepOf t 119 i = onW (fun b => !Ue15.isWord b) t (onW Ue15.isWord t i) := rfl
    refine ⟨fun m σ H2 => H2 = H ∧ ∃ j : Nat, j + m = t.length ∧ σ = [some (.ref p), some (.int (j : Nat))] ∧ onW Ue15.isWord t j = onW Ue15.isWord t i, ⟨t.length - i, rfl, i, by omega, rfl, rfl⟩, ?_⟩
    rintro m σ H2 ⟨rfl, j, hj, rfl, em⟩
    refine ⟨_, rfl, _, rfl, _, _, rfl, .inl (SqL.of hp), _, _, rfl, rfl, _, rfl, dI (fun h0 => ?_) fun h0 => ?_⟩
    · rw [iL_len] at h0
      have hlt : j < t.length := by omega
      obtain ⟨b, hb⟩ : ∃ b, t[j]? = some b := ⟨_, List.getElem?_eq_getElem hlt⟩
      refine ⟨_, rfl, _, rfl, p, _, _, _, rfl, rfl, SqL.of hp, atN hb, b, rfl, _, rfl, bI (fun h1 => ?_) fun h1 => ?_⟩
      · refine ⟨fun σ3 H3 => H3 = H2 ∧ σ3 = [some (.ref p), some (.int ((j + 1 : Nat) : Int))], fun σ3 H3 ⟨e1, e2⟩ => ⟨m - 1, by omega, e1, j + 1, by omega, e2, ?_⟩, ?_⟩
        · rw [← em, ← on_go hb h1]
        · exact ⟨_, rfl, _, _, rfl, rfl, rfl, rfl⟩
      · have key : onW Ue15.isWord t i = j := by rw [← em, on_no hb h1]
        refine ⟨fun m σ H9 => H9 = H2 ∧ ∃ j : Nat, j + m = t.length ∧ σ = [some (.ref p), some (.int (j : Nat))] ∧ onW (fun b => !Ue15.isWord b) t j = onW (fun b => !Ue15.isWord b) t (onW Ue15.isWord t i), ⟨t.length - j, rfl, j, by omega, rfl, by rw [key]⟩, ?_⟩
        rintro m2 σ H2 ⟨rfl, j, hj, rfl, em⟩
        refine ⟨_, rfl, _, rfl, _, _, rfl, .inl (SqL.of hp), _, _, rfl, rfl, _, rfl, dI (fun h0 => ?_) fun h0 => ?_⟩
        · rw [iL_len] at h0
          have hlt : j < t.length := by omega
          obtain ⟨b, hb⟩ : ∃ b, t[j]? = some b := ⟨_, List.getElem?_eq_getElem hlt⟩
          refine ⟨_, rfl, _, rfl, p, _, _, _, rfl, rfl, SqL.of hp, atN hb, b, rfl, _, rfl, nI (fun h1 => ?_) fun h1 => ?_⟩
          · refine ⟨fun σ3 H3 => H3 = H2 ∧ σ3 = [some (.ref p), some (.int ((j + 1 : Nat) : Int))], fun σ3 H3 ⟨e1, e2⟩ => ⟨m2 - 1, by omega, e1, j + 1, by omega, e2, ?_⟩, ?_⟩
            · rw [← em, ← on_go (f := fun b => !Ue15.isWord b) hb (by show (!Ue15.isWord b) = _; rw [h1]; rfl)]
            · exact ⟨_, rfl, _, _, rfl, rfl, rfl, rfl⟩
          · refine ⟨_, rfl, ?_⟩
            rw [es, ← em, on_no (f := fun b => !Ue15.isWord b) hb (by show (!Ue15.isWord b) = _; rw [h1]; rfl)] at hQ
            exact hQ
        · rw [iL_len] at h0
          refine ⟨_, rfl, ?_⟩
          rw [es, ← em, on_end (by omega)] at hQ
          exact hQ
    · rw [iL_len] at h0
      have key : onW Ue15.isWord t i = j := by rw [← em, on_end (by omega)]
      refine ⟨fun m σ H9 => H9 = H2 ∧ ∃ j : Nat, j + m = t.length ∧ σ = [some (.ref p), some (.int (j : Nat))] ∧ onW (fun b => !Ue15.isWord b) t j = onW (fun b => !Ue15.isWord b) t (onW Ue15.isWord t i), ⟨t.length - j, rfl, j, by omega, rfl, by rw [key]⟩, ?_⟩
      rintro m2 σ H2 ⟨rfl, j, hj, rfl, em⟩
      refine ⟨_, rfl, _, rfl, _, _, rfl, .inl (SqL.of hp), _, _, rfl, rfl, _, rfl, dI (fun h0 => ?_) fun h0 => ?_⟩
      · rw [iL_len] at h0
        have hlt : j < t.length := by omega
        obtain ⟨b, hb⟩ : ∃ b, t[j]? = some b := ⟨_, List.getElem?_eq_getElem hlt⟩
        refine ⟨_, rfl, _, rfl, p, _, _, _, rfl, rfl, SqL.of hp, atN hb, b, rfl, _, rfl, nI (fun h1 => ?_) fun h1 => ?_⟩
        · refine ⟨fun σ3 H3 => H3 = H2 ∧ σ3 = [some (.ref p), some (.int ((j + 1 : Nat) : Int))], fun σ3 H3 ⟨e1, e2⟩ => ⟨m2 - 1, by omega, e1, j + 1, by omega, e2, ?_⟩, ?_⟩
          · rw [← em, ← on_go (f := fun b => !Ue15.isWord b) hb (by show (!Ue15.isWord b) = _; rw [h1]; rfl)]
          · exact ⟨_, rfl, _, _, rfl, rfl, rfl, rfl⟩
        · refine ⟨_, rfl, ?_⟩
          rw [es, ← em, on_no (f := fun b => !Ue15.isWord b) hb (by show (!Ue15.isWord b) = _; rw [h1]; rfl)] at hQ
          exact hQ
      · rw [iL_len] at h0
        refine ⟨_, rfl, ?_⟩
        rw [es, ← em, on_end (by omega)] at hQ
        exact hQ
theorem k_step_word_back (G : Gs K mg C) : C8.Cal P w K mg base 3 "step_word_back" (spStep 98) [] := by
  have K_is_word_byte := k_is_word_byte (P := P) (w := w) (base := base) G
  refine cal_of G.d_step_word_back sc_step_word_back (fun _ _ _ _ _ _ us hl => match us, hl with | [_, _], _ => rfl) (fun vs H Q E h => ?_) (fun f cdv A outer s H vs Q E hr h => ?_)
  · obtain ⟨p, t, i, rfl, _⟩ := h; rfl
  · obtain ⟨p, t, i, rfl, hp, hi, hQ⟩ := h
    refine ⟨_, (pss_cons (ps_while PassesOwn.never (PW.pt (pw_and (pt_cmpR op_gt (pv 1) pe_int (nomark _)) (pw_and1 (pt_not (pt_val (C8.pe_c K_is_word_byte hr (by decide) rfl (pa_cons (pe_ix ix_list (pv 0) (pe_op op_sub (pv 1) pe_int) (fun _ _ => rfl)) pa_nil))))))) (pss_one (ps_aug (i := 1) sc_step_word_back.nd rfl (Or.inl rfl) pe_int ip_sub))) (pss_cons (ps_while PassesOwn.never (PW.pt (pw_and (pt_cmpR op_gt (pv 1) pe_int (nomark _)) (pw_and1 (pt_val (C8.pe_c K_is_word_byte hr (by decide) rfl (pa_cons (pe_ix ix_list (pv 0) (pe_op op_sub (pv 1) pe_int) (fun _ _ => rfl)) pa_nil)))))) (pss_one (ps_aug (i := 1) sc_step_word_back.nd rfl (Or.inl rfl) pe_int ip_sub))) (pss_one (ps_ret (pv 1))))), ?_⟩
    have es : Ue15.stepOf t 98 i = backW Ue15.isWord t (backW (fun b => !Ue15.isWord b) t i) := rfl
    refine ⟨fun m σ H2 => H2 = H ∧ m ≤ t.length ∧ σ = [some (.ref p), some (.int (m : Nat))] ∧ backW (fun b => !Ue15.isWord b) t m = backW (fun b => !Ue15.isWord b) t i, ⟨i, rfl, hi, rfl, rfl⟩, ?_⟩
    rintro m σ H2 ⟨rfl, hm, rfl, em⟩
    refine ⟨_, rfl, _, _, rfl, rfl, _, rfl, dI (fun h0 => ?_) fun h0 => ?_⟩
    · obtain ⟨j, rfl⟩ : ∃ j, m = j + 1 := ⟨m - 1, by omega⟩
      have hj : j < t.length := by omega
      obtain ⟨b, hb⟩ : ∃ b, t[j]? = some b := ⟨_, List.getElem?_eq_getElem hj⟩
      have ej : (((j + 1 : Nat) : Int) - 1) = (j : Nat) := by omega
      refine ⟨_, rfl, _, rfl, _, _, rfl, rfl, p, _, _, _, rfl, rfl, SqL.of hp, by rw [ej]; exact atN hb, b, rfl, _, rfl, nI (fun h1 => ?_) fun h1 => ?_⟩
      · refine ⟨fun σ3 H3 => H3 = H2 ∧ σ3 = [some (.ref p), some (.int (j : Nat))], fun σ3 H3 ⟨e1, e2⟩ => ⟨j, by omega, e1, by omega, e2, ?_⟩, ?_⟩
        · rw [← em, back_go (f := fun b => !Ue15.isWord b) hb (by show (!Ue15.isWord b) = _; rw [h1]; rfl)]
        · refine ⟨_, rfl, _, _, rfl, rfl, rfl, ?_⟩
          show [some (V.ref p), some (V.int (((j + 1 : Nat) : Int) - 1))] = _
          rw [ej]
      · have key : backW (fun b => !Ue15.isWord b) t i = j + 1 := by rw [← em, back_no (f := fun b => !Ue15.isWord b) hb (by show (!Ue15.isWord b) = _; rw [h1]; rfl)]
        generalize j + 1 = m at *
        refine ⟨fun m σ H9 => H9 = H2 ∧ m ≤ t.length ∧ σ = [some (.ref p), some (.int (m : Nat))] ∧ backW Ue15.isWord t m = backW Ue15.isWord t (backW (fun b => !Ue15.isWord b) t i), ⟨m, rfl, hm, rfl, by rw [key]⟩, ?_⟩
        rintro m σ H2 ⟨rfl, hm, rfl, em⟩
        refine ⟨_, rfl, _, _, rfl, rfl, _, rfl, dI (fun h0 => ?_) fun h0 => ?_⟩
        · obtain ⟨j, rfl⟩ : ∃ j, m = j + 1 := ⟨m - 1, by omega⟩
          have hj : j < t.length := by omega
          obtain ⟨b, hb⟩ : ∃ b, t[j]? = some b := ⟨_, List.getElem?_eq_getElem hj⟩
          have ej : (((j + 1 : Nat) : Int) - 1) = (j : Nat) := by omega
          refine ⟨_, rfl, _, rfl, _, _, rfl, rfl, p, _, _, _, rfl, rfl, SqL.of hp, by rw [ej]; exact atN hb, b, rfl, _, rfl, bI (fun h1 => ?_) fun h1 => ?_⟩
          · refine ⟨fun σ3 H3 => H3 = H2 ∧ σ3 = [some (.ref p), some (.int (j : Nat))], fun σ3 H3 ⟨e1, e2⟩ => ⟨j, by omega, e1, by omega, e2, ?_⟩, ?_⟩
            · rw [← em, back_go hb h1]
            · refine ⟨_, rfl, _, _, rfl, rfl, rfl, ?_⟩
              show [some (V.ref p), some (V.int (((j + 1 : Nat) : Int) - 1))] = _
              rw [ej]
          · refine ⟨_, rfl, ?_⟩
            rw [es, ← em, back_no hb h1] at hQ
            exact hQ
        · refine ⟨_, rfl, ?_⟩
          have e0 : m = 0 := by omega
          subst e0
          rw [es, ← em, back_zero] at hQ
          exact hQ
    · have e0 : m = 0 := by omega
      have key : backW (fun b => !Ue15.isWord b) t i = m := by rw [← em, e0, back_zero]
      refine ⟨fun m σ H9 => H9 = H2 ∧ m ≤ t.length ∧ σ = [some (.ref p), some (.int (m : Nat))] ∧ backW Ue15.isWord t m = backW Ue15.isWord t (backW (fun b => !Ue15.isWord b) t i), ⟨m, rfl, hm, rfl, by rw [key]⟩, ?_⟩
      rintro m σ H2 ⟨rfl, hm, rfl, em⟩
      refine ⟨_, rfl, _, _, rfl, rfl, _, rfl, dI (fun h0 => ?_) fun h0 => ?_⟩
      · obtain ⟨j, rfl⟩ : ∃ j, m = j + 1 := ⟨m - 1, by omega⟩
        have hj : j < t.length := by omega
        obtain ⟨b, hb⟩ : ∃ b, t[j]? = some b := ⟨_, List.getElem?_eq_getElem hj⟩
        have ej : (((j + 1 : Nat) : Int) - 1) = (j : Nat) := by omega
        refine ⟨_, rfl, _, rfl, _, _, rfl, rfl, p, _, _, _, rfl, rfl, SqL.of hp, by rw [ej]; exact atN hb, b, rfl, _, rfl, bI (fun h1 => ?_) fun h1 => ?_⟩
        · refine ⟨fun σ3 H3 => H3 = H2 ∧ σ3 = [some (.ref p), some (.int (j : Nat))], fun σ3 H3 ⟨e1, e2⟩ => ⟨j, by omega, e1, by omega, e2, ?_⟩, ?_⟩
          · rw [← em, back_go hb h1]
          · refine ⟨_, rfl, _, _, rfl, rfl, rfl, ?_⟩
            show [some (V.ref p), some (V.int (((j + 1 : Nat) : Int) - 1))] = _
            rw [ej]
        · refine ⟨_, rfl, ?_⟩
          rw [es, ← em, back_no hb h1] at hQ
          exact hQ
      · refine ⟨_, rfl, ?_⟩
        have e0 : m = 0 := by omega
        subst e0
        rw [es, ← em, back_zero] at hQ
        exact hQ
end
end Ke
end
section
set_option maxHeartbeats 4500000
namespace Ke
open PySem PySem.Spec L2 LamX PyProof.Rows
open Ue15 (Sel Told Ed)
/-- all but D stays -/
def But (D : Addr) (H H2 : Hp) : Prop := ∀ c o, H c = some o → c ≠ D → H2 c = some o
theorem but_same {D : Addr} {H H2 : Hp} (s : Same H H2) : But D H H2 := fun c o h _ => s c o h
theorem but_put {D : Addr} {H : Hp} {o : HO} : But D H (upd H D o) := fun c u h n => by
  rw [upd_ne n]
  exact h
theorem vis_but {M : List Addr} {D : Addr} {H H2 : Hp} (b : But D H H2) : But D (vis M H) (vis M H2) := fun c o h n => vis_in (b _ _ (vis_of h).1 n) (vis_of h).2
section
variable {β : Type} {D : Addr} {H : Hp}
/-- a list made element by element: what each is goes by F -/
theorem lc_map {K : PySem.W.Frag} {q : Addr} {xs : List V} {bs : List β} {j : Nat} {te : TE} {vs : List Nat} {σ : L2.St} {Qd : Hp → Prop} (F : Hp → V → β → Prop) (nD : H D = none) (hq : H q = some (.lst xs)) (hl : xs.length = bs.length) (hz : bs.length ≤ 1000)
    (mono : ∀ H1 H2 v b, F H1 v b → But D H1 H2 → F H2 v b) (hw : ∀ x, wipe ((wipe σ vs).set j (some x)) vs = wipe σ vs)
    (turn : ∀ (i : Nat) (x : V) (b : β) (H2 : Hp) (Q : VK), xs[i]? = some x → bs[i]? = some b → Same H H2 → (∃ acc, H2 D = some (.lst acc)) → (∀ y H4, Same H2 H4 → F H4 y b → Q y H4) → te ((wipe σ vs).set j (some x)) H2 Q)
    (fin : ∀ H2 ys, Same H H2 → H2 D = some (.lst ys) → Paired (F H2) ys bs → Qd H2) :
    ∃ W : Nat → Nat → Hp → Prop, (∃ m, W 0 m (upd H D (.lst []))) ∧ ∀ i m H, W i m H →
      ((Itl K q).stop i H ∧ Qd H) ∨ ((Itl K q).go i H ∧ ∃ Nx : Hp → Prop, (∀ H', Nx H' → ∃ m', m' < m ∧ W (i + 1) m' H') ∧ ∀ x H', (Itl K q).yld i H x H' → gName j x (wipe σ vs) H' fun σ2 H2 => wipe σ2 vs = wipe σ vs ∧ tYes σ2 H2 fun b H3 =>
        if b = true then te σ2 H3 fun y H4 => ∃ sofar, H4 D = some (.lst sofar) ∧ sofar.length < sizeLine ∧ Nx (upd H4 D (.lst (sofar ++ [y]))) else Nx H3) := by
  refine lc_list (a := q) (xs := xs) (fun i H2 => Same H H2 ∧ ∃ ys, H2 D = some (.lst ys) ∧ Paired (F H2) ys (bs.take i)) ⟨same_new nD, [], upd_same, .nil⟩ (fun i H2 _ ⟨e, _⟩ => SqL.of (e _ _ hq)) ?_ ?_
  · rintro i v H2 hi ⟨s2, ys, hD, hp⟩
    have hlt : i < bs.length := by
      have := ((List.getElem?_eq_some_iff.mp hi).1)
      omega
    obtain ⟨b, hb⟩ : ∃ b, bs[i]? = some b := ⟨_, List.getElem?_eq_getElem hlt⟩
    refine ⟨hw v, turn i v b H2 _ hi hb s2 ⟨_, hD⟩ fun y H4 s4 f4 => ?_⟩
    have hD4 := s4 _ _ hD
    have ln := pr_len hp
    rw [List.length_take] at ln
    refine ⟨ys, hD4, szl (by omega), same_put (s2.trans s4) nD, ys ++ [y], upd_same, ?_⟩
    rw [take_at hb]
    exact pr_app (pr_mono (fun v c z => mono _ _ v c (mono _ _ v c z (but_same s4)) but_put) hp) (.cons (mono _ _ y b f4 but_put) .nil)
  · rintro H2 ⟨s2, ys, hD, hp⟩
    rw [hl, List.take_length] at hp
    exact fin H2 ys s2 hD hp
theorem lc_mapZ {K : PySem.W.Frag} {q r : Addr} {xs zs : List V} {bs : List β} {j k : Nat} {te : TE} {vs : List Nat} {σ : L2.St} {Qd : Hp → Prop} (F : Hp → V → β → Prop) (nD : H D = none) (hq : H q = some (.lst xs)) (hr : H r = some (.lst zs)) (hl : xs.length = bs.length) (hl2 : zs.length = bs.length) (hz : bs.length ≤ 1000)
    (mono : ∀ H1 H2 v b, F H1 v b → But D H1 H2 → F H2 v b) (hw : ∀ x y, wipe (((wipe σ vs).set j (some x)).set k (some y)) vs = wipe σ vs)
    (turn : ∀ (i : Nat) (x z : V) (b : β) (H2 : Hp) (Q : VK), xs[i]? = some x → zs[i]? = some z → bs[i]? = some b → Same H H2 → (∃ acc, H2 D = some (.lst acc)) → (∀ y H4, Same H2 H4 → F H4 y b → Q y H4) → te (((wipe σ vs).set j (some x)).set k (some z)) H2 Q)
    (fin : ∀ H2 ys, Same H H2 → H2 D = some (.lst ys) → Paired (F H2) ys bs → Qd H2) :
    ∃ W : Nat → Nat → Hp → Prop, (∃ m, W 0 m (upd H D (.lst []))) ∧ ∀ i m H, W i m H →
      ((Itz K q r).stop i H ∧ Qd H) ∨ ((Itz K q r).go i H ∧ ∃ Nx : Hp → Prop, (∀ H', Nx H' → ∃ m', m' < m ∧ W (i + 1) m' H') ∧ ∀ x H', (Itz K q r).yld i H x H' → gTup K 2 (gCons (gName j) (gCons (gName k) gNil)) x (wipe σ vs) H' fun σ2 H2 => wipe σ2 vs = wipe σ vs ∧ tYes σ2 H2 fun b H3 =>
        if b = true then te σ2 H3 fun y H4 => ∃ sofar, H4 D = some (.lst sofar) ∧ sofar.length < sizeLine ∧ Nx (upd H4 D (.lst (sofar ++ [y]))) else Nx H3) := by
  refine lc_it (walk_zip (xs := xs) (ys := zs) (n := bs.length) (by omega)) (fun i H2 => Same H H2 ∧ ∃ ys, H2 D = some (.lst ys) ∧ Paired (F H2) ys (bs.take i)) ⟨same_new nD, [], upd_same, .nil⟩ (fun i H2 _ ⟨e, _⟩ => ⟨SqL.of (e _ _ hq), SqL.of (e _ _ hr)⟩) ?_ ?_
  · rintro i v H2 H3 hlt ⟨s2, ys, hD, hp⟩ ⟨T, x, z, rfl, nT, rfl, hx, hz2⟩
    obtain ⟨b, hb⟩ : ∃ b, bs[i]? = some b := ⟨_, List.getElem?_eq_getElem hlt⟩
    have s3 : Same H2 (upd H2 T (.tup [x, z])) := same_new nT
    have hD3 := s3 _ _ hD
    refine ⟨T, _, rfl, SqT.of upd_same, rfl, _, _, rfl, _, _, rfl, rfl, hw x z, turn i x z b _ _ hx hz2 hb (s2.trans s3) ⟨_, hD3⟩ fun y H4 s4 f4 => ?_⟩
    have hD4 := s4 _ _ hD3
    have ln := pr_len hp
    rw [List.length_take] at ln
    refine ⟨ys, hD4, szl (by omega), same_put ((s2.trans s3).trans s4) nD, ys ++ [y], upd_same, ?_⟩
    rw [take_at hb]
    exact pr_app (pr_mono (fun v c z => mono _ _ v c (mono _ _ v c z (but_same (s3.trans s4))) but_put) hp) (.cons (mono _ _ y b f4 but_put) .nil)
  · rintro H2 ⟨s2, ys, hD, hp⟩
    rw [List.take_length] at hp
    exact fin H2 ys s2 hD hp
end
/-! ### kinds of elements -/
def FI (H : Hp) (v : V) (n : Nat) : Prop := v = .int (n : Nat)
def FS (C : Ca) (M : List Addr) (D : Addr) (H : Hp) (v : V) (s : Sel) : Prop := ∃ x, v = .ref x ∧ x ≠ D ∧ SelAt C (vis M H) x s
def FT (M : List Addr) (D : Addr) (H : Hp) (v : V) (t : List Nat) : Prop := ∃ x, v = .ref x ∧ x ≠ D ∧ TxtAt (vis M H) x t
def FX (D : Addr) (H : Hp) (v : V) (e : Ex) : Prop := ∃ x y, v = .ref x ∧ x ≠ D ∧ y ≠ D ∧ H x = some (.tup [.int e.1, .int e.2.1, .ref y]) ∧ TxtAt H y e.2.2
section
variable {C : Ca} {M : List Addr} {D : Addr}
theorem FI.mono (H1 H2 : Hp) (v : V) (n : Nat) (h : FI H1 v n) (_ : But D H1 H2) : FI H2 v n := h
theorem FS.mono (H1 H2 : Hp) (v : V) (s : Sel) (h : FS C M D H1 v s) (b : But D H1 H2) : FS C M D H2 v s := by
  obtain ⟨x, e, n, dx, hx⟩ := h
  exact ⟨x, e, n, dx, vis_but b _ _ hx n⟩
theorem FT.mono (H1 H2 : Hp) (v : V) (t : List Nat) (h : FT M D H1 v t) (b : But D H1 H2) : FT M D H2 v t := by
  obtain ⟨x, e, n, hx⟩ := h
  exact ⟨x, e, n, vis_but b _ _ hx n⟩
theorem FX.mono (H1 H2 : Hp) (v : V) (e : Ex) (h : FX D H1 v e) (b : But D H1 H2) : FX D H2 v e := by
  obtain ⟨x, y, e, n, n2, hx, hy⟩ := h
  exact ⟨x, y, e, n, n2, b _ _ hx n, b _ _ hy n2⟩
theorem FI.all {H : Hp} : ∀ {ys : List V} {ns : List Nat}, Paired (FI H) ys ns → ys = iL ns
  | _, _, .nil => rfl
  | _, _, .cons h t => by
    cases h
    rw [FI.all t]
    rfl
theorem FS.all {H : Hp} : ∀ {ys : List V} {ss : List Sel}, Paired (FS C M D H) ys ss → ∃ as : List Addr, ys = as.map V.ref ∧ Paired (SelAt C (vis M H)) as ss
  | _, _, .nil => ⟨[], rfl, .nil⟩
  | _, _, .cons ⟨x, e, _, hx⟩ t => by
    obtain ⟨as, e2, h2⟩ := FS.all t
    exact ⟨x :: as, by rw [e, e2]; rfl, .cons hx h2⟩
theorem FT.all {H : Hp} : ∀ {ys : List V} {ss : List (List Nat)}, Paired (FT M D H) ys ss → ∃ as : List Addr, ys = as.map V.ref ∧ Paired (TxtAt (vis M H)) as ss
  | _, _, .nil => ⟨[], rfl, .nil⟩
  | _, _, .cons ⟨x, e, _, hx⟩ t => by
    obtain ⟨as, e2, h2⟩ := FT.all t
    exact ⟨x :: as, by rw [e, e2]; rfl, .cons hx h2⟩
theorem FX.all {H : Hp} : ∀ {ys : List V} {ss : List Ex}, Paired (FX D H) ys ss → ∃ as : List Addr, ys = as.map V.ref ∧ Paired (ExOne H) as ss
  | _, _, .nil => ⟨[], rfl, .nil⟩
  | _, _, .cons ⟨x, y, e, _, _, hx, hy⟩ t => by
    obtain ⟨as, e2, h2⟩ := FX.all t
    exact ⟨x :: as, by rw [e, e2]; rfl, .cons ⟨y, hx, hy⟩ h2⟩
theorem FS.list {H : Hp} {ys : List V} {ss : List Sel} (h : Paired (FS C M D H) ys ss) (hD : H D = some (.lst ys)) (n : D ∉ M) : SelsL C (vis M H) D ss := by
  obtain ⟨as, e, h2⟩ := FS.all h
  rw [e] at hD
  exact ⟨as, vis_in hD n, h2⟩
theorem FT.list {H : Hp} {ys : List V} {ss : List (List Nat)} (h : Paired (FT M D H) ys ss) (hD : H D = some (.lst ys)) (n : D ∉ M) : PcsAt (vis M H) D ss := by
  obtain ⟨as, e, h2⟩ := FT.all h
  rw [e] at hD
  exact ⟨as, vis_in hD n, h2⟩
theorem FX.list {H : Hp} {ys : List V} {ss : List Ex} (h : Paired (FX D H) ys ss) (hD : H D = some (.lst ys)) : ExAt H D ss := by
  obtain ⟨as, e, h2⟩ := FX.all h
  rw [e] at hD
  exact ⟨as, hD, h2⟩
theorem FI.list {H : Hp} {ys : List V} {ns : List Nat} (h : Paired (FI H) ys ns) (hD : H D = some (.lst ys)) : TxtAt H D ns := by
  rw [FI.all h] at hD
  exact hD
end
theorem told_fst {α : Type} (s : List Sel) (m : Nat) (f : Sel → α) : (told s m).map (fun x => f x.1) = s.map f := by
  unfold told
  rw [List.map_map]
  show List.map (f ∘ Prod.fst) s.zipIdx = _
  rw [← List.map_map, List.zipIdx_map_fst]
/-- the editor's selections, as the program walks them -/
theorem EdAt.each {C : Ca} {H : Hp} {a : Addr} {L : Lo} {e : Ed} {cq : List Nat} (h : EdAt C H a L e cq) : ∃ (s : List Sel) (m : Nat) (dp q : Addr) (bs : List Addr), e.sels = told s m ∧ m < s.length ∧ H L.ps = some (.ins C.sels dp (nSels.zip [.ref q, .int (m : Nat)])) ∧
    H q = some (.lst (bs.map V.ref)) ∧ Paired (SelAt C (vis (edM C a L) H)) bs s ∧ SelsL C (vis (edM C a L) H) q s := by
  obtain ⟨s, m, dp, q, hp, hq, e1, hm⟩ := h.sel
  obtain ⟨bs, hq1, hq2⟩ := id hq
  exact ⟨s, m, dp, q, bs, e1, hm, (vis_of hp).1, (vis_of hq1).1, hq2, hq⟩
end Ke
end
section
set_option maxHeartbeats 4500000
namespace Ke
open PySem PySem.Spec L2 LamX PyProof.Rows
open Ue15 (Sel Told Ed)
/-! ### what always holds of an editor -/
def Apart : List Sel → Prop
  | [] => True
  | [_] => True
  | x :: y :: l => Ue15.hi x ≤ Ue15.lo y ∧ (Ue15.hi x = Ue15.lo y → Ue15.lo x < Ue15.hi x ∧ Ue15.lo y < Ue15.hi y) ∧ Apart (y :: l)
structure Good (n : Nat) (l : List Told) : Prop where
  ap : Apart (l.map (·.1))
  le : ∀ x ∈ l, x.1.anchor ≤ n ∧ x.1.hand ≤ n
  few : l.length ≤ 30
def MGood (x : List Nat × List Told) : Prop := x.1.length ≤ 200 ∧ Good x.1.length x.2
structure EInv (e : Ed) : Prop where
  txt : e.text.length ≤ 200
  sel : Good e.text.length e.sels
  kept : ∀ l, e.kept = some l → Good e.text.length l
  und : ∀ x ∈ e.undo, MGood x
  red : ∀ x ∈ e.redo, MGood x
  ahd : ∀ x, e.ahead = some x → MGood x
  pcs : e.pieces.length ≤ 30 ∧ ∀ w ∈ e.pieces, w.length ≤ 200
  cnt : e.count ≤ 99
def spEd (C : Ca) (pre : Ed → Prop) (f : Ed → Ed) : Sp := fun vs H Q _ => ∃ (a : Addr) (L : Lo) (e : Ed) (cq : List Nat), vs = [.ref a] ∧ EdAt C H a L e cq ∧ pre e ∧ ∀ H2 L2, EdAt C H2 a L2 (f e) cq → Fr2 C a L H L2 H2 → Q .non H2
def spEdK (C : Ca) (pre : Nat → Ed → Prop) (f : Nat → Ed → Ed) : Sp := fun vs H Q _ => ∃ (a : Addr) (L : Lo) (e : Ed) (cq : List Nat) (k : Nat), vs = [.ref a, .int (k : Nat)] ∧ EdAt C H a L e cq ∧ pre k e ∧ ∀ H2 L2, EdAt C H2 a L2 (f k e) cq → Fr2 C a L H L2 H2 → Q .non H2
theorem times_eq (e : Ed) : max e.count 1 = Ue15.times e := by
  unfold Ue15.times
  split <;> omega
theorem EInv.hands {e : Ed} (h : EInv e) {s : List Sel} {m : Nat} (es : e.sels = told s m) : s.length ≤ 30 ∧ ∀ x ∈ s, x.anchor ≤ e.text.length ∧ x.hand ≤ e.text.length := by
  refine ⟨?_, fun x hx => ?_⟩
  · have := h.sel.few
    rw [es, told_len] at this
    exact this
  · obtain ⟨b, hb⟩ := told_mem (m := m) hx
    rw [← es] at hb
    exact h.sel.le _ hb
theorem map_at {α β : Type} {l : List α} {f : α → β} {i : Nat} {a : α} {b : β} (h1 : l[i]? = some a) (h2 : (l.map f)[i]? = some b) : b = f a := by
  rw [List.getElem?_map, h1] at h2
  exact (Option.some.inj h2).symm
theorem steps_stop {t : List Nat} {k : Nat} : ∀ {n p : Nat}, Ue15.stepOf t k p = p → Ue15.stepsOf t k n p = p
  | 0, _, _ => rfl
  | n + 1, p, h => by
    show Ue15.stepsOf t k n (Ue15.stepOf t k p) = p
    rw [h]
    exact steps_stop h
theorem steps_add {t : List Nat} {k : Nat} : ∀ {m n p : Nat}, Ue15.stepsOf t k (m + n) p = Ue15.stepsOf t k n (Ue15.stepsOf t k m p)
  | 0, n, p => by rw [Nat.zero_add]; rfl
  | m + 1, n, p => by
    rw [show m + 1 + n = (m + n) + 1 by omega]
    exact steps_add (m := m) (p := Ue15.stepOf t k p)
section
variable {P : Program} {w : World} {K : PySem.W.Frag} {mg : Str → Option Value} {base : Heap} {C : Ca}
def sp_place_after (P : Program) (w : World) (K : PySem.W.Frag) (mg : Str → Option Value) (base : Heap) : Sp := fun vs H Q _ => ∃ (p f : Addr) (t : List Nat) (i k n : Nat), vs = [.ref p, .int (i : Nat), .ref f, .int (n : Nat)] ∧ TxtAt H p t ∧ i ≤ t.length ∧ n ≤ 1000 ∧ HeldM P w K mg base 3 f (spStep k) ∧
  Q (.int (Ue15.stepsOf t k n i : Nat)) H
theorem k_place_after (G : Gs K mg C) : C8.Cal P w K mg base 4 "place_after" (sp_place_after P w K mg base) [] := by
  refine cal_of G.d_place_after sc_place_after (fun _ _ _ _ _ _ us hl => match us, hl with | [_, _, _, _], _ => rfl) (fun vs H Q E h => ?_) (fun f cdv A outer s H vs Q E hr h => ?_)
  · obtain ⟨p, f2, t, i, k, n, rfl, _⟩ := h; rfl
  · obtain ⟨p, f2, t, i, k, n, rfl, hp, hi, hn, hf, hQ⟩ := h
    refine ⟨_, (pss_cons (ps_for PassesOwn.never rfl (pi_range1 rfl G.b_range (pa_cons (pv 3) pa_nil)) (pg_name (i := 4) sc_place_after.nd rfl (Or.inl rfl)) (pss_cons (ps_set (i := 5) sc_place_after.nd rfl (Or.inl rfl) (pe_callM (k := 3) (i := 2) (hr.mono (by decide)) rfl (Or.inl rfl) (pa_cons (pv 0) (pa_cons (pv 1) pa_nil)))) (pss_cons (ps_if (pt_cmpR op_eq (pv 5) (pv 1) (nomark _)) (pss_one (ps_ret (pv 1))) pss_nil) (pss_one (ps_set (i := 1) sc_place_after.nd rfl (Or.inl rfl) (pv 5)))))) (pss_one (ps_ret (pv 1)))), ?_⟩
    refine ⟨_, rfl, _, rfl, by omega, by omega, ?_⟩
    refine for_range (lo := 0) (n := _) (fun j σ H3 => H3 = H ∧ ∃ v4 v5, σ = [some (.ref p), some (.int (Ue15.stepsOf t k j i : Nat)), some (.ref f2), some (.int (n : Nat)), v4, v5]) ⟨rfl, none, none, rfl⟩ ?_ ?_
    · rintro j σ H3 hj ⟨rfl, v4, v5, rfl⟩
      refine ⟨f2, spStep k, rfl, hf, _, rfl, _, rfl, p, t, _, rfl, hp, steps_le hi, ?_⟩
      refine ⟨_, rfl, _, rfl, rfl, _, rfl, dI (fun h1 => ?_) fun h1 => ?_⟩
      · have h2 := int_eq h1
        refine ⟨_, rfl, ?_⟩
        have hj2 : j ≤ n := by omega
        have e := steps_stop (t := t) (k := k) (n := n - j) h2
        rw [← steps_add, show j + (n - j) = n by omega] at e
        rw [← e]
        exact hQ
      · refine ⟨_, rfl, rfl, some (.int (0 + j)), some (.int (Ue15.stepOf t k (Ue15.stepsOf t k j i) : Nat)), ?_⟩
        rw [steps_succ]
        rfl
    · rintro σ H3 ⟨rfl, v4, v5, rfl⟩
      refine ⟨_, rfl, ?_⟩
      rw [Int.toNat_natCast]
      exact hQ
def sp_hands_after (P : Program) (w : World) (K : PySem.W.Frag) (mg : Str → Option Value) (base : Heap) (C : Ca) : Sp := fun vs H Q _ => ∃ (a f : Addr) (L : Lo) (e : Ed) (cq : List Nat) (k : Nat), vs = [.ref a, .ref f] ∧ EdAt C H a L e cq ∧ EInv e ∧ HeldM P w K mg base 3 f (spStep k) ∧
  ∀ H2 y, Same H H2 → H y = none → TxtAt H2 y (e.sels.map fun x => Ue15.stepsOf e.text k (Ue15.times e) x.1.hand) → Q (.ref y) H2
theorem k_hands_after (G : Gs K mg C) : C8.Cal P w K mg base 5 "hands_after" (sp_hands_after P w K mg base C) [] := by
  have K_Editor_times := k_Editor_times (P := P) (w := w) (base := base) G
  have K_place_after := k_place_after (P := P) (w := w) (base := base) G
  refine cal_of G.d_hands_after sc_hands_after (fun _ _ _ _ _ _ us hl => match us, hl with | [_, _], _ => rfl) (fun vs H Q E h => ?_) (fun f cdv A outer s H vs Q E hr h => ?_)
  · obtain ⟨a, f2, L, e, cq, k, rfl, _⟩ := h; rfl
  · obtain ⟨a, f2, L, e, cq, k, rfl, hE, hI, hf, hQ⟩ := h
    refine ⟨_, (pss_one (ps_ret (pe_lc (own := [("one", 2)]) (g := gName 2) (tt := tYes) (te := (tCall (sp_place_after P w K mg base) [] C8.E0 (tCons (tFld K (tVar 0) "text") (tCons (tFld K (tVar 2) "hand") (tCons (tVar 1) (tCons (tMeth C.ed "times" (sp_Editor_times C) [] C8.E0 (tVar 0) tNil) tNil)))))) rfl sc_hands_after.nd (pi_list (pe_fld (pe_fld (pv 0) rfl) rfl)) (blkOk_by (own := [("one", 2)]) (N := N_hands_after) (sc := defScope s_hands_after) (by decide +kernel)) (fun _ _ _ _ _ => (pg_name (i := 2) sc_hands_after.nd rfl (Or.inl rfl))) (fun _ _ _ _ _ => pts_nil) (fun _ _ _ _ _ => (C8.pe_c K_place_after hr (by decide) rfl (pa_cons (pe_fld (pv 0) rfl) (pa_cons (pe_fld (pv 2) rfl) (pa_cons (pv 1) (pa_cons (C8.pe_mt0 K_Editor_times hr (by decide) (pv 0)) pa_nil))))))))), ?_⟩
    obtain ⟨sl, m, dp, q, bs, es, hm, hps, hq, hpr, _⟩ := hE.each
    obtain ⟨hlen, hin⟩ := hI.hands es
    rw [es, told_fst sl m (fun z => Ue15.stepsOf e.text k (Ue15.times e) z.hand)] at hQ
    have lb := pr_len hpr
    refine ⟨_, rfl, a, C.ed, L.dx, _, _, rfl, hE.obj, G.k_Editor, G.n_Editor_selected, lk_zip fe_selected rfl, L.ps, C.sels, dp, _, _, rfl, hps, G.k_Selections, G.n_Selections_each, lk_zip fa_each rfl, q, rfl, ⟨_, SqL.of hq⟩, fun D nD => ?_⟩
    refine lc_map FI (bs := sl.map fun z => Ue15.stepsOf e.text k (Ue15.times e) z.hand) nD hq (by rw [List.length_map, List.length_map, lb]) (by rw [List.length_map]; omega) FI.mono (fun _ => rfl) ?_ ?_
    · intro i x b H2 Q2 hx hb s2 hD h2
      obtain ⟨c, hc, rfl⟩ := ref_at hx
      obtain ⟨sc, hsc, dc, hcs⟩ := pr_get hpr hc
      have eb := map_at hsc hb
      subst eb
      have hc2 := s2 _ _ (vis_of hcs).1
      have hhd := (hin sc (List.mem_of_getElem? hsc)).2
      have hE2 := hE.same s2
      have txt2 : TxtAt H2 L.pt e.text := hE2.txt.same (vis_sub _ _)
      refine ⟨_, rfl, a, C.ed, L.dx, _, _, rfl, hE2.obj, G.k_Editor, G.n_Editor_text, lk_zip fe_text rfl, _, rfl, c, C.sel, dc, _, _, rfl, hc2, G.k_Selection, G.n_Selection_hand, lk_zip fa_hand rfl, _, rfl, _, rfl, a, L.dx, _, rfl, hE2.obj, lk_no ne_times, a, L.dx, _, e.count, rfl, hE2.obj, rfl, ?_⟩
      rw [times_eq]
      have ht : Ue15.times e ≤ 1000 := by
        have := hI.cnt
        rw [← times_eq]
        omega
      exact ⟨L.pt, f2, e.text, sc.hand, k, _, rfl, txt2, hhd, ht, hf, h2 _ _ (Same.refl _) rfl⟩
    · intro H2 ys s2 hD hpr2
      exact hQ _ _ s2 nD (FI.list hpr2 hD)
end
end Ke
end
section
set_option maxHeartbeats 4500000
namespace Ke
open PySem PySem.Spec L2 LamX PyProof.Rows
open Ue15 (Sel Told Ed)
theorem iL_at {t : List Nat} {i : Nat} {v : V} (h : (iL t)[i]? = some v) : ∃ n, t[i]? = some n ∧ v = .int (n : Nat) := by
  rw [List.getElem?_map] at h
  cases e : t[i]? with
  | none =>
    rw [e] at h
    cases h
  | some n =>
    rw [e] at h
    exact ⟨n, rfl, (Option.some.inj h).symm⟩
theorem mapped_told {e : Ed} {s : List Sel} {m : Nat} (es : e.sels = told s m) (f : Sel → Sel) : Ue15.mapped e f = { e with sels := Ue15.tidy (told (s.map f) m) } := by
  unfold Ue15.mapped
  rw [es, told_map]
def isMove (k : Nat) : Prop := k = 104 ∨ k = 108 ∨ k = 106 ∨ k = 107 ∨ k = 119 ∨ k = 98
def isReach (k : Nat) : Prop := k = 72 ∨ k = 76 ∨ k = 74 ∨ k = 75 ∨ k = 87 ∨ k = 66
section
variable {P : Program} {w : World} {K : PySem.W.Frag} {mg : Str → Option Value} {base : Heap} {C : Ca}
theorem held_m {x : Str} {j k : Nat} {sp : Sp} {f : Addr} (c : C8.Cal P w K mg base j x sp []) (hj : j ≤ k) (g : mg x = some (.ref f)) : HeldM P w K mg base k f sp := ⟨j, hj, held_of c g⟩
theorem moves (G : Gs K mg C) {k : Nat} (h : isMove k) : ∃ n, rows_STEPS_OF_CARETS.lookup (k : Int) = some n ∧ ∀ f, mg n = some (.ref f) → HeldM P w K mg base 3 f (spStep k) := by
  rcases h with rfl | rfl | rfl | rfl | rfl | rfl
  · exact ⟨_, rfl, fun f g => held_m (k_step_left G) (by decide) g⟩
  · exact ⟨_, rfl, fun f g => held_m (k_step_right G) (by decide) g⟩
  · exact ⟨_, rfl, fun f g => held_m (k_step_down G) (by decide) g⟩
  · exact ⟨_, rfl, fun f g => held_m (k_step_up G) (by decide) g⟩
  · exact ⟨_, rfl, fun f g => held_m (k_step_word_on G) (by decide) g⟩
  · exact ⟨_, rfl, fun f g => held_m (k_step_word_back G) (by decide) g⟩
theorem reaches (G : Gs K mg C) {k : Nat} (h : isReach k) : ∃ n, rows_STEPS_OF_HANDS.lookup (k : Int) = some n ∧ ∀ f, mg n = some (.ref f) → HeldM P w K mg base 3 f (spStep (k + 32)) := by
  rcases h with rfl | rfl | rfl | rfl | rfl | rfl
  · exact ⟨_, rfl, fun f g => held_m (k_step_left G) (by decide) g⟩
  · exact ⟨_, rfl, fun f g => held_m (k_step_right G) (by decide) g⟩
  · exact ⟨_, rfl, fun f g => held_m (k_step_down G) (by decide) g⟩
  · exact ⟨_, rfl, fun f g => held_m (k_step_up G) (by decide) g⟩
  · exact ⟨_, rfl, fun f g => held_m (k_step_word_on G) (by decide) g⟩
  · exact ⟨_, rfl, fun f g => held_m (k_step_word_back G) (by decide) g⟩
theorem k_move_carets (G : Gs K mg C) (TB : TabB base mg C.tc C.tP) : C8.Cal P w K mg base 7 "move_carets" (spEdK C (fun k e => EInv e ∧ isMove k) (fun k e => Ue15.mapped e fun s => Ue15.caret (Ue15.stepsOf e.text k (Ue15.times e) s.hand))) [] := by
  have K_Editor_select := k_Editor_select (P := P) (w := w) (base := base) G TB
  have K_caret := k_caret (P := P) (w := w) (base := base) G
  have K_hands_after := k_hands_after (P := P) (w := w) (base := base) G
  refine cal_of G.d_move_carets sc_move_carets (fun _ _ _ _ _ _ us hl => match us, hl with | [_, _], _ => rfl) (fun vs H Q E h => ?_) (fun f cdv A outer s H vs Q E hr h => ?_)
  · obtain ⟨a, L, e, cq, k, rfl, _⟩ := h; rfl
  · obtain ⟨a, L, e, cq, k, rfl, hE, ⟨hI, hk⟩, hQ⟩ := h
    refine ⟨_, (pss_cons (ps_set (i := 2) sc_move_carets.nd rfl (Or.inl rfl) (C8.pe_c K_hands_after hr (by decide) rfl (pa_cons (pv 0) (pa_cons (pe_ix (ix_W G.t_STEPS_OF_CARETS) (C8.pe_gc rfl G.g_STEPS_OF_CARETS) (pv 1) (fun _ _ => rfl)) pa_nil)))) (pss_one (ps_expr (C8.pe_mt K_Editor_select hr (by decide) (pv 0) (pa_cons (pe_lc (own := [("hand", 3)]) (g := gName 3) (tt := tYes) (te := (tCall (sp_caret C) [] C8.E0 (tCons (tVar 3) tNil))) rfl sc_move_carets.nd (pi_list (pv 2)) (blkOk_by (own := [("hand", 3)]) (N := N_move_carets) (sc := defScope s_move_carets) (by decide +kernel)) (fun _ _ _ _ _ => (pg_name (i := 3) sc_move_carets.nd rfl (Or.inl rfl))) (fun _ _ _ _ _ => pts_nil) (fun _ _ _ _ _ => (C8.pe_c K_caret hr (by decide) rfl (pa_cons (pv 3) pa_nil)))) (pa_cons (pe_fld (pe_fld (pv 0) rfl) rfl) pa_nil)))))), ?_⟩
    obtain ⟨n, hn, hf⟩ := moves (P := P) (w := w) (base := base) G hk
    obtain ⟨sl, m, dp, q, bs, es, hm, hps, hq, hpr, _⟩ := hE.each
    obtain ⟨hlen, hin⟩ := hI.hands es
    refine ⟨_, rfl, _, rfl, (k : Int), n, rfl, rfl, hn, fun f2 g2 => ?_⟩
    refine ⟨a, f2, L, e, cq, k, rfl, hE, hI, hf f2 g2, fun H1 y s1 ny hy => ?_⟩
    rw [es, told_fst sl m (fun z => Ue15.stepsOf e.text k (Ue15.times e) z.hand)] at hy
    have hE1 := hE.same s1
    refine ⟨_, rfl, a, L.dx, _, rfl, hE1.obj, lk_no ne_select, _, rfl, y, rfl, ⟨_, SqL.of hy⟩, fun D nD => ?_⟩
    have DM := hE1.fresh nD
    refine lc_map (FS C (edM C a L) D) (bs := sl.map fun z => Ue15.caret (Ue15.stepsOf e.text k (Ue15.times e) z.hand)) nD hy (by rw [iL_len, List.length_map, List.length_map]) (by rw [List.length_map]; omega) FS.mono (fun _ => rfl) ?_ ?_
    · intro i x b H2 Q2 hx hb s2 ⟨acc, hD⟩ h2
      obtain ⟨n2, hn2, rfl⟩ := iL_at hx
      have eb : b = Ue15.caret n2 := by
        rw [List.getElem?_map] at hb hn2
        cases z : sl[i]? with
        | none =>
          rw [z] at hb
          cases hb
        | some sb =>
          rw [z] at hb hn2
          cases hb
          cases hn2
          rfl
      refine ⟨_, rfl, n2, rfl, fun H4 x4 s4 nx h4 => h2 _ _ s4 ⟨x4, rfl, fun e => (by rw [e, hD] at nx; cases nx), ?_⟩⟩
      rw [eb]
      obtain ⟨d4, h4⟩ := h4
      exact ⟨d4, vis_in h4 ((hE1.same s2).fresh nx)⟩
    · intro H2 ys s2 hD hp
      have hE2 := hE1.same s2
      refine ⟨_, rfl, a, C.ed, L.dx, _, _, rfl, hE2.obj, G.k_Editor, G.n_Editor_selected, lk_zip fe_selected rfl, L.ps, C.sels, dp, _, _, rfl, s2 _ _ (s1 _ _ hps), G.k_Selections, G.n_Selections_main, lk_zip fa_main rfl, ?_⟩
      refine ⟨a, D, L, e, cq, _, m, rfl, hE2, FS.list hp hD DM, by rw [List.length_map]; omega, by rw [List.length_map]; exact hm, fun H3 L3 h3 f3 => hQ _ _ ?_ ((vis_ext (ExtN.of (s1.trans s2))).trans f3)⟩
      dsimp only
      rw [mapped_told es]
      exact h3
theorem k_move_hands (G : Gs K mg C) (TB : TabB base mg C.tc C.tP) : C8.Cal P w K mg base 7 "move_hands" (spEdK C (fun k e => EInv e ∧ isReach k) (fun k e => Ue15.mapped e fun s => ⟨s.anchor, Ue15.stepsOf e.text (k + 32) (Ue15.times e) s.hand⟩)) [] := by
  have K_Editor_select := k_Editor_select (P := P) (w := w) (base := base) G TB
  have K_Selection_init := k_Selection_init (P := P) (w := w) (base := base) G
  have K_hands_after := k_hands_after (P := P) (w := w) (base := base) G
  refine cal_of G.d_move_hands sc_move_hands (fun _ _ _ _ _ _ us hl => match us, hl with | [_, _], _ => rfl) (fun vs H Q E h => ?_) (fun f cdv A outer s H vs Q E hr h => ?_)
  · obtain ⟨a, L, e, cq, k, rfl, _⟩ := h; rfl
  · obtain ⟨a, L, e, cq, k, rfl, hE, ⟨hI, hk⟩, hQ⟩ := h
    refine ⟨_, (pss_cons (ps_set (i := 2) sc_move_hands.nd rfl (Or.inl rfl) (C8.pe_c K_hands_after hr (by decide) rfl (pa_cons (pv 0) (pa_cons (pe_ix (ix_W G.t_STEPS_OF_HANDS) (C8.pe_gc rfl G.g_STEPS_OF_HANDS) (pv 1) (fun _ _ => rfl)) pa_nil)))) (pss_cons (ps_setLc (i := 3) (own := [("one", 4)]) (g := gName 4) (tt := tYes) (te := (tFld K (tVar 4) "anchor")) rfl sc_move_hands.nd rfl rfl (sw_true rfl rfl rfl (by decide +kernel)) (pi_list (pe_fld (pe_fld (pv 0) rfl) rfl)) (blkOk_by (own := [("one", 4)]) (N := N_move_hands) (sc := defScope s_move_hands) (by decide +kernel)) (fun _ _ _ _ _ => (pg_name (i := 4) sc_move_hands.nd rfl (Or.inl rfl))) (fun _ _ _ _ _ => pts_nil) (fun _ _ _ _ _ => (pe_fld (pv 4) rfl))) (pss_one (ps_expr (C8.pe_mt K_Editor_select hr (by decide) (pv 0) (pa_cons (pe_lc (own := [("anchor", 5), ("hand", 6)]) (g := gTup K 2 (gCons (gName 5) (gCons (gName 6) gNil))) (tt := tYes) (te := (tMake C.sel (sp_Selection_init C) [] C8.E0 (tCons (tVar 5) (tCons (tVar 6) tNil)))) rfl sc_move_hands.nd (pi_zip (by rfl) G.b_zip (pa_cons (pv 3) (pa_cons (pv 2) pa_nil))) (blkOk_by (own := [("anchor", 5), ("hand", 6)]) (N := N_move_hands) (sc := defScope s_move_hands) (by decide +kernel)) (fun _ _ _ _ _ => (pg_tup rfl (pgs_cons (pg_name (i := 5) sc_move_hands.nd rfl (Or.inl rfl)) (pgs_cons (pg_name (i := 6) sc_move_hands.nd rfl (Or.inl rfl)) pgs_nil)))) (fun _ _ _ _ _ => pts_nil) (fun _ _ _ _ _ => (C8.pe_mk K_Selection_init hr (by decide) rfl (pa_cons (pv 5) (pa_cons (pv 6) pa_nil))))) (pa_cons (pe_fld (pe_fld (pv 0) rfl) rfl) pa_nil))))))), ?_⟩
    obtain ⟨n, hn, hf⟩ := reaches (P := P) (w := w) (base := base) G hk
    obtain ⟨sl, m, dp, q, bs, es, hm, hps, hq, hpr, _⟩ := hE.each
    obtain ⟨hlen, hin⟩ := hI.hands es
    have lb := pr_len hpr
    refine ⟨_, rfl, _, rfl, (k : Int), n, rfl, rfl, hn, fun f2 g2 => ?_⟩
    refine ⟨a, f2, L, e, cq, k + 32, rfl, hE, hI, hf f2 g2, fun H1 y s1 ny hy => ?_⟩
    rw [es, told_fst sl m (fun z => Ue15.stepsOf e.text (k + 32) (Ue15.times e) z.hand)] at hy
    have hE1 := hE.same s1
    refine ⟨_, rfl, a, C.ed, L.dx, _, _, rfl, hE1.obj, G.k_Editor, G.n_Editor_selected, lk_zip fe_selected rfl, L.ps, C.sels, dp, _, _, rfl, s1 _ _ hps, G.k_Selections, G.n_Selections_each, lk_zip fa_each rfl, q, rfl, ⟨_, SqL.of (s1 _ _ hq)⟩, fun D nD => ?_⟩
    refine lc_map FI (bs := sl.map fun z => z.anchor) nD (s1 _ _ hq) (by rw [List.length_map, List.length_map]; exact lb) (by rw [List.length_map]; omega) FI.mono (fun _ => rfl) ?_ ?_
    · intro i x b H2 Q2 hx hb s2 ⟨acc, hD⟩ h2
      obtain ⟨c, hc, rfl⟩ := ref_at hx
      obtain ⟨sc, hsc, dc, hcs⟩ := pr_get hpr hc
      refine ⟨_, rfl, c, C.sel, dc, _, _, rfl, s2 _ _ (s1 _ _ (vis_of hcs).1), G.k_Selection, G.n_Selection_anchor, lk_zip fa_anchor rfl, h2 _ _ (Same.refl _) ?_⟩
      rw [map_at hsc hb]
      rfl
    intro H2 ys s2 hD hp
    have hA := FI.list hp hD
    have hE2 := hE1.same s2
    have hy2 := hy.same s2
    refine ⟨_, rfl, a, L.dx, _, rfl, hE2.obj, lk_no ne_select, _, rfl, _, rfl, D, y, _, _, rfl, SqL.of hA, SqL.of hy2, fun D2 nD2 => ?_⟩
    have DM := hE2.fresh nD2
    refine lc_mapZ (FS C (edM C a L) D2) (bs := sl.map fun z => (⟨z.anchor, Ue15.stepsOf e.text (k + 32) (Ue15.times e) z.hand⟩ : Sel)) nD2 hA hy2 (by rw [iL_len, List.length_map, List.length_map]) (by rw [iL_len, List.length_map, List.length_map]) (by rw [List.length_map]; omega) FS.mono (fun _ _ => rfl) ?_ ?_
    · intro i x z b H3 Q2 hx hz hb s3 ⟨acc, hD⟩ h2
      obtain ⟨n1, hn1, rfl⟩ := iL_at hx
      obtain ⟨n2, hn2, rfl⟩ := iL_at hz
      have eb : b = ⟨n1, n2⟩ := by
        rw [List.getElem?_map] at hb hn2 hn1
        cases z : sl[i]? with
        | none =>
          rw [z] at hb
          cases hb
        | some sb =>
          rw [z] at hb hn1 hn2
          cases hb
          cases hn1
          cases hn2
          rfl
      refine ⟨_, rfl, _, rfl, fun x4 d4 n4 nd4 ne => ⟨x4, d4, n1, n2, rfl, upd_same, fun H4 h4 k4 => ⟨rfl, h2 _ _ (Same.made n4 nd4 k4) ⟨x4, rfl, fun e => (by rw [e, hD] at n4; cases n4), ?_⟩⟩⟩⟩
      rw [eb]
      obtain ⟨d5, h4⟩ := h4
      exact ⟨d5, vis_in h4 ((hE2.same s3).fresh n4)⟩
    · intro H3 ys s3 hD hp
      have hE3 := hE2.same s3
      refine ⟨_, rfl, a, C.ed, L.dx, _, _, rfl, hE3.obj, G.k_Editor, G.n_Editor_selected, lk_zip fe_selected rfl, L.ps, C.sels, dp, _, _, rfl, s3 _ _ (s2 _ _ (s1 _ _ hps)), G.k_Selections, G.n_Selections_main, lk_zip fa_main rfl, ?_⟩
      refine ⟨a, D2, L, e, cq, _, m, rfl, hE3, FS.list hp hD DM, by rw [List.length_map]; omega, by rw [List.length_map]; exact hm, fun H4 L4 h4 f4 => hQ _ _ ?_ ((vis_ext (ExtN.of ((s1.trans s2).trans s3))).trans f4)⟩
      dsimp only
      rw [mapped_told es]
      exact h4
end
end Ke
end
section
set_option maxHeartbeats 4500000
namespace Ke
open SrtO
open Ue15 (Sel Told Ed)
theorem lo_hi (s : Sel) : Ue15.lo s ≤ Ue15.hi s := by
  unfold Ue15.lo Ue15.hi
  omega
theorem touch_no {x y : Sel} : Ue15.touch x y = false ↔ Ue15.hi x ≤ Ue15.lo y ∧ (Ue15.hi x = Ue15.lo y → Ue15.lo x < Ue15.hi x ∧ Ue15.lo y < Ue15.hi y) := by
  have h1 := lo_hi x
  have h2 := lo_hi y
  unfold Ue15.touch
  simp only [Bool.or_eq_false_iff, decide_eq_false_iff_not, Bool.and_eq_false_iff, beq_eq_false_iff_ne]
  omega
theorem lo_facing (s : Sel) {a b : Nat} (h : a ≤ b) : Ue15.lo (Ue15.facing s a b) = a ∧ Ue15.hi (Ue15.facing s a b) = b := by
  unfold Ue15.facing
  split <;> (unfold Ue15.lo Ue15.hi; dsimp only; omega)
theorem joined_ends {x y : Told} (h : Ue15.lo x.1 ≤ Ue15.lo y.1) : Ue15.lo (Ue15.joined x y).1 = Ue15.lo x.1 ∧ Ue15.hi (Ue15.joined x y).1 = max (Ue15.hi x.1) (Ue15.hi y.1) := by
  have h1 := lo_hi x.1
  have h2 := lo_hi y.1
  unfold Ue15.joined
  obtain ⟨a, b⟩ := lo_facing (if y.2 = true then y.1 else x.1) (a := min (Ue15.lo x.1) (Ue15.lo y.1)) (b := max (Ue15.hi x.1) (Ue15.hi y.1)) (by omega)
  exact ⟨by rw [a]; omega, b⟩
/-! ### tidying leaves what is apart as it is -/
theorem ins_apart {x : Told} : ∀ {l : List Told}, Apart ((x :: l).map (·.1)) → Ue15.insertBy x l = x :: l
  | [], _ => rfl
  | y :: l, h => by
    obtain ⟨h1, h2, _⟩ := h
    have a := lo_hi x.1
    have b := lo_hi y.1
    show (if Ue15.lo x.1 < Ue15.lo y.1 ∨ (Ue15.lo x.1 = Ue15.lo y.1 ∧ Ue15.hi x.1 ≤ Ue15.hi y.1) then x :: y :: l else y :: Ue15.insertBy x l) = _
    rw [if_pos]
    dsimp only at h1 h2
    omega
theorem Apart.tail {x : Sel} : ∀ {l : List Sel}, Apart (x :: l) → Apart l
  | [], _ => trivial
  | _ :: _, h => h.2.2
theorem fold_apart : ∀ {l : List Told}, Apart (l.map (·.1)) → l.foldr Ue15.insertBy [] = l
  | [], _ => rfl
  | x :: l, h => by
    show Ue15.insertBy x (l.foldr Ue15.insertBy []) = _
    rw [fold_apart (l := l) (Apart.tail h)]
    exact ins_apart h
theorem merge_apart : ∀ {l : List Told} {x : Told}, Apart ((x :: l).map (·.1)) → Ue15.mergeFrom x l = x :: l
  | [], _, _ => rfl
  | y :: l, x, h => by
    obtain ⟨h1, h2, h3⟩ := h
    have ht : Ue15.touch x.1 y.1 = false := touch_no.mpr ⟨h1, h2⟩
    show (if Ue15.touch x.1 y.1 = true then Ue15.mergeFrom (Ue15.joined x y) l else x :: Ue15.mergeFrom y l) = _
    rw [ht, if_neg Bool.false_ne_true, merge_apart h3]
theorem tidy_apart {l : List Told} (h : Apart (l.map (·.1))) : Ue15.tidy l = l := by
  unfold Ue15.tidy
  rw [fold_apart h]
  cases l with
  | nil => rfl
  | cons x l => exact merge_apart h
theorem tidy_one (x : Told) : Ue15.tidy [x] = [x] := rfl
/-! ### what is tidied is apart -/
theorem merge_is : ∀ {l : List Told} {x : Told} {n : Nat}, Srtd ltT (x :: l) → (∀ z ∈ x :: l, Ue15.hi z.1 ≤ n) →
    ∃ z r, Ue15.mergeFrom x l = z :: r ∧ Ue15.lo z.1 = Ue15.lo x.1 ∧ Ue15.hi x.1 ≤ Ue15.hi z.1 ∧ Apart ((z :: r).map (·.1)) ∧ r.length ≤ l.length ∧ ∀ y ∈ z :: r, Ue15.hi y.1 ≤ n
  | [], x, n, _, hn => ⟨x, [], rfl, rfl, Nat.le_refl _, trivial, Nat.le_refl _, fun y hy => hn y hy⟩
  | y :: l, x, n, hs, hn => by
    obtain ⟨h1, h2⟩ := List.pairwise_cons.mp hs
    obtain ⟨h3, h4⟩ := List.pairwise_cons.mp h2
    have hxy := ltT_no.mp (h1 y List.mem_cons_self)
    have ly : Ue15.lo x.1 ≤ Ue15.lo y.1 := by omega
    have b1 := lo_hi x.1
    have b2 := lo_hi y.1
    by_cases ht : Ue15.touch x.1 y.1 = true
    · obtain ⟨j1, j2⟩ := joined_ends (x := x) (y := y) ly
      have hj : Srtd ltT (Ue15.joined x y :: l) := List.pairwise_cons.mpr ⟨fun z hz => ltT_no.mpr (by
        have q1 := ltT_no.mp (h1 z (List.mem_cons_of_mem _ hz))
        have q2 := ltT_no.mp (h3 z hz)
        rw [j1, j2]
        omega), h4⟩
      obtain ⟨z, r, e, a1, a2, a3, a4, a5⟩ := merge_is (n := n) hj (fun z hz => by
        rcases (List.mem_cons.mp hz) with e | hz
        · have n1 := hn x List.mem_cons_self
          have n2 := hn y (List.mem_cons_of_mem _ List.mem_cons_self)
          rw [e, j2]
          omega
        · exact hn z (List.mem_cons_of_mem _ (List.mem_cons_of_mem _ hz)))
      refine ⟨z, r, ?_, by rw [a1, j1], by omega, a3, Nat.le_succ_of_le a4, a5⟩
      show (if Ue15.touch x.1 y.1 = true then Ue15.mergeFrom (Ue15.joined x y) l else x :: Ue15.mergeFrom y l) = _
      rw [if_pos ht]
      exact e
    · have ht2 : Ue15.touch x.1 y.1 = false := by simpa using ht
      obtain ⟨z, r, e, a1, a2, a3, a4, a5⟩ := merge_is (n := n) h2 (fun z hz => hn z (List.mem_cons_of_mem _ hz))
      obtain ⟨t1, t2⟩ := touch_no.mp ht2
      refine ⟨x, z :: r, ?_, rfl, Nat.le_refl _, ⟨?_, ?_, a3⟩, Nat.succ_le_succ a4, fun w hw => ?_⟩
      · show (if Ue15.touch x.1 y.1 = true then Ue15.mergeFrom (Ue15.joined x y) l else x :: Ue15.mergeFrom y l) = _
        rw [if_neg ht, e]
      · dsimp only
        omega
      · dsimp only
        omega
      · rcases List.mem_cons.mp hw with e | hw
        · rw [e]
          exact hn x List.mem_cons_self
        · exact a5 w hw
theorem tidy_good {l : List Told} {n : Nat} (h : ∀ x ∈ l, Ue15.hi x.1 ≤ n) (hf : l.length ≤ 30) : Good n (Ue15.tidy l) := by
  obtain ⟨h1, h2⟩ := fold_srt l
  have hl := h2.perm.length_eq
  have hm : ∀ z ∈ l.foldr Ue15.insertBy [], Ue15.hi z.1 ≤ n := fun z hz => h z (h2.perm.mem_iff.mp hz)
  unfold Ue15.tidy
  generalize l.foldr Ue15.insertBy [] = o at *
  cases o with
  | nil => exact ⟨trivial, fun x hx => (by cases hx), Nat.zero_le _⟩
  | cons x o =>
    obtain ⟨z, r, e, _, _, a3, a4, a5⟩ := merge_is h1 hm
    show Good n (Ue15.mergeFrom x o)
    rw [e]
    refine ⟨a3, fun y hy => ?_, ?_⟩
    · have := a5 y hy
      unfold Ue15.hi at this
      omega
    · rw [List.length_cons] at hl ⊢
      omega
theorem hi_le {s : Sel} {n : Nat} (h : s.anchor ≤ n ∧ s.hand ≤ n) : Ue15.hi s ≤ n := by
  unfold Ue15.hi
  omega
/-! ### the main one -/
theorem told_main {s : List Sel} {m : Nat} {x : Sel} (h : s[m]? = some x) (e : Ed) (es : e.sels = told s m) : Ue15.mainOf e = x ∧ Ue15.mainPlace e = m := by
  unfold Ue15.mainOf Ue15.mainPlace
  rw [es]
  have key : ∀ (s : List Sel) (k m : Nat), s[m]? = some x → ((s.zipIdx k).map fun y => (y.1, y.2 == m + k)).find? (fun y => y.2) = some (x, true) ∧ (((s.zipIdx k).map fun y => (y.1, y.2 == m + k)).takeWhile fun y => !y.2).length = m := by
    intro s
    induction s with
    | nil =>
      intro k m h
      simp at h
    | cons y s ih =>
      intro k m h
      cases m with
      | zero =>
        simp at h
        simp [List.zipIdx_cons, h]
      | succ m =>
        have h' : s[m]? = some x := by simpa using h
        obtain ⟨a, b⟩ := ih (k + 1) m h'
        have e1 : m + (k + 1) = m + 1 + k := by omega
        rw [e1] at a b
        have e2 : (k == m + 1 + k) = false := by
          apply beq_eq_false_iff_ne.mpr
          omega
        simp only [List.zipIdx_cons, List.map_cons, e2, List.find?_cons_of_neg, List.takeWhile_cons, Bool.not_false, if_true, List.length_cons]
        refine ⟨?_, ?_⟩
        · simpa using a
        · simpa using b
  obtain ⟨a, b⟩ := key s 0 m h
  unfold told
  simp only [Nat.add_zero] at a b
  rw [a, b]
  exact ⟨rfl, rfl⟩
theorem told_next (s : List Sel) (m k : Nat) : (told s m).zipIdx.map (fun x => (x.1.1, x.2 == k)) = told s k := by
  unfold told
  rw [List.zipIdx_map, List.map_map]
  apply List.ext_getElem?
  intro i
  rw [List.getElem?_map, List.getElem?_map, List.getElem?_zipIdx, List.getElem?_zipIdx]
  cases s[i]? <;> simp
end Ke
end
section
set_option maxHeartbeats 4500000
namespace Ke
open PySem PySem.Spec L2 LamX PyProof.Rows
open Ue15 (Sel Told Ed)
theorem face_is (s : Sel) (i j : Nat) : (if decide (s.hand < s.anchor) = true then (⟨j, i⟩ : Sel) else ⟨i, j⟩) = Ue15.facing s i j := by
  unfold Ue15.facing
  simp
theorem lk_in {rows : List (Int × Str)} {k : Int} : (rows.lookup k).isSome = true ↔ ∃ r ∈ rows, r.1 = k := by
  induction rows with
  | nil => simp
  | cons r rows ih =>
    obtain ⟨a, b⟩ := r
    by_cases h : k = a
    · subst h
      simp
    · have h2 : (k == a) = false := beq_eq_false_iff_ne.mpr h
      rw [List.lookup_cons, h2]
      simp only [List.mem_cons, exists_eq_or_imp]
      rw [ih]
      constructor
      · exact .inr
      · rintro (z | z)
        · exact absurd z.symm h
        · exact z
section
variable {P : Program} {w : World} {K : PySem.W.Frag} {mg : Str → Option Value} {base : Heap} {C : Ca}
def sp_whole_lines (C : Ca) : Sp := fun vs H Q _ => ∃ (p b : Addr) (t : List Nat) (s : Sel), vs = [.ref p, .ref b] ∧ TxtAt H p t ∧ SelAt C H b s ∧ s.anchor ≤ t.length ∧ s.hand ≤ t.length ∧ ∀ H2 x, Same H H2 → H x = none → SelAt C H2 x (Ue15.wholeLines t s) → Q (.ref x) H2
theorem k_whole_lines (G : Gs K mg C) : C8.Cal P w K mg base 4 "whole_lines" (sp_whole_lines C) [] := by
  have K_Selection_begin := k_Selection_begin (P := P) (w := w) (base := base) G
  have K_Selection_end := k_Selection_end (P := P) (w := w) (base := base) G
  have K_Selection_is_caret := k_Selection_is_caret (P := P) (w := w) (base := base) G
  have K_Selection_looks_left := k_Selection_looks_left (P := P) (w := w) (base := base) G
  have K_line_begin := k_line_begin (P := P) (w := w) (base := base) G
  have K_line_end := k_line_end (P := P) (w := w) (base := base) G
  have K_spanning := k_spanning (P := P) (w := w) (base := base) G
  refine cal_of G.d_whole_lines sc_whole_lines (fun _ _ _ _ _ _ us hl => match us, hl with | [_, _], _ => rfl) (fun vs H Q E h => ?_) (fun f cdv A outer s H vs Q E hr h => ?_)
  · obtain ⟨p, b, t, sl, rfl, _⟩ := h; rfl
  · obtain ⟨p, b, t, sl, rfl, hp, hb, h1, h2, hQ⟩ := h
    refine ⟨_, (C8.pss_cut (ps_set (i := 2) sc_whole_lines.nd rfl (Or.inl rfl) (pe_ifExp (pt_val (C8.pe_mt0 K_Selection_is_caret hr (by decide) (pv 1))) (C8.pe_mt0 K_Selection_end hr (by decide) (pv 1)) (pe_op op_sub (C8.pe_mt0 K_Selection_end hr (by decide) (pv 1)) pe_int))) (pss_cons (ps_set (i := 3) sc_whole_lines.nd rfl (Or.inl rfl) (pe_callB (call_min2 rfl) (by rfl) G.b_min (by decide +kernel) (pa_cons (pe_op op_add (C8.pe_c K_line_end hr (by decide) rfl (pa_cons (pv 0) (pa_cons (pv 2) pa_nil))) pe_int) (pa_cons (pe_callB call_len_seq (by rfl) G.b_len PySem.boot_len (pa_cons (pv 0) pa_nil)) pa_nil)))) (pss_one (ps_ret (C8.pe_c K_spanning hr (by decide) rfl (pa_cons (C8.pe_c K_line_begin hr (by decide) rfl (pa_cons (pv 0) (pa_cons (C8.pe_mt0 K_Selection_begin hr (by decide) (pv 1)) pa_nil))) (pa_cons (pv 3) (pa_cons (C8.pe_mt0 K_Selection_looks_left hr (by decide) (pv 1)) pa_nil)))))))), ?_⟩
    obtain ⟨db, hb2⟩ := id hb
    have hh := hi_le ⟨h1, h2⟩
    have hlh := lo_hi sl
    refine ⟨fun σ H2 => H2 = H ∧ σ = [some (.ref p), some (.ref b), some (.int ((if Ue15.lo sl < Ue15.hi sl then Ue15.hi sl - 1 else Ue15.hi sl : Nat) : Int)), none], ?_, ?_⟩
    · refine ⟨_, rfl, b, db, _, rfl, hb2, lk_no no_caret, b, sl, rfl, hb, _, rfl, bI (fun h3 => ?_) fun h3 => ?_⟩
      · have h4 : Ue15.lo sl = Ue15.hi sl := by simpa using h3
        refine ⟨_, rfl, b, db, _, rfl, hb2, lk_no no_end, b, sl, rfl, hb, rfl, ?_⟩
        rw [if_neg (by omega)]
        rfl
      · have h4 : Ue15.lo sl ≠ Ue15.hi sl := by simpa using h3
        refine ⟨_, rfl, b, db, _, rfl, hb2, lk_no no_end, b, sl, rfl, hb, _, _, rfl, rfl, rfl, ?_⟩
        rw [if_pos (by omega)]
        have e : ((Ue15.hi sl - 1 : Nat) : Int) = ((Ue15.hi sl : Nat) : Int) - 1 := by omega
        rw [e]
        rfl
    · rintro σ H2 ⟨rfl, rfl⟩
      have hz : (if Ue15.lo sl < Ue15.hi sl then Ue15.hi sl - 1 else Ue15.hi sl) ≤ t.length := by
        split <;> omega
      have ew : Ue15.wholeLines t sl = Ue15.facing sl (Ue15.lineStart t (Ue15.lo sl)) (min t.length (Ue15.lineEnd t (if Ue15.lo sl < Ue15.hi sl then Ue15.hi sl - 1 else Ue15.hi sl) + 1)) := rfl
      generalize (if Ue15.lo sl < Ue15.hi sl then Ue15.hi sl - 1 else Ue15.hi sl) = z at *
      refine ⟨_, rfl, _, rfl, p, t, z, rfl, hp, hz, _, _, rfl, rfl, _, rfl, _, _, rfl, .inl (SqL.of hp), _, _, rfl, ?_⟩
      have e : (if ((iL t).length : Int) < ((Ue15.lineEnd t z : Nat) : Int) + 1 then ((iL t).length : Int) else ((Ue15.lineEnd t z : Nat) : Int) + 1) = ((min t.length (Ue15.lineEnd t z + 1) : Nat) : Int) := by
        rw [iL_len]
        split <;> omega
      rw [e]
      refine ⟨_, rfl, _, rfl, b, db, _, rfl, hb2, lk_no no_begin, b, sl, rfl, hb, p, t, Ue15.lo sl, rfl, hp, by omega, _, rfl, _, rfl, b, db, _, rfl, hb2, lk_no no_looks, b, sl, rfl, hb, Ue15.lineStart t (Ue15.lo sl), min t.length (Ue15.lineEnd t z + 1), decide (sl.hand < sl.anchor), rfl, fun H3 x s3 nx hx => hQ _ _ s3 nx ?_⟩
      rw [face_is] at hx
      rw [ew]
      exact hx
theorem k_choose_lines (G : Gs K mg C) (TB : TabB base mg C.tc C.tP) : C8.Cal P w K mg base 7 "choose_lines" (spEd C EInv (fun e => Ue15.mapped e (Ue15.wholeLines e.text))) [] := by
  have K_Editor_select := k_Editor_select (P := P) (w := w) (base := base) G TB
  have K_whole_lines := k_whole_lines (P := P) (w := w) (base := base) G
  refine cal_of G.d_choose_lines sc_choose_lines (fun _ _ _ _ _ _ us hl => match us, hl with | [_], _ => rfl) (fun vs H Q E h => ?_) (fun f cdv A outer s H vs Q E hr h => ?_)
  · obtain ⟨a, L, e, cq, rfl, _⟩ := h; rfl
  · obtain ⟨a, L, e, cq, rfl, hE, hI, hQ⟩ := h
    refine ⟨_, (pss_one (ps_expr (C8.pe_mt K_Editor_select hr (by decide) (pv 0) (pa_cons (pe_lc (own := [("one", 1)]) (g := gName 1) (tt := tYes) (te := (tCall (sp_whole_lines C) [] C8.E0 (tCons (tFld K (tVar 0) "text") (tCons (tVar 1) tNil)))) rfl sc_choose_lines.nd (pi_list (pe_fld (pe_fld (pv 0) rfl) rfl)) (blkOk_by (own := [("one", 1)]) (N := N_choose_lines) (sc := defScope s_choose_lines) (by decide +kernel)) (fun _ _ _ _ _ => (pg_name (i := 1) sc_choose_lines.nd rfl (Or.inl rfl))) (fun _ _ _ _ _ => pts_nil) (fun _ _ _ _ _ => (C8.pe_c K_whole_lines hr (by decide) rfl (pa_cons (pe_fld (pv 0) rfl) (pa_cons (pv 1) pa_nil))))) (pa_cons (pe_fld (pe_fld (pv 0) rfl) rfl) pa_nil))))), ?_⟩
    obtain ⟨sl, m, dp, q, bs, es, hm, hps, hq, hpr, _⟩ := hE.each
    obtain ⟨hlen, hin⟩ := hI.hands es
    have lb := pr_len hpr
    refine ⟨_, rfl, a, L.dx, _, rfl, hE.obj, lk_no ne_select, _, rfl, a, C.ed, L.dx, _, _, rfl, hE.obj, G.k_Editor, G.n_Editor_selected, lk_zip fe_selected rfl, L.ps, C.sels, dp, _, _, rfl, hps, G.k_Selections, G.n_Selections_each, lk_zip fa_each rfl, q, rfl, ⟨_, SqL.of hq⟩, fun D nD => ?_⟩
    have DM := hE.fresh nD
    refine lc_map (FS C (edM C a L) D) (bs := sl.map (Ue15.wholeLines e.text)) nD hq (by rw [List.length_map, List.length_map]; exact lb) (by rw [List.length_map]; omega) FS.mono (fun _ => rfl) ?_ ?_
    · intro i x b H2 Q2 hx hb s2 ⟨acc, hD⟩ h2
      obtain ⟨c, hc, rfl⟩ := ref_at hx
      obtain ⟨sc, hsc, hcs⟩ := pr_get hpr hc
      have hl2 := hin sc (List.mem_of_getElem? hsc)
      have hE2 := hE.same s2
      refine ⟨_, rfl, a, C.ed, L.dx, _, _, rfl, hE2.obj, G.k_Editor, G.n_Editor_text, lk_zip fe_text rfl, _, rfl, L.pt, c, e.text, sc, rfl, hE2.txt.same (vis_sub _ _), (hcs.same (vis_sub _ _)).same s2, hl2.1, hl2.2, fun H4 x4 s4 nx h4 => h2 _ _ s4 ⟨x4, rfl, fun e => (by rw [e, hD] at nx; cases nx), ?_⟩⟩
      rw [map_at hsc hb]
      obtain ⟨d4, h4⟩ := h4
      exact ⟨d4, vis_in h4 (hE2.fresh nx)⟩
    · intro H2 ys s2 hD hp
      have hE2 := hE.same s2
      refine ⟨_, rfl, a, C.ed, L.dx, _, _, rfl, hE2.obj, G.k_Editor, G.n_Editor_selected, lk_zip fe_selected rfl, L.ps, C.sels, dp, _, _, rfl, s2 _ _ hps, G.k_Selections, G.n_Selections_main, lk_zip fa_main rfl, ?_⟩
      refine ⟨a, D, L, e, cq, _, m, rfl, hE2, FS.list hp hD DM, by rw [List.length_map]; omega, by rw [List.length_map]; exact hm, fun H3 L3 h3 f3 => hQ _ _ ?_ ((vis_ext (ExtN.of s2)).trans f3)⟩
      dsimp only
      rw [mapped_told es]
      exact h3
theorem k_choose_hands (G : Gs K mg C) (TB : TabB base mg C.tc C.tP) : C8.Cal P w K mg base 7 "choose_hands" (spEd C EInv (fun e => Ue15.mapped e fun s => Ue15.caret s.hand)) [] := by
  have K_Editor_select := k_Editor_select (P := P) (w := w) (base := base) G TB
  have K_caret := k_caret (P := P) (w := w) (base := base) G
  refine cal_of G.d_choose_hands sc_choose_hands (fun _ _ _ _ _ _ us hl => match us, hl with | [_], _ => rfl) (fun vs H Q E h => ?_) (fun f cdv A outer s H vs Q E hr h => ?_)
  · obtain ⟨a, L, e, cq, rfl, _⟩ := h; rfl
  · obtain ⟨a, L, e, cq, rfl, hE, hI, hQ⟩ := h
    refine ⟨_, (pss_one (ps_expr (C8.pe_mt K_Editor_select hr (by decide) (pv 0) (pa_cons (pe_lc (own := [("one", 1)]) (g := gName 1) (tt := tYes) (te := (tCall (sp_caret C) [] C8.E0 (tCons (tFld K (tVar 1) "hand") tNil))) rfl sc_choose_hands.nd (pi_list (pe_fld (pe_fld (pv 0) rfl) rfl)) (blkOk_by (own := [("one", 1)]) (N := N_choose_hands) (sc := defScope s_choose_hands) (by decide +kernel)) (fun _ _ _ _ _ => (pg_name (i := 1) sc_choose_hands.nd rfl (Or.inl rfl))) (fun _ _ _ _ _ => pts_nil) (fun _ _ _ _ _ => (C8.pe_c K_caret hr (by decide) rfl (pa_cons (pe_fld (pv 1) rfl) pa_nil)))) (pa_cons (pe_fld (pe_fld (pv 0) rfl) rfl) pa_nil))))), ?_⟩
    obtain ⟨sl, m, dp, q, bs, es, hm, hps, hq, hpr, _⟩ := hE.each
    obtain ⟨hlen, hin⟩ := hI.hands es
    have lb := pr_len hpr
    refine ⟨_, rfl, a, L.dx, _, rfl, hE.obj, lk_no ne_select, _, rfl, a, C.ed, L.dx, _, _, rfl, hE.obj, G.k_Editor, G.n_Editor_selected, lk_zip fe_selected rfl, L.ps, C.sels, dp, _, _, rfl, hps, G.k_Selections, G.n_Selections_each, lk_zip fa_each rfl, q, rfl, ⟨_, SqL.of hq⟩, fun D nD => ?_⟩
    have DM := hE.fresh nD
    refine lc_map (FS C (edM C a L) D) (bs := sl.map fun z => Ue15.caret z.hand) nD hq (by rw [List.length_map, List.length_map]; exact lb) (by rw [List.length_map]; omega) FS.mono (fun _ => rfl) ?_ ?_
    · intro i x b H2 Q2 hx hb s2 ⟨acc, hD⟩ h2
      obtain ⟨c, hc, rfl⟩ := ref_at hx
      obtain ⟨sc, hsc, dc, hcs⟩ := pr_get hpr hc
      have hE2 := hE.same s2
      refine ⟨_, rfl, c, C.sel, dc, _, _, rfl, s2 _ _ (vis_of hcs).1, G.k_Selection, G.n_Selection_hand, lk_zip fa_hand rfl, sc.hand, rfl, fun H4 x4 s4 nx h4 => h2 _ _ s4 ⟨x4, rfl, fun e => (by rw [e, hD] at nx; cases nx), ?_⟩⟩
      rw [map_at hsc hb]
      obtain ⟨d4, h4⟩ := h4
      exact ⟨d4, vis_in h4 (hE2.fresh nx)⟩
    · intro H2 ys s2 hD hp
      have hE2 := hE.same s2
      refine ⟨_, rfl, a, C.ed, L.dx, _, _, rfl, hE2.obj, G.k_Editor, G.n_Editor_selected, lk_zip fe_selected rfl, L.ps, C.sels, dp, _, _, rfl, s2 _ _ hps, G.k_Selections, G.n_Selections_main, lk_zip fa_main rfl, ?_⟩
      refine ⟨a, D, L, e, cq, _, m, rfl, hE2, FS.list hp hD DM, by rw [List.length_map]; omega, by rw [List.length_map]; exact hm, fun H3 L3 h3 f3 => hQ _ _ ?_ ((vis_ext (ExtN.of s2)).trans f3)⟩
      dsimp only
      rw [mapped_told es]
      exact h3
theorem k_choose_whole_text (G : Gs K mg C) (TB : TabB base mg C.tc C.tP) : C8.Cal P w K mg base 7 "choose_whole_text" (spEd C EInv (fun e => { e with sels := [(⟨0, e.text.length⟩, true)] })) [] := by
  have K_Editor_select := k_Editor_select (P := P) (w := w) (base := base) G TB
  have K_Selection_init := k_Selection_init (P := P) (w := w) (base := base) G
  refine cal_of G.d_choose_whole_text sc_choose_whole_text (fun _ _ _ _ _ _ us hl => match us, hl with | [_], _ => rfl) (fun vs H Q E h => ?_) (fun f cdv A outer s H vs Q E hr h => ?_)
  · obtain ⟨a, L, e, cq, rfl, _⟩ := h; rfl
  · obtain ⟨a, L, e, cq, rfl, hE, hI, hQ⟩ := h
    refine ⟨_, (pss_one (ps_expr (C8.pe_mt K_Editor_select hr (by decide) (pv 0) (pa_cons (pe_lst (pa_cons (C8.pe_mk K_Selection_init hr (by decide) rfl (pa_cons pe_int (pa_cons (pe_callB call_len_seq (by rfl) G.b_len PySem.boot_len (pa_cons (pe_fld (pv 0) rfl) pa_nil)) pa_nil))) pa_nil)) (pa_cons pe_int pa_nil))))), ?_⟩
    have txt : TxtAt H L.pt e.text := hE.txt.same (vis_sub _ _)
    refine ⟨_, rfl, a, L.dx, _, rfl, hE.obj, lk_no ne_select, _, rfl, a, C.ed, L.dx, _, _, rfl, hE.obj, G.k_Editor, G.n_Editor_text, lk_zip fe_text rfl, _, _, rfl, .inl (SqL.of txt), fun x dx nx ndx ne => ?_⟩
    rw [iL_len]
    refine ⟨x, dx, 0, e.text.length, rfl, upd_same, fun H1 h1 k1 => ⟨rfl, ?_⟩⟩
    have s1 : Same H H1 := Same.made nx ndx k1
    have hE1 := hE.same s1
    refine ⟨Nat.succ_le_succ (Nat.zero_le _), fun D nD => ?_⟩
    have DM := hE1.fresh nD
    have s2 : Same H1 (upd H1 D (.lst [V.ref x])) := same_new nD
    have hE2 := hE1.same s2
    obtain ⟨d1, h1⟩ := h1
    refine ⟨a, D, L, e, cq, [⟨0, e.text.length⟩], 0, rfl, hE2, ⟨[x], vis_in upd_same DM, .cons ⟨d1, vis_in (s2 _ _ h1) (hE.fresh nx)⟩ .nil⟩, by show 1 ≤ 1000; decide, by show 0 < 1; decide, fun H3 L3 h3 f3 => hQ _ _ h3 ((vis_ext (ExtN.of (s1.trans s2))).trans f3)⟩
theorem k_choose_main_alone (G : Gs K mg C) (TB : TabB base mg C.tc C.tP) : C8.Cal P w K mg base 7 "choose_main_alone" (spEd C EInv (fun e => { e with sels := [(Ue15.mainOf e, true)] })) [] := by
  have K_Editor_select := k_Editor_select (P := P) (w := w) (base := base) G TB
  have K_Selections_main_one := k_Selections_main_one (P := P) (w := w) (base := base) G
  refine cal_of G.d_choose_main_alone sc_choose_main_alone (fun _ _ _ _ _ _ us hl => match us, hl with | [_], _ => rfl) (fun vs H Q E h => ?_) (fun f cdv A outer s H vs Q E hr h => ?_)
  · obtain ⟨a, L, e, cq, rfl, _⟩ := h; rfl
  · obtain ⟨a, L, e, cq, rfl, hE, hI, hQ⟩ := h
    refine ⟨_, (pss_one (ps_expr (C8.pe_mt K_Editor_select hr (by decide) (pv 0) (pa_cons (pe_lst (pa_cons (C8.pe_mt0 K_Selections_main_one hr (by decide) (pe_fld (pv 0) rfl)) pa_nil)) (pa_cons pe_int pa_nil))))), ?_⟩
    obtain ⟨sl, m, dp, q, bs, es, hm, hps, hq, hpr, _⟩ := hE.each
    have hsm : sl[m]? = some sl[m] := List.getElem?_eq_getElem hm
    obtain ⟨c, hc, hcs⟩ := pr_get2 hpr hsm
    obtain ⟨em, _⟩ := told_main hsm e es
    refine ⟨_, rfl, a, L.dx, _, rfl, hE.obj, lk_no ne_select, _, rfl, a, C.ed, L.dx, _, _, rfl, hE.obj, G.k_Editor, G.n_Editor_selected, lk_zip fe_selected rfl, L.ps, dp, _, rfl, hps, lk_no no_main_one, L.ps, dp, q, m, bs, c, rfl, hps, hq, hc, ?_⟩
    refine ⟨Nat.succ_le_succ (Nat.zero_le _), fun D nD => ?_⟩
    have DM := hE.fresh nD
    have s2 : Same H (upd H D (.lst [V.ref c])) := same_new nD
    have hE2 := hE.same s2
    refine ⟨a, D, L, e, cq, [sl[m]], 0, rfl, hE2, ⟨[c], vis_in upd_same DM, .cons (hcs.same (vis_same s2)) .nil⟩, by show 1 ≤ 1000; decide, by show 0 < 1; decide, fun H3 L3 h3 f3 => hQ _ _ ?_ ((vis_ext (ExtN.of s2)).trans f3)⟩
    dsimp only
    rw [em]
    exact h3
theorem k_choose_next_main (G : Gs K mg C) (TB : TabB base mg C.tc C.tP) : C8.Cal P w K mg base 7 "choose_next_main" (spEd C EInv (fun e => { e with sels := e.sels.zipIdx.map fun x => (x.1.1, x.2 == (Ue15.mainPlace e + Ue15.times e) % e.sels.length) })) [] := by
  have K_Editor_select := k_Editor_select (P := P) (w := w) (base := base) G TB
  have K_Editor_times := k_Editor_times (P := P) (w := w) (base := base) G
  refine cal_of G.d_choose_next_main sc_choose_next_main (fun _ _ _ _ _ _ us hl => match us, hl with | [_], _ => rfl) (fun vs H Q E h => ?_) (fun f cdv A outer s H vs Q E hr h => ?_)
  · obtain ⟨a, L, e, cq, rfl, _⟩ := h; rfl
  · obtain ⟨a, L, e, cq, rfl, hE, hI, hQ⟩ := h
    refine ⟨_, (pss_cons (ps_set (i := 1) sc_choose_next_main.nd rfl (Or.inl rfl) (pe_fld (pe_fld (pv 0) rfl) rfl)) (pss_one (ps_expr (C8.pe_mt K_Editor_select hr (by decide) (pv 0) (pa_cons (pv 1) (pa_cons (pe_op op_modN (pe_op op_add (pe_fld (pe_fld (pv 0) rfl) rfl) (C8.pe_mt0 K_Editor_times hr (by decide) (pv 0))) (pe_callB call_len_seq (by rfl) G.b_len PySem.boot_len (pa_cons (pv 1) pa_nil))) pa_nil)))))), ?_⟩
    obtain ⟨sl, m, dp, q, bs, es, hm, hps, hq, hpr, hqL⟩ := hE.each
    obtain ⟨hlen, hin⟩ := hI.hands es
    have lb := pr_len hpr
    have hsm : sl[m]? = some sl[m] := List.getElem?_eq_getElem hm
    obtain ⟨_, em⟩ := told_main hsm e es
    refine ⟨_, rfl, a, C.ed, L.dx, _, _, rfl, hE.obj, G.k_Editor, G.n_Editor_selected, lk_zip fe_selected rfl, L.ps, C.sels, dp, _, _, rfl, hps, G.k_Selections, G.n_Selections_each, lk_zip fa_each rfl, ?_⟩
    refine ⟨_, rfl, a, L.dx, _, rfl, hE.obj, lk_no ne_select, _, rfl, _, rfl, a, C.ed, L.dx, _, _, rfl, hE.obj, G.k_Editor, G.n_Editor_selected, lk_zip fe_selected rfl, L.ps, C.sels, dp, _, _, rfl, hps, G.k_Selections, G.n_Selections_main, lk_zip fa_main rfl, ?_⟩
    refine ⟨_, rfl, a, L.dx, _, rfl, hE.obj, lk_no ne_times, a, L.dx, _, e.count, rfl, hE.obj, rfl, _, _, rfl, rfl, _, rfl, q, _, rfl, .inl (SqL.of hq), ?_⟩
    have hpos : 0 < sl.length := by omega
    have ef : ((m : Int) + ((max e.count 1 : Nat) : Int)).fmod (((bs.map V.ref).length : Nat) : Int) = (((m + Ue15.times e) % sl.length : Nat) : Int) := by
      rw [List.length_map, lb, times_eq, Int.fmod_eq_emod_of_nonneg _ (by omega)]
      rfl
    refine ⟨_, _, rfl, rfl, (by rw [List.length_map, lb]; omega), a, q, L, e, cq, sl, (m + Ue15.times e) % sl.length, by dsimp only; rw [ef]; rfl, hE, hqL, by omega, Nat.mod_lt _ hpos, fun H3 L3 h3 f3 => hQ _ _ ?_ f3⟩
    have ap : Apart ((told sl ((m + Ue15.times e) % sl.length)).map (·.1)) := by
      have z := hI.sel.ap
      rw [es, told_fst sl m (fun z => z)] at z
      rw [told_fst sl _ (fun z => z)]
      exact z
    rw [tidy_apart ap] at h3
    dsimp only
    rw [em, es, told_next, told_len]
    exact h3
theorem k_keep_aside (G : Gs K mg C) : C8.Cal P w K mg base 1 "keep_aside" (spEd C EInv (fun e => { e with kept := some e.sels })) [] := by
  refine cal_of G.d_keep_aside sc_keep_aside (fun _ _ _ _ _ _ us hl => match us, hl with | [_], _ => rfl) (fun vs H Q E h => ?_) (fun f cdv A outer s H vs Q E hr h => ?_)
  · obtain ⟨a, L, e, cq, rfl, _⟩ := h; rfl
  · obtain ⟨a, L, e, cq, rfl, hE, hI, hQ⟩ := h
    refine ⟨_, (pss_one (ps_fld (pv 0) (pe_fld (pv 0) rfl) rfl)), ?_⟩
    refine ⟨_, rfl, a, C.ed, L.dx, _, _, rfl, hE.obj, G.k_Editor, G.n_Editor_selected, lk_zip fe_selected rfl, _, rfl, a, C.ed, L.dx, _, rfl, hE.obj, G.k_Editor, G.n_Editor_kept, ed_few _, ?_⟩
    rw [put_ed fe_kept (edi (by decide))]
    obtain ⟨h2, f2⟩ := hE.put (L2 := { L with kv := .ref L.ps }) (e2 := { e with kept := some e.sels }) ⟨rfl, rfl, rfl, rfl, rfl, rfl, rfl, rfl, rfl, rfl, rfl, rfl, rfl, rfl, rfl, rfl, rfl⟩ hE.txt hE.sel ⟨L.ps, rfl, hE.sel⟩ hE.pcs hE.srch hE.prm hE.last hE.mac
    exact hQ _ _ h2 f2
def keptOut (e : Ed) : Ed := match e.kept with
  | none => e
  | some l => { e with sels := l }
theorem k_choose_kept (G : Gs K mg C) : C8.Cal P w K mg base 1 "choose_kept" (spEd C EInv keptOut) [] := by
  refine cal_of G.d_choose_kept sc_choose_kept (fun _ _ _ _ _ _ us hl => match us, hl with | [_], _ => rfl) (fun vs H Q E h => ?_) (fun f cdv A outer s H vs Q E hr h => ?_)
  · obtain ⟨a, L, e, cq, rfl, _⟩ := h; rfl
  · obtain ⟨a, L, e, cq, rfl, hE, hI, hQ⟩ := h
    refine ⟨_, (pss_one (ps_if (pt_cmpR op_notN (pe_fld (pv 0) rfl) pe_non (nomark _)) (pss_one (ps_fld (pv 0) (pe_fld (pv 0) rfl) rfl)) pss_nil)), ?_⟩
    refine ⟨_, rfl, a, C.ed, L.dx, _, _, rfl, hE.obj, G.k_Editor, G.n_Editor_kept, lk_zip fe_kept rfl, rfl, _, rfl, ?_⟩
    have hkept := hE.kept
    cases hke : e.kept with
    | none =>
      rw [hke] at hkept
      have e0 : L.kv = .non := hkept
      rw [e0]
      have hw : keptOut e = e := by
        unfold keptOut
        rw [hke]
      rw [hw] at hQ
      exact hQ _ _ hE (ExtN.refl _)
    | some l =>
      rw [hke] at hkept
      obtain ⟨pk, ek, hpk⟩ := hkept
      have hw : keptOut e = { e with sels := l } := by
        unfold keptOut
        rw [hke]
      rw [hw] at hQ
      rw [ek]
      refine ⟨_, rfl, a, C.ed, L.dx, _, _, rfl, hE.obj, G.k_Editor, G.n_Editor_kept, lk_zip fe_kept rfl, _, rfl, a, C.ed, L.dx, _, rfl, hE.obj, G.k_Editor, G.n_Editor_selected, ed_few _, ?_⟩
      rw [ek, put_ed fe_selected (edi (by decide))]
      obtain ⟨h2, f2⟩ := hE.put (L2 := { L with ps := pk }) (e2 := { e with sels := l }) ⟨rfl, rfl, rfl, rfl, rfl, rfl, rfl, rfl, rfl, rfl, rfl, rfl, rfl, rfl, rfl, rfl, rfl⟩ hE.txt hpk hE.kept hE.pcs hE.srch hE.prm hE.last hE.mac
      exact hQ _ _ h2 f2
end
end Ke
end
section
set_option maxHeartbeats 4500000
namespace Ke
open PySem PySem.Spec L2 LamX PyProof.Rows
open Ue15 (Sel Told Ed)
def choosing (k : Nat) (e : Ed) : Ed :=
  if k = 104 ∨ k = 108 ∨ k = 106 ∨ k = 107 ∨ k = 119 ∨ k = 98 then Ue15.mapped e fun s => Ue15.caret (Ue15.stepsOf e.text k (Ue15.times e) s.hand) else
  if k = 72 ∨ k = 76 ∨ k = 74 ∨ k = 75 ∨ k = 87 ∨ k = 66 then Ue15.mapped e fun s => ⟨s.anchor, Ue15.stepsOf e.text (k + 32) (Ue15.times e) s.hand⟩ else
  if k = 120 then Ue15.mapped e (Ue15.wholeLines e.text) else
  if k = 37 then { e with sels := [(⟨0, e.text.length⟩, true)] } else
  if k = 59 then Ue15.mapped e fun s => Ue15.caret s.hand else
  if k = 44 then { e with sels := [(Ue15.mainOf e, true)] } else
  if k = 41 then { e with sels := e.sels.zipIdx.map fun x => (x.1.1, x.2 == (Ue15.mainPlace e + Ue15.times e) % e.sels.length) } else
  if k = 122 then { e with kept := some e.sels } else
  if k = 90 then keptOut e else e
theorem in_carets (k : Nat) : (rows_STEPS_OF_CARETS.lookup (k : Int)).isSome = true ↔ isMove k := by
  rw [lk_in]
  unfold isMove rows_STEPS_OF_CARETS
  simp
  omega
theorem in_hands (k : Nat) : (rows_STEPS_OF_HANDS.lookup (k : Int)).isSome = true ↔ isReach k := by
  rw [lk_in]
  unfold isReach rows_STEPS_OF_HANDS
  simp
  omega
theorem in_choosing (k : Nat) : (rows_CHOOSING.lookup (k : Int)).isSome = true ↔ (k = 120 ∨ k = 37 ∨ k = 59 ∨ k = 44 ∨ k = 41 ∨ k = 122 ∨ k = 90) := by
  rw [lk_in]
  unfold rows_CHOOSING
  simp
  omega
section
variable {P : Program} {w : World} {K : PySem.W.Frag} {mg : Str → Option Value} {base : Heap} {C : Ca}
theorem chosen (G : Gs K mg C) (TB : TabB base mg C.tc C.tP) {k : Nat} (h : k = 120 ∨ k = 37 ∨ k = 59 ∨ k = 44 ∨ k = 41 ∨ k = 122 ∨ k = 90) :
    ∃ n, rows_CHOOSING.lookup (k : Int) = some n ∧ ∀ f, mg n = some (.ref f) → HeldM P w K mg base 7 f (spEd C EInv (choosing k)) := by
  rcases h with rfl | rfl | rfl | rfl | rfl | rfl | rfl
  · exact ⟨_, rfl, fun f g => held_m (k_choose_lines G TB) (by decide) g⟩
  · exact ⟨_, rfl, fun f g => held_m (k_choose_whole_text G TB) (by decide) g⟩
  · exact ⟨_, rfl, fun f g => held_m (k_choose_hands G TB) (by decide) g⟩
  · exact ⟨_, rfl, fun f g => held_m (k_choose_main_alone G TB) (by decide) g⟩
  · exact ⟨_, rfl, fun f g => held_m (k_choose_next_main G TB) (by decide) g⟩
  · exact ⟨_, rfl, fun f g => held_m (k_keep_aside G) (by decide) g⟩
  · exact ⟨_, rfl, fun f g => held_m (k_choose_kept G) (by decide) g⟩
theorem k_do_choosing (G : Gs K mg C) (TB : TabB base mg C.tc C.tP) : C8.Cal P w K mg base 8 "do_choosing" (spEdK C (fun _ e => EInv e) choosing) [] := by
  have K_move_carets := k_move_carets (P := P) (w := w) (base := base) G TB
  have K_move_hands := k_move_hands (P := P) (w := w) (base := base) G TB
  refine cal_of G.d_do_choosing sc_do_choosing (fun _ _ _ _ _ _ us hl => match us, hl with | [_, _], _ => rfl) (fun vs H Q E h => ?_) (fun f cdv A outer s H vs Q E hr h => ?_)
  · obtain ⟨a, L, e, cq, k, rfl, _⟩ := h; rfl
  · obtain ⟨a, L, e, cq, k, rfl, hE, hI, hQ⟩ := h
    refine ⟨_, (pss_one (ps_if (pt_cmpR (op_inW G.t_STEPS_OF_CARETS) (pv 1) (C8.pe_gc rfl G.g_STEPS_OF_CARETS) rfl) (pss_one (ps_expr (C8.pe_c K_move_carets hr (by decide) rfl (pa_cons (pv 0) (pa_cons (pv 1) pa_nil))))) (pss_one (ps_if (pt_cmpR (op_inW G.t_STEPS_OF_HANDS) (pv 1) (C8.pe_gc rfl G.g_STEPS_OF_HANDS) rfl) (pss_one (ps_expr (C8.pe_c K_move_hands hr (by decide) rfl (pa_cons (pv 0) (pa_cons (pv 1) pa_nil))))) (pss_one (ps_if (pt_cmpR (op_inW G.t_CHOOSING) (pv 1) (C8.pe_gc rfl G.g_CHOOSING) rfl) (pss_cons (ps_set (i := 2) sc_do_choosing.nd rfl (Or.inl rfl) (pe_ix (ix_W G.t_CHOOSING) (C8.pe_gc rfl G.g_CHOOSING) (pv 1) (fun _ _ => rfl))) (pss_one (ps_expr (pe_callM (k := 7) (i := 2) (hr.mono (by decide)) rfl (Or.inl rfl) (pa_cons (pv 0) pa_nil))))) pss_nil)))))), ?_⟩
    refine ⟨_, rfl, (k : Int), rfl, rfl, _, rfl, bI (fun h1 => ?_) fun h1 => ?_⟩
    · have hk := (in_carets k).mp h1
      refine ⟨_, rfl, _, rfl, a, L, e, cq, k, rfl, hE, ⟨hI, hk⟩, fun H2 L2 h2 f2 => hQ _ _ ?_ f2⟩
      unfold choosing
      unfold isMove at hk
      rw [if_pos hk]
      exact h2
    have hk : ¬ isMove k := fun z => by
      rw [(in_carets k).mpr z] at h1
      cases h1
    refine ⟨_, rfl, (k : Int), rfl, rfl, _, rfl, bI (fun h2 => ?_) fun h2 => ?_⟩
    · have hk2 := (in_hands k).mp h2
      refine ⟨_, rfl, _, rfl, a, L, e, cq, k, rfl, hE, ⟨hI, hk2⟩, fun H2 L2 h2 f2 => hQ _ _ ?_ f2⟩
      unfold choosing
      unfold isMove at hk
      unfold isReach at hk2
      rw [if_neg hk, if_pos hk2]
      exact h2
    have hk2 : ¬ isReach k := fun z => by
      rw [(in_hands k).mpr z] at h2
      cases h2
    refine ⟨_, rfl, (k : Int), rfl, rfl, _, rfl, bI (fun h3 => ?_) fun h3 => ?_⟩
    · have hk3 := (in_choosing k).mp h3
      obtain ⟨n, hn, hf⟩ := chosen (P := P) (w := w) G TB hk3
      refine ⟨_, rfl, (k : Int), n, rfl, rfl, hn, fun f2 g2 => ?_⟩
      exact ⟨f2, _, rfl, hf f2 g2, _, rfl, a, L, e, cq, rfl, hE, hI, hQ⟩
    · have hk3 : ¬ (k = 120 ∨ k = 37 ∨ k = 59 ∨ k = 44 ∨ k = 41 ∨ k = 122 ∨ k = 90) := fun z => by
        rw [(in_choosing k).mpr z] at h3
        cases h3
      refine hQ _ _ ?_ (ExtN.refl _)
      unfold choosing
      unfold isMove at hk
      unfold isReach at hk2
      rw [if_neg hk, if_neg hk2]
      iterate 7 rw [if_neg (by omega)]
      exact hE
end
end Ke
end
section
set_option maxHeartbeats 4500000
namespace Ke
open Ue15 (Sel Told Ed)
/-! ### ranges in order -/
def OrdF (n : Nat) : Nat → List Ex → Prop
  | _, [] => True
  | p, e :: l => p ≤ e.1 ∧ e.1 ≤ e.2.1 ∧ e.2.1 ≤ n ∧ OrdF n e.2.1 l
theorem lenA_shift : ∀ (r : List Ex) (x y : Int), lenA (x + y) r = x + lenA y r
  | [], _, _ => rfl
  | e :: r, x, y => by
    show lenA (x + y + more1 e) r = x + lenA (y + more1 e) r
    rw [← lenA_shift r x (y + more1 e), Int.add_assoc]
theorem changed_len {t : List Nat} : ∀ {r : List Ex} {p : Nat}, OrdF t.length p r → p ≤ t.length → (((Ue15.changed t p r).length : Nat) : Int) = lenA ((t.length : Int) - p) r
  | [], p, _, hp => by
    show (((t.drop p).length : Nat) : Int) = _
    rw [List.length_drop]
    show _ = ((t.length : Int) - p)
    omega
  | (a, b, w) :: r, p, h, hp => by
    obtain ⟨h1, h2, h3, h4⟩ := h
    dsimp only at h1 h2 h3 h4
    have ih := changed_len h4 h3
    show ((((t.take a).drop p ++ (w ++ Ue15.changed t b r)).length : Nat) : Int) = lenA ((t.length : Int) - p + more1 (a, b, w)) r
    rw [List.length_append, List.length_append, List.length_drop, List.length_take]
    have e : (t.length : Int) - p + more1 (a, b, w) = ((a : Int) - p + w.length) + ((t.length : Int) - b) := by
      unfold more1
      dsimp only
      omega
    rw [e, lenA_shift, ← ih]
    omega
theorem begs_places {n : Nat} : ∀ {r : List Ex} {p more less : Nat}, OrdF n p r → less ≤ p → begs ((more : Int) - less) r = (Ue15.places more less r).map fun x => ((x.1 : Nat) : Int)
  | [], _, _, _, _, _ => rfl
  | (a, b, w) :: r, p, more, less, h, hl => by
    obtain ⟨h1, h2, h3, h4⟩ := h
    dsimp only at h1 h2 h3 h4
    have ih := begs_places (more := more + w.length) (less := less + (b - a)) h4 (by omega)
    show ((a : Int) + ((more : Int) - less)) :: begs ((more : Int) - less + more1 (a, b, w)) r = (((a + more - less : Nat) : Int)) :: (Ue15.places (more + w.length) (less + (b - a)) r).map _
    have e : ((more : Int) - less + more1 (a, b, w)) = ((more + w.length : Nat) : Int) - ((less + (b - a) : Nat) : Int) := by
      unfold more1
      dsimp only
      omega
    rw [e, ih]
    congr 1
    omega
theorem places_len : ∀ (r : List Ex) (more less : Nat), (Ue15.places more less r).length = r.length
  | [], _, _ => rfl
  | (a, b, w) :: r, more, less => by
    show (_ :: Ue15.places _ _ r).length = _
    rw [List.length_cons, places_len r, List.length_cons]
theorem places_snd : ∀ {r : List Ex} {more less i : Nat} {x : Nat × Nat} {e : Ex}, (Ue15.places more less r)[i]? = some x → r[i]? = some e → x.2 = x.1 + e.2.2.length
  | [], _, _, i, _, _, h, _ => by
    have : ([] : List (Nat × Nat))[i]? = some _ := h
    simp at this
  | (a, b, w) :: r, more, less, i, x, e, h, he => by
    cases i with
    | zero =>
      cases h
      cases he
      rfl
    | succ i => exact places_snd (r := r) (i := i) h he
theorem told_zip (s : List Sel) (m : Nat) (ps : List (Nat × Nat)) (f : Sel → Nat × Nat → Sel) : ((told s m).zip ps).map (fun x => (f x.1.1 x.2, x.1.2)) = told (s.zipWith f ps) m := by
  have key : ∀ (s : List Sel) (ps : List (Nat × Nat)) (k : Nat), (((s.zipIdx k).map fun x => (x.1, x.2 == m)).zip ps).map (fun x => (f x.1.1 x.2, x.1.2)) = ((s.zipWith f ps).zipIdx k).map fun x => (x.1, x.2 == m) := by
    intro s
    induction s with
    | nil => intro ps k; rfl
    | cons y s ih =>
      intro ps k
      cases ps with
      | nil => rfl
      | cons p ps =>
        simp only [List.zipIdx_cons, List.map_cons, List.zip_cons_cons, List.zipWith_cons_cons, ih]
  exact key s ps 0
theorem told_inj {s s2 : List Sel} {m m2 : Nat} (h : told s m = told s2 m2) (hm : m < s.length) : s = s2 ∧ m = m2 := by
  have e1 : s = s2 := by
    have := congrArg (List.map (·.1)) h
    rw [told_fst s m (fun z => z), told_fst s2 m2 (fun z => z)] at this
    simpa using this
  refine ⟨e1, ?_⟩
  have hs : s[m]? = some s[m] := List.getElem?_eq_getElem hm
  have h1 : (told s m)[m]? = some (s[m], true) := by
    unfold told
    rw [List.getElem?_map, List.getElem?_zipIdx, hs]
    simp
  rw [h, ← e1] at h1
  unfold told at h1
  rw [List.getElem?_map, List.getElem?_zipIdx, hs] at h1
  simpa using h1
end Ke
end
section
set_option maxHeartbeats 4500000
namespace Ke
open PySem PySem.Spec L2 LamX PyProof.Rows
open Ue15 (Sel Told Ed)
theorem EInv.keptOk {e : Ed} (h : EInv e) : KeptOk e := fun l hl => ⟨(h.kept l hl).le, by have := (h.kept l hl).few; omega⟩
theorem edits_eq {e : Ed} {r : List Ex} {s : List Sel} {m : Nat} {f : Sel → Nat × Nat → Sel} (es : e.sels = told s m) (h : ¬ 200 < (Ue15.changed e.text 0 r).length) :
    Ue15.edits e r f = { Ue15.withText e (Ue15.changed e.text 0 r) with sels := Ue15.tidy (told (s.zipWith f (Ue15.places 0 0 r)) m) } := by
  unfold Ue15.edits Ue15.LONG
  dsimp only
  rw [if_neg h, es, told_zip]
theorem edits_no {e : Ed} {r : List Ex} {f : Sel → Nat × Nat → Sel} (h : 200 < (Ue15.changed e.text 0 r).length) : Ue15.edits e r f = e := by
  unfold Ue15.edits Ue15.LONG
  dsimp only
  rw [if_pos h]
abbrev faceP (s : Sel) (p : Nat × Nat) : Sel := Ue15.facing s p.1 p.2
section
variable {P : Program} {w : World} {K : PySem.W.Frag} {mg : Str → Option Value} {base : Heap} {C : Ca}
def sp_exchange_at_all (C : Ca) : Sp := fun vs H Q _ => ∃ (a x : Addr) (L : Lo) (e : Ed) (cq : List Nat) (r : List Ex), vs = [.ref a, .ref x] ∧ EdAt C H a L e cq ∧ EInv e ∧ ExAt H x r ∧ r.length = e.sels.length ∧ OrdF e.text.length 0 r ∧
  ∀ H2 L2, EdAt C H2 a L2 (Ue15.edits e r faceP) cq → Fr2 C a L H L2 H2 → Q .non H2
theorem k_exchange_at_all (G : Gs K mg C) (TB : TabB base mg C.tc C.tP) : C8.Cal P w K mg base 8 "exchange_at_all" (sp_exchange_at_all C) [] := by
  have K_Editor_become := k_Editor_become (P := P) (w := w) (base := base) G TB
  have K_Editor_select := k_Editor_select (P := P) (w := w) (base := base) G TB
  have K_Selection_looks_left := k_Selection_looks_left (P := P) (w := w) (base := base) G
  have K_begins_after := k_begins_after (P := P) (w := w) (base := base) G
  have K_length_after := k_length_after (P := P) (w := w) (base := base) G
  have K_spanning := k_spanning (P := P) (w := w) (base := base) G
  have K_text_after := k_text_after (P := P) (w := w) (base := base) G
  refine cal_of G.d_exchange_at_all sc_exchange_at_all (fun _ _ _ _ _ _ us hl => match us, hl with | [_, _], _ => rfl) (fun vs H Q E h => ?_) (fun f cdv A outer s H vs Q E hr h => ?_)
  · obtain ⟨a, x, L, e, cq, r, rfl, _⟩ := h; rfl
  · obtain ⟨a, x, L, e, cq, r, rfl, hE, hI, hx, hlr, hO, hQ⟩ := h
    refine ⟨_, (pss_cons (ps_if (pt_cmpR op_gt (C8.pe_c K_length_after hr (by decide) rfl (pa_cons (pe_fld (pv 0) rfl) (pa_cons (pv 1) pa_nil))) (C8.pe_gc rfl G.c_MOST_BYTES) (nomark _)) (pss_one ps_retN) pss_nil) (pss_cons (ps_set (i := 2) sc_exchange_at_all.nd rfl (Or.inl rfl) (C8.pe_c K_begins_after hr (by decide) rfl (pa_cons (pv 1) pa_nil))) (pss_cons (ps_set (i := 3) sc_exchange_at_all.nd rfl (Or.inl rfl) (pe_lst pa_nil)) (pss_cons (ps_for PassesOwn.never rfl (KeZip.pi_zip3 (by rfl) G.b_zip (pa_cons (pe_fld (pe_fld (pv 0) rfl) rfl) (pa_cons (pv 2) (pa_cons (pv 1) pa_nil)))) (pg_tup rfl (pgs_cons (pg_name (i := 4) sc_exchange_at_all.nd rfl (Or.inl rfl)) (pgs_cons (pg_name (i := 5) sc_exchange_at_all.nd rfl (Or.inl rfl)) (pgs_cons (pg_name (i := 6) sc_exchange_at_all.nd rfl (Or.inl rfl)) pgs_nil)))) (pss_one (ps_expr (pe_bm PySem.F.plainAttrs_list PySem.F.slot_list_append PySem.F.type_list_append mt_append (pv 3) (pa_cons (C8.pe_c K_spanning hr (by decide) rfl (pa_cons (pv 5) (pa_cons (pe_op op_add (pv 5) (pe_callB call_len_seq (by rfl) G.b_len PySem.boot_len (pa_cons (pe_ix ix_tup (pv 6) pe_int (fun _ _ => rfl)) pa_nil))) (pa_cons (C8.pe_mt0 K_Selection_looks_left hr (by decide) (pv 4)) pa_nil)))) pa_nil))))) (pss_cons (ps_expr (C8.pe_mt K_Editor_become hr (by decide) (pv 0) (pa_cons (C8.pe_c K_text_after hr (by decide) rfl (pa_cons (pe_fld (pv 0) rfl) (pa_cons (pv 1) pa_nil))) pa_nil))) (pss_one (ps_expr (C8.pe_mt K_Editor_select hr (by decide) (pv 0) (pa_cons (pv 3) (pa_cons (pe_fld (pe_fld (pv 0) rfl) rfl) pa_nil)))))))))), ?_⟩
    obtain ⟨sl, m, dp, q, bs, es, hm, hps, hq, hpr, _⟩ := hE.each
    obtain ⟨hlen, hin⟩ := hI.hands es
    have lb := pr_len hpr
    rw [es, told_len] at hlr
    have txt : TxtAt H L.pt e.text := hE.txt.same (vis_sub _ _)
    have el := changed_len hO (Nat.zero_le _)
    have el2 : lenA (e.text.length : Int) r = (((Ue15.changed e.text 0 r).length : Nat) : Int) := by
      rw [el]
      congr 1
    refine ⟨_, rfl, a, C.ed, L.dx, _, _, rfl, hE.obj, G.k_Editor, G.n_Editor_text, lk_zip fe_text rfl, _, rfl, L.pt, x, e.text, r, rfl, txt, hx, _, _, rfl, rfl, _, rfl, ?_⟩
    rw [el2]
    refine dI (fun h0 => ?_) fun h0 => ?_
    · refine hQ _ _ ?_ (ExtN.refl _)
      rw [edits_no (by omega)]
      exact hE
    have hnl : ¬ 200 < (Ue15.changed e.text 0 r).length := by omega
    rw [edits_eq es hnl] at hQ
    obtain ⟨ts, hx1, hx2⟩ := id hx
    have lts := pr_len hx2
    refine ⟨_, rfl, x, r, rfl, hx, by omega, fun H1 y s1 ny hy => ?_⟩
    have eb : begs 0 r = (Ue15.places 0 0 r).map fun x => ((x.1 : Nat) : Int) := begs_places (more := 0) (less := 0) hO (Nat.le_refl _)
    rw [eb, List.map_map] at hy
    refine ⟨Nat.zero_le _, fun D nD => ?_⟩
    have hE1 := hE.same s1
    have s2 : Same H1 (upd H1 D (.lst [])) := same_new nD
    have DM := hE1.fresh nD
    have hE2 := hE1.same s2
    refine ⟨_, rfl, a, C.ed, L.dx, _, _, rfl, hE2.obj, G.k_Editor, G.n_Editor_selected, lk_zip fe_selected rfl, L.ps, C.sels, dp, _, _, rfl, s2 _ _ (s1 _ _ hps), G.k_Selections, G.n_Selections_each, lk_zip fa_each rfl, _, rfl, _, rfl, q, y, x, _, _, _, rfl, SqL.of (s2 _ _ (s1 _ _ hq)), SqL.of (s2 _ _ hy), SqL.of (s2 _ _ (s1 _ _ hx1)), ?_⟩
    have lP := places_len r 0 0
    refine for_it (KeZip.walk3 (n := sl.length) (xs := bs.map V.ref) (ys := (Ue15.places 0 0 r).map (V.int ∘ fun x => ((x.1 : Nat) : Int))) (zs := ts.map V.ref) (by rw [List.length_map]; exact lb) (by rw [List.length_map]; omega) (by rw [List.length_map]; omega))
      (fun i σ H2 => Same H1 H2 ∧ (∃ as : List Addr, H2 D = some (.lst (as.map V.ref)) ∧ Paired (SelAt C (vis (edM C a L) H2)) as ((sl.zipWith faceP (Ue15.places 0 0 r)).take i)) ∧ ∃ v4 v5 v6, σ = [some (.ref a), some (.ref x), some (.ref y), some (.ref D), v4, v5, v6])
      ⟨s2, ⟨[], upd_same, .nil⟩, none, none, none, rfl⟩ (fun i σ H3 _ ⟨e, _⟩ => ⟨SqL.of (e _ _ (s1 _ _ hq)), SqL.of (e _ _ hy), SqL.of (e _ _ (s1 _ _ hx1))⟩) ?_ ?_
    · rintro i v σ H3 H4 hlt ⟨s3, ⟨as, hD, hp⟩, v4, v5, v6, rfl⟩ ⟨T, x1, y1, z1, rfl, nT, rfl, hx3, hy3, hz3⟩
      obtain ⟨c, hc, rfl⟩ := ref_at hx3
      obtain ⟨sc, hsc, hcs⟩ := pr_get hpr hc
      obtain ⟨tt, htt, rfl⟩ := ref_at hz3
      obtain ⟨ex, hex, qq, hq1, hq2⟩ := pr_get hx2 htt
      obtain ⟨pl, hpl⟩ : ∃ pl, (Ue15.places 0 0 r)[i]? = some pl := ⟨_, List.getElem?_eq_getElem (by omega)⟩
      rw [List.getElem?_map, hpl] at hy3
      obtain rfl : V.int ((pl.1 : Nat) : Int) = y1 := Option.some.inj hy3
      have hsn := places_snd hpl hex
      have sT : Same H3 (upd H3 T (.tup [V.ref c, V.int ((pl.1 : Nat) : Int), V.ref tt])) := same_new nT
      have s5 := (s1.trans s3).trans sT
      have hE5 := hE.same s5
      obtain ⟨dc, hc2⟩ := (hcs.same (vis_sub _ _)).same s5
      refine ⟨T, _, rfl, SqT.of upd_same, rfl, _, _, rfl, _, _, rfl, _, _, rfl, rfl, ?_⟩
      refine ⟨_, rfl, .inl ⟨rfl, _, SqL.of (sT _ _ hD)⟩, _, rfl, _, rfl, _, rfl, tt, _, _, _, rfl, rfl, SqT.of (s5 _ _ hq1), rfl, _, _, rfl, .inl (SqL.of (hq2.same s5)), _, _, rfl, rfl, _, rfl, c, dc, _, rfl, hc2, lk_no no_looks, c, sc, rfl, ⟨dc, hc2⟩, pl.1, pl.1 + ex.2.2.length, decide (sc.hand < sc.anchor), ?_, fun H6 x6 s6 n6 h6 => ?_⟩
      · rw [iL_len]
        rfl
      · have hD6 := s6 _ _ (sT _ _ hD)
        have ln := pr_len hp
        rw [List.length_take] at ln
        refine ⟨D, _, _, rfl, rfl, hD6, szl (by rw [List.length_map]; omega), same_put (((s3.trans sT).trans s6)) nD, ⟨as ++ [x6], by rw [upd_same, List.map_append]; rfl, ?_⟩, _, _, _, rfl⟩
        have hzw : (sl.zipWith faceP (Ue15.places 0 0 r))[i]? = some (faceP sc pl) := by
          rw [List.getElem?_zipWith, hsc, hpl]
        rw [take_at hzw]
        rw [face_is, ← hsn] at h6
        obtain ⟨d6, h6⟩ := h6
        exact pr_app (pr_mono (fun _ _ z => sel_put ⟨_, hD6⟩ (z.same (vis_same (sT.trans s6)))) hp) (.cons (sel_put ⟨_, hD6⟩ ⟨d6, vis_in h6 (hE5.fresh n6)⟩) .nil)
    · rintro σ H3 ⟨s3, ⟨as, hD, hp⟩, v4, v5, v6, rfl⟩
      rw [List.take_of_length_le (by rw [List.length_zipWith]; omega)] at hp
      have s4 := s1.trans s3
      have hE4 := hE.same s4
      refine ⟨_, rfl, a, L.dx, _, rfl, hE4.obj, lk_no ne_become, _, rfl, a, C.ed, L.dx, _, _, rfl, hE4.obj, G.k_Editor, G.n_Editor_text, lk_zip fe_text rfl, _, rfl, L.pt, x, e.text, r, rfl, txt.same s4, hx.same s4, by omega, fun H5 yt s5 nyt hyt => ?_⟩
      have hE5 := hE4.same s5
      refine ⟨a, yt, L, e, cq, _, rfl, hE5, vis_in hyt (hE4.fresh nyt), hI.keptOk, fun H6 L6 h6 f6 => ?_⟩
      obtain ⟨sl6, m6, dp6, q6, bs6, es6, hm6, hps6, _⟩ := h6.each
      obtain ⟨e1, e2⟩ := told_inj (es.symm.trans es6) hm
      subst e1 e2
      have hch : SelsL C (vis (edM C a L) H5) D (sl.zipWith faceP (Ue15.places 0 0 r)) := SelsL.same ⟨as, vis_in hD DM, hp⟩ (vis_same s5)
      refine ⟨_, rfl, a, L6.dx, _, rfl, h6.obj, lk_no ne_select, _, rfl, _, rfl, a, C.ed, L6.dx, _, _, rfl, h6.obj, G.k_Editor, G.n_Editor_selected, lk_zip fe_selected rfl, L6.ps, C.sels, dp6, _, _, rfl, hps6, G.k_Selections, G.n_Selections_main, lk_zip fa_main rfl, ?_⟩
      exact ⟨a, D, L6, _, cq, _, m, rfl, h6, hch.ext f6, by rw [List.length_zipWith]; omega, by rw [List.length_zipWith]; omega, fun H7 L7 h7 f7 => hQ _ _ h7 (((vis_ext (ExtN.of (s4.trans s5))).trans f6).trans f7)⟩
end
end Ke
end
section
set_option maxHeartbeats 4500000
namespace Ke
open PySem PySem.Spec L2 LamX PyProof.Rows
open Ue15 (Sel Told Ed)
/-! ### what stays true of an editor -/
theorem carried_le {t u : List Nat} {p : Nat} (h : p ≤ t.length) : Ue15.carried t u p ≤ u.length := by
  rw [car_eq]
  have h1 := (cm_le t u).2
  split
  · omega
  split
  · omega
  · exact h1
theorem EInv.sels {e : Ed} {l : List Told} (h : EInv e) (g : Good e.text.length l) : EInv { e with sels := l } := ⟨h.txt, g, h.kept, h.und, h.red, h.ahd, h.pcs, h.cnt⟩
theorem EInv.text {e : Ed} {l : List Told} {u : List Nat} (h : EInv e) (hu : u.length ≤ 200) (g : Good u.length l) : EInv { Ue15.withText e u with sels := l } := by
  refine ⟨hu, g, fun k hk => ?_, h.und, h.red, h.ahd, h.pcs, h.cnt⟩
  have hk2 : (e.kept.map fun l => Ue15.tidy (l.map fun x => (⟨Ue15.carried e.text u x.1.anchor, Ue15.carried e.text u x.1.hand⟩, x.2))) = some k := hk
  cases he : e.kept with
  | none =>
    rw [he] at hk2
    cases hk2
  | some l2 =>
    rw [he] at hk2
    cases hk2
    have g2 := h.kept l2 he
    refine tidy_good (fun x hx => ?_) (by rw [List.length_map]; exact g2.few)
    obtain ⟨y, hy, rfl⟩ := (List.mem_map.mp hx)
    have := g2.le y hy
    exact hi_le ⟨carried_le this.1, carried_le this.2⟩
theorem mapped_good {e : Ed} {f : Sel → Sel} (h : EInv e) (hf : ∀ s : Sel, s.anchor ≤ e.text.length → s.hand ≤ e.text.length → Ue15.hi (f s) ≤ e.text.length) : EInv (Ue15.mapped e f) := by
  refine h.sels (tidy_good (fun x hx => ?_) (by rw [List.length_map]; exact h.sel.few))
  obtain ⟨y, hy, rfl⟩ := (List.mem_map.mp hx)
  have := h.sel.le y hy
  exact hf _ this.1 this.2
theorem places_le {t : List Nat} : ∀ {r : List Ex} {p more less : Nat}, OrdF t.length p r → p ≤ t.length → less ≤ p → ∀ x ∈ Ue15.places more less r, x.1 ≤ x.2 ∧ x.2 ≤ p + more - less + (Ue15.changed t p r).length
  | [], _, _, _, _, _, _, x, hx => by cases hx
  | (a, b, w) :: r, p, more, less, h, hp, hl, x, hx => by
    obtain ⟨h1, h2, h3, h4⟩ := h
    dsimp only at h1 h2 h3 h4
    have e : (Ue15.changed t p ((a, b, w) :: r)).length = (a - p) + (w.length + (Ue15.changed t b r).length) := by
      show ((t.take a).drop p ++ (w ++ Ue15.changed t b r)).length = _
      rw [List.length_append, List.length_append, List.length_drop, List.length_take]
      omega
    rw [e]
    rcases List.mem_cons.mp hx with z | hx
    · rw [z]
      dsimp only
      omega
    · have := places_le (more := more + w.length) (less := less + (b - a)) h4 h3 (by omega) x hx
      omega
theorem zip_mem {α β γ : Type} {f : α → β → γ} : ∀ {l : List α} {m : List β} {z : γ}, z ∈ l.zipWith f m → ∃ x ∈ l, ∃ y ∈ m, z = f x y
  | [], _, _, h => by simp at h
  | _ :: _, [], _, h => by simp at h
  | x :: l, y :: m, z, h => by
    rw [List.zipWith_cons_cons] at h
    rcases (List.mem_cons.mp h) with e | h
    · exact ⟨x, List.mem_cons_self, y, List.mem_cons_self, e⟩
    · obtain ⟨x2, h1, y2, h2, e⟩ := zip_mem h
      exact ⟨x2, List.mem_cons_of_mem _ h1, y2, List.mem_cons_of_mem _ h2, e⟩
theorem edits_good {e : Ed} {r : List Ex} {f : Sel → Nat × Nat → Sel} {s : List Sel} {m : Nat} (es : e.sels = told s m) (h : EInv e) (ho : OrdF e.text.length 0 r) (hf : ∀ s p, p.1 ≤ p.2 → Ue15.hi (f s p) ≤ p.2) : EInv (Ue15.edits e r f) := by
  by_cases hn : 200 < (Ue15.changed e.text 0 r).length
  · rw [edits_no hn]
    exact h
  · rw [edits_eq es hn]
    refine h.text (by omega) (tidy_good (fun x hx => ?_) ?_)
    · have hx2 : x.1 ∈ s.zipWith f (Ue15.places 0 0 r) := by
        have := List.mem_map_of_mem (f := fun z : Told => z.1) hx
        rw [told_fst _ m (fun z => z)] at this
        simpa using this
      obtain ⟨y, _, p, hp, ez⟩ := zip_mem hx2
      have hl := places_le ho (Nat.zero_le _) (Nat.le_refl 0) p hp
      rw [ez]
      have := hf y p hl.1
      omega
    · rw [told_len, List.length_zipWith]
      have := (h.hands es).1
      omega
/-! ### ranges of selections are in order -/
theorem ord_of {n : Nat} : ∀ {s : List Sel} {r : List Ex} {p : Nat}, Paired (fun (x : Sel) (e : Ex) => Ue15.lo x ≤ e.1 ∧ e.1 ≤ e.2.1 ∧ e.2.1 ≤ Ue15.hi x) s r → Apart s → (∀ x ∈ s, Ue15.hi x ≤ n) → (∀ x l, s = x :: l → p ≤ Ue15.lo x) → OrdF n p r
  | _, _, _, .nil, _, _, _ => trivial
  | x :: s, _ :: _, p, .cons h t, ha, hn, hp => by
    have h1 := hp x s rfl
    have h2 := hn x List.mem_cons_self
    refine ⟨by omega, h.2.1, by omega, ord_of t (Apart.tail ha) (fun y hy => hn y (List.mem_cons_of_mem _ hy)) fun y l el => ?_⟩
    subst el
    have := ha.1
    omega
theorem pr_map {α β : Type} {F : α → β → Prop} {f : α → β} : ∀ {l : List α}, (∀ x ∈ l, F x (f x)) → Paired F l (l.map f)
  | [], _ => .nil
  | x :: l, h => .cons (h x List.mem_cons_self) (pr_map fun y hy => h y (List.mem_cons_of_mem _ hy))
theorem pr_zip {α β γ : Type} {F : α → γ → Prop} {f : α → β → γ} (hf : ∀ x y, F x (f x y)) : ∀ {l : List α} {m : List β}, l.length = m.length → Paired F l (l.zipWith f m)
  | [], _, _ => .nil
  | x :: l, [], h => by cases h
  | x :: l, y :: m, h => .cons (hf x y) (pr_zip hf (Nat.succ.inj h))
/-- the editor's selections, apart and within the text -/
theorem EInv.ap {e : Ed} (h : EInv e) {s : List Sel} {m : Nat} (es : e.sels = told s m) : Apart s ∧ ∀ x ∈ s, Ue15.hi x ≤ e.text.length := by
  have h1 := h.sel.ap
  rw [es, told_fst s m (fun z => z)] at h1
  exact ⟨by simpa using h1, fun x hx => hi_le ((h.hands es).2 x hx)⟩
theorem told_apart {s : List Sel} (m : Nat) (h : Apart s) : Ue15.tidy (told s m) = told s m := tidy_apart (by
  rw [told_fst s m (fun z => z)]
  simpa using h)
/-! ### other words for the same ranges -/
theorem edits_congr {e : Ed} {r : List Ex} {f g : Sel → Nat × Nat → Sel} (h : ∀ p ∈ Ue15.places 0 0 r, ∀ s, f s p = g s p) : Ue15.edits e r f = Ue15.edits e r g := by
  unfold Ue15.edits
  dsimp only
  split
  · rfl
  · congr 2
    refine List.map_congr_left fun x hx => ?_
    rw [h x.2 (List.of_mem_zip hx).2]
theorem places_mem : ∀ {r : List Ex} {more less : Nat} {x : Nat × Nat}, x ∈ Ue15.places more less r → ∃ e ∈ r, x.2 = x.1 + e.2.2.length
  | [], _, _, _, hh => by cases hh
  | (a, b, w) :: r, more, less, x, h => by
    rcases List.mem_cons.mp h with z | h
    · exact ⟨_, List.mem_cons_self, by rw [z]⟩
    · obtain ⟨e, h1, h2⟩ := places_mem (r := r) h
      exact ⟨e, List.mem_cons_of_mem _ h1, h2⟩
theorem face_caret (s : Sel) (p : Nat) : Ue15.facing s p p = Ue15.caret p := by
  unfold Ue15.facing Ue15.caret
  split <;> rfl
theorem edits_none {e : Ed} {r : List Ex} (h : ∀ x ∈ r, x.2.2 = []) : Ue15.edits e r faceP = Ue15.edits e r fun _ x => Ue15.caret x.2 := edits_congr fun p hp s => by
  obtain ⟨x, h1, h2⟩ := places_mem hp
  rw [h x h1] at h2
  have e : p.2 = p.1 := h2
  show Ue15.facing s p.1 p.2 = _
  rw [e, face_caret]
theorem face_own (s : Sel) : Ue15.facing s (Ue15.lo s) (Ue15.hi s) = s := by
  obtain ⟨a, h⟩ := s
  unfold Ue15.facing Ue15.lo Ue15.hi
  dsimp only
  split
  · rw [Nat.min_eq_right (by omega), Nat.max_eq_left (by omega)]
  · rw [Nat.min_eq_left (by omega), Nat.max_eq_right (by omega)]
theorem places_same : ∀ {r : List Ex} {n p q : Nat}, (∀ x ∈ r, x.2.2.length = x.2.1 - x.1) → OrdF n p r → Ue15.places q q r = r.map fun x => (x.1, x.2.1)
  | [], _, _, _, _, _ => rfl
  | (a, b, w) :: r, n, p, q, h, ho => by
    obtain ⟨h1, h2, h3, h4⟩ := ho
    have hw : w.length = b - a := h _ List.mem_cons_self
    dsimp only at h1 h2 h3 h4
    show (a + q - q, a + q - q + w.length) :: Ue15.places (q + w.length) (q + (b - a)) r = (a, b) :: r.map _
    rw [hw, places_same (fun x hx => h x (List.mem_cons_of_mem _ hx)) h4]
    congr 1
    simp
    omega
theorem lenA_same : ∀ {r : List Ex} {n p : Nat} (x : Int), (∀ x ∈ r, x.2.2.length = x.2.1 - x.1) → OrdF n p r → lenA x r = x
  | [], _, _, _, _, _ => rfl
  | (a, b, w) :: r, n, p, x, h, ho => by
    obtain ⟨h1, h2, h3, h4⟩ := ho
    have hw : w.length = b - a := h _ List.mem_cons_self
    dsimp only at h1 h2 h3 h4
    show lenA (x + more1 (a, b, w)) r = x
    rw [lenA_same _ (fun x hx => h x (List.mem_cons_of_mem _ hx)) h4]
    unfold more1
    dsimp only
    omega
/-- as many bytes for those that are there: the selections stay -/
theorem edits_same {e : Ed} {s : List Sel} {m : Nat} {W : Sel → List Nat} (h : EInv e) (es : e.sels = told s m) (hW : ∀ x ∈ s, (W x).length = Ue15.hi x - Ue15.lo x) :
    OrdF e.text.length 0 (s.map fun x => (Ue15.lo x, Ue15.hi x, W x)) ∧ (Ue15.changed e.text 0 (s.map fun x => (Ue15.lo x, Ue15.hi x, W x))).length = e.text.length ∧
    Ue15.edits e (s.map fun x => (Ue15.lo x, Ue15.hi x, W x)) faceP = Ue15.withText e (Ue15.changed e.text 0 (s.map fun x => (Ue15.lo x, Ue15.hi x, W x))) := by
  obtain ⟨ha, hb⟩ := h.ap es
  have ho : OrdF e.text.length 0 (s.map fun x => (Ue15.lo x, Ue15.hi x, W x)) := ord_of (pr_map fun x _ => ⟨Nat.le_refl _, lo_hi x, Nat.le_refl _⟩) ha hb fun _ _ _ => Nat.zero_le _
  have hw : ∀ x ∈ s.map (fun x => ((Ue15.lo x, Ue15.hi x, W x) : Ex)), x.2.2.length = x.2.1 - x.1 := fun x hx => by
    obtain ⟨y, hy, rfl⟩ := (List.mem_map.mp hx)
    exact hW y hy
  have hl : (Ue15.changed e.text 0 (s.map fun x => (Ue15.lo x, Ue15.hi x, W x))).length = e.text.length := by
    have h1 := changed_len ho (Nat.zero_le _)
    rw [lenA_same _ hw ho] at h1
    omega
  refine ⟨ho, hl, ?_⟩
  have ht := h.txt
  rw [edits_eq es (by omega), places_same hw ho, List.map_map]
  have ez : s.zipWith faceP (s.map ((fun x => (x.1, x.2.1)) ∘ fun x => ((Ue15.lo x, Ue15.hi x, W x) : Ex))) = s := by
    apply List.ext_getElem?
    intro i
    rw [List.getElem?_zipWith, List.getElem?_map]
    cases s[i]? with
    | none => rfl
    | some x => exact congrArg some (face_own x)
  rw [ez, told_apart m ha, ← es]
  rfl
end Ke
end
section
set_option maxHeartbeats 4500000
namespace Ke
open PySem PySem.Spec L2 LamX PyProof.Rows
open Ue15 (Sel Told Ed)
theorem PcsAt.same {H H2 : Hp} {p : Addr} {l : List (List Nat)} (h : PcsAt H p l) (s : Same H H2) : PcsAt H2 p l := h.ext (ExtN.of s)
theorem told_fsts (s : List Sel) (m : Nat) : (told s m).map (fun x => x.1) = s := by
  rw [told_fst s m (fun z => z)]
  simp
theorem zip_fst {β γ : Type} (s : List Sel) (m : Nat) (ws : List β) (f : Sel → β → γ) : (told s m).zipWith (fun x w => f x.1 w) ws = s.zipWith f ws := by
  conv => rhs; rw [← told_fsts s m]
  rw [List.zipWith_map_left]
/-- pieces, each of them new -/
def PcsNew (H0 H : Hp) (p : Addr) (l : List (List Nat)) : Prop := ∃ as : List Addr, H p = some (.lst (as.map V.ref)) ∧ Paired (fun c w => H0 c = none ∧ TxtAt H c w) as l
theorem PcsNew.pcs {H0 H : Hp} {p : Addr} {l : List (List Nat)} (h : PcsNew H0 H p l) : PcsAt H p l := by
  obtain ⟨as, h1, h2⟩ := h
  exact ⟨as, h1, pr_mono (fun _ _ z => z.2) h2⟩
def FN (H0 : Hp) (M : List Addr) (D : Addr) (H : Hp) (v : V) (t : List Nat) : Prop := ∃ x, v = .ref x ∧ x ≠ D ∧ H0 x = none ∧ TxtAt (vis M H) x t
theorem FN.mono {H0 : Hp} {M : List Addr} {D : Addr} (H1 H2 : Hp) (v : V) (t : List Nat) (h : FN H0 M D H1 v t) (b : But D H1 H2) : FN H0 M D H2 v t := by
  obtain ⟨x, e, n, n0, hx⟩ := h
  exact ⟨x, e, n, n0, vis_but b _ _ hx n⟩
theorem FN.all {H0 : Hp} {M : List Addr} {D : Addr} {H : Hp} : ∀ {ys : List V} {ss : List (List Nat)}, Paired (FN H0 M D H) ys ss → ∃ as : List Addr, ys = as.map V.ref ∧ Paired (fun c w => H0 c = none ∧ TxtAt (vis M H) c w) as ss
  | _, _, .nil => ⟨[], rfl, .nil⟩
  | _, _, .cons ⟨x, e, _, n0, hx⟩ t => by
    obtain ⟨as, e2, h2⟩ := FN.all t
    exact ⟨x :: as, by rw [e, e2]; rfl, .cons ⟨n0, hx⟩ h2⟩
theorem none_of {H H2 : Hp} {x : Addr} (s : Same H H2) (n : H2 x = none) : H x = none := by
  cases h : H x with
  | none => rfl
  | some o =>
    rw [s _ _ h] at n
    cases n
section
variable {P : Program} {w : World} {K : PySem.W.Frag} {mg : Str → Option Value} {base : Heap} {C : Ca}
def sp_bytes_of_each (C : Ca) : Sp := fun vs H Q _ => ∃ (a : Addr) (L : Lo) (e : Ed) (cq : List Nat), vs = [.ref a] ∧ EdAt C H a L e cq ∧ EInv e ∧
  ∀ H2 y, Same H H2 → H y = none → PcsNew H (vis (edM C a L) H2) y (e.sels.map fun x => Ue15.slice e.text (Ue15.lo x.1) (Ue15.hi x.1)) → Q (.ref y) H2
theorem k_bytes_of_each (G : Gs K mg C) : C8.Cal P w K mg base 2 "bytes_of_each" (sp_bytes_of_each C) [] := by
  have K_Selection_begin := k_Selection_begin (P := P) (w := w) (base := base) G
  have K_Selection_end := k_Selection_end (P := P) (w := w) (base := base) G
  refine cal_of G.d_bytes_of_each sc_bytes_of_each (fun _ _ _ _ _ _ us hl => match us, hl with | [_], _ => rfl) (fun vs H Q E h => ?_) (fun f cdv A outer s H vs Q E hr h => ?_)
  · obtain ⟨a, L, e, cq, rfl, _⟩ := h; rfl
  · obtain ⟨a, L, e, cq, rfl, hE, hI, hQ⟩ := h
    refine ⟨_, (pss_one (ps_ret (pe_lc (own := [("one", 1)]) (g := gName 1) (tt := tYes) (te := (tSl (rSlL K) (tFld K (tVar 0) "text") (tPart (tMeth C.sel "begin" (sp_sel C vLo) [] C8.E0 (tVar 1) tNil)) (tPart (tMeth C.sel "end" (sp_sel C vHi) [] C8.E0 (tVar 1) tNil)))) rfl sc_bytes_of_each.nd (pi_list (pe_fld (pe_fld (pv 0) rfl) rfl)) (blkOk_by (own := [("one", 1)]) (N := N_bytes_of_each) (sc := defScope s_bytes_of_each) (by decide +kernel)) (fun _ _ _ _ _ => (pg_name (i := 1) sc_bytes_of_each.nd rfl (Or.inl rfl))) (fun _ _ _ _ _ => pts_nil) (fun _ _ _ _ _ => (pe_slice sl_list (pe_fld (pv 0) rfl) (po_some (C8.pe_mt0 K_Selection_begin hr (by decide) (pv 1))) (po_some (C8.pe_mt0 K_Selection_end hr (by decide) (pv 1)))))))), ?_⟩
    obtain ⟨sl, m, dp, q, bs, es, hm, hps, hq, hpr, _⟩ := hE.each
    obtain ⟨hlen, hin⟩ := hI.hands es
    have lb := pr_len hpr
    rw [es, told_fst sl m (fun x => Ue15.slice e.text (Ue15.lo x) (Ue15.hi x))] at hQ
    refine ⟨_, rfl, a, C.ed, L.dx, _, _, rfl, hE.obj, G.k_Editor, G.n_Editor_selected, lk_zip fe_selected rfl, L.ps, C.sels, dp, _, _, rfl, hps, G.k_Selections, G.n_Selections_each, lk_zip fa_each rfl, q, rfl, ⟨_, SqL.of hq⟩, fun D nD => ?_⟩
    have DM := hE.fresh nD
    refine lc_map (FN H (edM C a L) D) (bs := sl.map fun x => Ue15.slice e.text (Ue15.lo x) (Ue15.hi x)) nD hq (by rw [List.length_map, List.length_map]; exact lb) (by rw [List.length_map]; omega) FN.mono (fun _ => rfl) ?_ ?_
    · intro i x b H2 Q2 hx hb s2 ⟨acc, hD⟩ h2
      obtain ⟨c, hc, rfl⟩ := ref_at hx
      obtain ⟨sc, hsc, hcs⟩ := pr_get hpr hc
      have hc2 := (hcs.same (vis_sub _ _)).same s2
      obtain ⟨dc, hc3⟩ := id hc2
      have hE2 := hE.same s2
      have txt2 : TxtAt H2 L.pt e.text := hE2.txt.same (vis_sub _ _)
      refine ⟨_, rfl, a, C.ed, L.dx, _, _, rfl, hE2.obj, G.k_Editor, G.n_Editor_text, lk_zip fe_text rfl, _, rfl, c, dc, _, rfl, hc3, lk_no no_begin, c, sc, rfl, hc2, _, rfl, _, rfl, c, dc, _, rfl, hc3, lk_no no_end, c, sc, rfl, hc2, _, rfl, L.pt, _, rfl, SqL.of txt2, fun z nz => ?_⟩
      rw [cut_nat]
      refine h2 _ _ (same_new nz) ⟨z, rfl, fun e => (by rw [e, hD] at nz; cases nz), none_of s2 nz, ?_⟩
      rw [map_at hsc hb]
      exact vis_in upd_same (hE2.fresh nz)
    · intro H2 ys s2 hD hp
      obtain ⟨as, e1, h1⟩ := FN.all hp
      rw [e1] at hD
      exact hQ _ _ s2 nD ⟨as, vis_in hD DM, h1⟩
def sp_exchanges_of_each (C : Ca) : Sp := fun vs H Q _ => ∃ (a y : Addr) (L : Lo) (e : Ed) (cq : List Nat) (ws : List (List Nat)), vs = [.ref a, .ref y] ∧ EdAt C H a L e cq ∧ EInv e ∧ PcsAt H y ws ∧ ws.length = e.sels.length ∧
  ∀ H2 x, Same H H2 → H x = none → ExAt H2 x (e.sels.zipWith (fun x w => (Ue15.lo x.1, Ue15.hi x.1, w)) ws) → Q (.ref x) H2
theorem k_exchanges_of_each (G : Gs K mg C) : C8.Cal P w K mg base 2 "exchanges_of_each" (sp_exchanges_of_each C) [] := by
  have K_Selection_begin := k_Selection_begin (P := P) (w := w) (base := base) G
  have K_Selection_end := k_Selection_end (P := P) (w := w) (base := base) G
  refine cal_of G.d_exchanges_of_each sc_exchanges_of_each (fun _ _ _ _ _ _ us hl => match us, hl with | [_, _], _ => rfl) (fun vs H Q E h => ?_) (fun f cdv A outer s H vs Q E hr h => ?_)
  · obtain ⟨a, y, L, e, cq, ws, rfl, _⟩ := h; rfl
  · obtain ⟨a, y, L, e, cq, ws, rfl, hE, hI, ⟨as, hy1, hy2⟩, hl, hQ⟩ := h
    refine ⟨_, (pss_one (ps_ret (pe_lc (own := [("one", 2), ("put", 3)]) (g := gTup K 2 (gCons (gName 2) (gCons (gName 3) gNil))) (tt := tYes) (te := (tTup (tCons (tMeth C.sel "begin" (sp_sel C vLo) [] C8.E0 (tVar 2) tNil) (tCons (tMeth C.sel "end" (sp_sel C vHi) [] C8.E0 (tVar 2) tNil) (tCons (tVar 3) tNil))))) rfl sc_exchanges_of_each.nd (pi_zip (by rfl) G.b_zip (pa_cons (pe_fld (pe_fld (pv 0) rfl) rfl) (pa_cons (pv 1) pa_nil))) (blkOk_by (own := [("one", 2), ("put", 3)]) (N := N_exchanges_of_each) (sc := defScope s_exchanges_of_each) (by decide +kernel)) (fun _ _ _ _ _ => (pg_tup rfl (pgs_cons (pg_name (i := 2) sc_exchanges_of_each.nd rfl (Or.inl rfl)) (pgs_cons (pg_name (i := 3) sc_exchanges_of_each.nd rfl (Or.inl rfl)) pgs_nil)))) (fun _ _ _ _ _ => pts_nil) (fun _ _ _ _ _ => (pe_tup (pa_cons (C8.pe_mt0 K_Selection_begin hr (by decide) (pv 2)) (pa_cons (C8.pe_mt0 K_Selection_end hr (by decide) (pv 2)) (pa_cons (pv 3) pa_nil)))))))), ?_⟩
    obtain ⟨sl, m, dp, q, bs, es, hm, hps, hq, hpr, _⟩ := hE.each
    obtain ⟨hlen, hin⟩ := hI.hands es
    have lb := pr_len hpr
    have ly := pr_len hy2
    rw [es, told_len] at hl
    rw [es, zip_fst sl m ws fun x w => ((Ue15.lo x, Ue15.hi x, w) : Ex)] at hQ
    refine ⟨_, rfl, a, C.ed, L.dx, _, _, rfl, hE.obj, G.k_Editor, G.n_Editor_selected, lk_zip fe_selected rfl, L.ps, C.sels, dp, _, _, rfl, hps, G.k_Selections, G.n_Selections_each, lk_zip fa_each rfl, _, rfl, q, y, _, _, rfl, SqL.of hq, SqL.of hy1, fun D nD => ?_⟩
    refine lc_mapZ (FX D) (bs := sl.zipWith (fun x w => ((Ue15.lo x, Ue15.hi x, w) : Ex)) ws) nD hq hy1 (by rw [List.length_map, List.length_zipWith]; omega) (by rw [List.length_map, List.length_zipWith]; omega) (by rw [List.length_zipWith]; omega) FX.mono (fun _ _ => rfl) ?_ ?_
    · intro i x z b H2 Q2 hx hz hb s2 ⟨acc, hD⟩ h2
      obtain ⟨c, hc, rfl⟩ := ref_at hx
      obtain ⟨sc, hsc, hcs⟩ := pr_get hpr hc
      obtain ⟨t, ht, rfl⟩ := ref_at hz
      obtain ⟨wt, hwt, htt⟩ := pr_get hy2 ht
      have hc2 := (hcs.same (vis_sub _ _)).same s2
      obtain ⟨dc, hc3⟩ := id hc2
      have tD : t ≠ D := ne_of_none htt nD
      refine ⟨_, rfl, c, dc, _, rfl, hc3, lk_no no_begin, c, sc, rfl, hc2, _, rfl, c, dc, _, rfl, hc3, lk_no no_end, c, sc, rfl, hc2, _, rfl, ?_⟩
      rw [List.getElem?_zipWith, hsc, hwt] at hb
      cases hb
      refine ⟨Nat.le_of_lt (szl (by show 3 ≤ 10000000; decide)), fun T nT => h2 _ _ (same_new nT) ⟨T, t, rfl, fun e => (by rw [e, hD] at nT; cases nT), tD, upd_same, ?_⟩⟩
      exact (TxtAt.same htt s2).same (same_new nT)
    · intro H2 ys s2 hD hp
      exact hQ _ _ s2 nD (FX.list hp hD)
def sp_exchange_for_as_many (C : Ca) : Sp := fun vs H Q _ => ∃ (a y : Addr) (L : Lo) (e : Ed) (cq : List Nat) (s : List Sel) (m : Nat) (W : Sel → List Nat), vs = [.ref a, .ref y] ∧ EdAt C H a L e cq ∧ EInv e ∧ e.sels = told s m ∧ PcsAt H y (s.map W) ∧ (∀ x ∈ s, (W x).length = Ue15.hi x - Ue15.lo x) ∧
  ∀ H2 L2, EdAt C H2 a L2 (Ue15.edits e (s.map fun x => (Ue15.lo x, Ue15.hi x, W x)) faceP) cq → Fr2 C a L H L2 H2 → Q .non H2
theorem k_exchange_for_as_many (G : Gs K mg C) (TB : TabB base mg C.tc C.tP) : C8.Cal P w K mg base 8 "exchange_for_as_many" (sp_exchange_for_as_many C) [] := by
  have K_Editor_become := k_Editor_become (P := P) (w := w) (base := base) G TB
  have K_exchanges_of_each := k_exchanges_of_each (P := P) (w := w) (base := base) G
  have K_text_after := k_text_after (P := P) (w := w) (base := base) G
  refine cal_of G.d_exchange_for_as_many sc_exchange_for_as_many (fun _ _ _ _ _ _ us hl => match us, hl with | [_, _], _ => rfl) (fun vs H Q E h => ?_) (fun f cdv A outer s H vs Q E hr h => ?_)
  · obtain ⟨a, y, L, e, cq, s, m, W, rfl, _⟩ := h; rfl
  · obtain ⟨a, y, L, e, cq, sl, m, W, rfl, hE, hI, es, hy, hW, hQ⟩ := h
    refine ⟨_, (pss_one (ps_expr (C8.pe_mt K_Editor_become hr (by decide) (pv 0) (pa_cons (C8.pe_c K_text_after hr (by decide) rfl (pa_cons (pe_fld (pv 0) rfl) (pa_cons (C8.pe_c K_exchanges_of_each hr (by decide) rfl (pa_cons (pv 0) (pa_cons (pv 1) pa_nil))) pa_nil))) pa_nil)))), ?_⟩
    obtain ⟨ho, hl, hed⟩ := edits_same hI es hW
    rw [hed] at hQ
    have ht := hI.txt
    refine ⟨_, rfl, a, L.dx, _, rfl, hE.obj, lk_no ne_become, _, rfl, a, C.ed, L.dx, _, _, rfl, hE.obj, G.k_Editor, G.n_Editor_text, lk_zip fe_text rfl, _, rfl, _, rfl, a, y, L, e, cq, sl.map W, rfl, hE, hI, hy, by rw [es, told_len, List.length_map], fun H1 x s1 nx hx => ?_⟩
    rw [es, zip_fst sl m _ fun x w => ((Ue15.lo x, Ue15.hi x, w) : Ex)] at hx
    have er : sl.zipWith (fun x w => ((Ue15.lo x, Ue15.hi x, w) : Ex)) (sl.map W) = sl.map fun x => (Ue15.lo x, Ue15.hi x, W x) := by
      rw [List.zipWith_map_right, List.zipWith_self]
    rw [er] at hx
    have hE1 := hE.same s1
    refine ⟨L.pt, x, e.text, _, rfl, hE1.txt.same (vis_sub _ _), hx, by omega, fun H2 yt s2 nyt hyt => ?_⟩
    have hE2 := hE1.same s2
    exact ⟨a, yt, L, e, cq, _, rfl, hE2, vis_in hyt (hE1.fresh nyt), hI.keptOk, fun H3 L3 h3 f3 => hQ _ _ h3 ((vis_ext (ExtN.of (s1.trans s2))).trans f3)⟩
theorem k_copy_pieces (G : Gs K mg C) : C8.Cal P w K mg base 3 "copy_pieces" (spEd C EInv Ue15.copied) [] := by
  have K_bytes_of_each := k_bytes_of_each (P := P) (w := w) (base := base) G
  refine cal_of G.d_copy_pieces sc_copy_pieces (fun _ _ _ _ _ _ us hl => match us, hl with | [_], _ => rfl) (fun vs H Q E h => ?_) (fun f cdv A outer s H vs Q E hr h => ?_)
  · obtain ⟨a, L, e, cq, rfl, _⟩ := h; rfl
  · obtain ⟨a, L, e, cq, rfl, hE, hI, hQ⟩ := h
    refine ⟨_, (pss_one (ps_fld (pv 0) (C8.pe_c K_bytes_of_each hr (by decide) rfl (pa_cons (pv 0) pa_nil)) rfl)), ?_⟩
    refine ⟨_, rfl, a, L, e, cq, rfl, hE, hI, fun H1 y s1 ny hy => ?_⟩
    have hE1 := hE.same s1
    refine ⟨_, rfl, a, C.ed, L.dx, _, rfl, hE1.obj, G.k_Editor, G.n_Editor_pieces, ed_few _, ?_⟩
    rw [put_ed fe_pieces (edi (by decide))]
    obtain ⟨h2, f2⟩ := hE1.put (L2 := { L with ppc := y }) (e2 := Ue15.copied e) ⟨rfl, rfl, rfl, rfl, rfl, rfl, rfl, rfl, rfl, rfl, rfl, rfl, rfl, rfl, rfl, rfl, rfl⟩ hE1.txt hE1.sel hE1.kept hy.pcs hE1.srch hE1.prm hE1.last hE1.mac
    exact hQ _ _ h2 ((vis_ext (ExtN.of s1)).trans f2)
theorem slice_len {t : List Nat} {a b : Nat} (h : b ≤ t.length) : (Ue15.slice t a b).length = b - a := by
  unfold Ue15.slice
  rw [List.length_drop, List.length_take]
  omega
theorem EInv.copied {e : Ed} (h : EInv e) : EInv (Ue15.copied e) := by
  refine ⟨h.txt, h.sel, h.kept, h.und, h.red, h.ahd, ⟨?_, fun w hw => ?_⟩, h.cnt⟩
  · show (e.sels.map _).length ≤ 30
    rw [List.length_map]
    exact h.sel.few
  · obtain ⟨x, hx, rfl⟩ := List.mem_map.mp hw
    have h1 := hi_le (h.sel.le x hx)
    have h2 := h.txt
    rw [slice_len h1]
    omega
theorem k_take_out (G : Gs K mg C) (TB : TabB base mg C.tc C.tP) : C8.Cal P w K mg base 9 "take_out" (spEd C EInv Ue15.taken) [] := by
  have K_copy_pieces := k_copy_pieces (P := P) (w := w) (base := base) G
  have K_exchange_at_all := k_exchange_at_all (P := P) (w := w) (base := base) G TB
  have K_exchanges_of_each := k_exchanges_of_each (P := P) (w := w) (base := base) G
  refine cal_of G.d_take_out sc_take_out (fun _ _ _ _ _ _ us hl => match us, hl with | [_], _ => rfl) (fun vs H Q E h => ?_) (fun f cdv A outer s H vs Q E hr h => ?_)
  · obtain ⟨a, L, e, cq, rfl, _⟩ := h; rfl
  · obtain ⟨a, L, e, cq, rfl, hE, hI, hQ⟩ := h
    refine ⟨_, (pss_cons (ps_expr (C8.pe_c K_copy_pieces hr (by decide) rfl (pa_cons (pv 0) pa_nil))) (pss_one (ps_expr (C8.pe_c K_exchange_at_all hr (by decide) rfl (pa_cons (pv 0) (pa_cons (C8.pe_c K_exchanges_of_each hr (by decide) rfl (pa_cons (pv 0) (pa_cons (pe_lc (own := [("one", 1)]) (g := gName 1) (tt := tYes) (te := (tLst tNil)) rfl sc_take_out.nd (pi_list (pe_fld (pe_fld (pv 0) rfl) rfl)) (blkOk_by (own := [("one", 1)]) (N := N_take_out) (sc := defScope s_take_out) (by decide +kernel)) (fun _ _ _ _ _ => (pg_name (i := 1) sc_take_out.nd rfl (Or.inl rfl))) (fun _ _ _ _ _ => pts_nil) (fun _ _ _ _ _ => (pe_lst pa_nil))) pa_nil))) pa_nil)))))), ?_⟩
    refine ⟨_, rfl, a, L, e, cq, rfl, hE, hI, fun H1 L1 hE1 f1 => ?_⟩
    have hI1 := hI.copied
    obtain ⟨sl, m, dp, q, bs, es, hm, hps, hq, hpr, _⟩ := hE1.each
    obtain ⟨hlen, hin⟩ := hI1.hands es
    have lb := pr_len hpr
    refine ⟨_, rfl, _, rfl, _, rfl, a, C.ed, L1.dx, _, _, rfl, hE1.obj, G.k_Editor, G.n_Editor_selected, lk_zip fe_selected rfl, L1.ps, C.sels, dp, _, _, rfl, hps, G.k_Selections, G.n_Selections_each, lk_zip fa_each rfl, q, rfl, ⟨_, SqL.of hq⟩, fun D nD => ?_⟩
    refine lc_map (FT [] D) (bs := sl.map fun _ => ([] : List Nat)) nD hq (by rw [List.length_map, List.length_map]; exact lb) (by rw [List.length_map]; omega) FT.mono (fun _ => rfl) ?_ ?_
    · intro i x b H2 Q2 hx hb s2 ⟨acc, hD⟩ h2
      obtain ⟨c, hc, rfl⟩ := ref_at hx
      obtain ⟨sc, hsc, hcs⟩ := pr_get hpr hc
      refine ⟨Nat.zero_le _, fun z nz => h2 _ _ (same_new nz) ⟨z, rfl, fun e => (by rw [e, hD] at nz; cases nz), ?_⟩⟩
      rw [map_at hsc hb]
      exact vis_in upd_same (by simp)
    · intro H2 ys s2 hD hp
      have hE2 := hE1.same s2
      have hpc : PcsAt H2 D (sl.map fun _ => ([] : List Nat)) := (FT.list hp hD (by simp)).same (vis_sub _ _)
      refine ⟨a, D, L1, _, cq, _, rfl, hE2, hI1, hpc, by rw [es, told_len, List.length_map], fun H3 x s3 nx hx => ?_⟩
      rw [es, zip_fst sl m _ fun x w => ((Ue15.lo x, Ue15.hi x, w) : Ex)] at hx
      have er : sl.zipWith (fun x w => ((Ue15.lo x, Ue15.hi x, w) : Ex)) (sl.map fun _ => []) = e.sels.map fun x => (Ue15.lo x.1, Ue15.hi x.1, []) := by
        have es0 : e.sels = told sl m := es
        rw [List.zipWith_map_right, List.zipWith_self, es0, told_fst sl m fun x => ((Ue15.lo x, Ue15.hi x, []) : Ex)]
      rw [er] at hx
      obtain ⟨ha, hb⟩ := hI1.ap es
      have ho : OrdF (Ue15.copied e).text.length 0 (e.sels.map fun x => (Ue15.lo x.1, Ue15.hi x.1, [])) := by
        rw [← er, List.zipWith_map_right, List.zipWith_self]
        exact ord_of (pr_map fun x _ => ⟨Nat.le_refl _, lo_hi x, Nat.le_refl _⟩) ha hb fun _ _ _ => Nat.zero_le _
      refine ⟨a, x, L1, _, cq, _, rfl, hE2.same s3, hI1, hx, by rw [List.length_map]; rfl, ho, fun H4 L4 h4 f4 => hQ _ _ ?_ ((f1.trans (vis_ext (ExtN.of (s2.trans s3)))).trans f4)⟩
      rw [edits_none (fun x hx => by
        obtain ⟨y, _, rfl⟩ := List.mem_map.mp hx
        rfl)] at h4
      exact h4
end
end Ke
end
section
set_option maxHeartbeats 4500000
namespace Ke
open PySem PySem.Spec L2 LamX PyProof.Rows
open Ue15 (Sel Told Ed)
theorem again_iL (w : List Nat) : ∀ n : Nat, (List.replicate n (iL w)).flatten = iL (Ue15.again w n)
  | 0 => rfl
  | n + 1 => by
    rw [List.replicate_succ, List.flatten_cons, again_iL w n]
    show _ = iL (w ++ Ue15.again w n)
    rw [iL_app]
theorem flat_le : ∀ (l : List (List Nat)), (∀ w ∈ l, w.length ≤ 200) → l.flatten.length ≤ 200 * l.length
  | [], _ => Nat.zero_le _
  | w :: l, h => by
    have h1 := h w List.mem_cons_self
    have h2 := flat_le l fun x hx => h x (List.mem_cons_of_mem _ hx)
    rw [List.flatten_cons, List.length_append, List.length_cons]
    omega
theorem mul_le {a b c d : Nat} (h1 : a ≤ c) (h2 : b ≤ d) : a * b ≤ c * d := Nat.mul_le_mul h1 h2
section
variable {P : Program} {w : World} {K : PySem.W.Frag} {mg : Str → Option Value} {base : Heap} {C : Ca}
def sp_puts_for_each (C : Ca) : Sp := fun vs H Q _ => ∃ (a : Addr) (L : Lo) (e : Ed) (cq : List Nat), vs = [.ref a] ∧ EdAt C H a L e cq ∧ EInv e ∧
  ∀ H2 y, Same H H2 → H y = none → PcsAt H2 y ((Ue15.piecesFor e).map fun w => Ue15.again w (Ue15.times e)) → Q (.ref y) H2
theorem k_puts_for_each (G : Gs K mg C) : C8.Cal P w K mg base 2 "puts_for_each" (sp_puts_for_each C) [] := by
  have K_Editor_times := k_Editor_times (P := P) (w := w) (base := base) G
  refine cal_of G.d_puts_for_each sc_puts_for_each (fun _ _ _ _ _ _ us hl => match us, hl with | [_], _ => rfl) (fun vs H Q E h => ?_) (fun f cdv A outer s H vs Q E hr h => ?_)
  · obtain ⟨a, L, e, cq, rfl, _⟩ := h; rfl
  · obtain ⟨a, L, e, cq, rfl, hE, hI, hQ⟩ := h
    refine ⟨_, (pss_cons (ps_set (i := 1) sc_puts_for_each.nd rfl (Or.inl rfl) (pe_fld (pe_fld (pv 0) rfl) rfl)) (pss_cons (ps_if (pt_cmpR op_eq (pe_callB call_len_seq (by rfl) G.b_len PySem.boot_len (pa_cons (pe_fld (pv 0) rfl) pa_nil)) (pe_callB call_len_seq (by rfl) G.b_len PySem.boot_len (pa_cons (pv 1) pa_nil)) (nomark _)) (pss_one (ps_ret (pe_lc (own := [("piece", 3)]) (g := gName 3) (tt := tYes) (te := (tOp rRep (tVar 3) (tMeth C.ed "times" (sp_Editor_times C) [] C8.E0 (tVar 0) tNil))) rfl sc_puts_for_each.nd (pi_list (pe_fld (pv 0) rfl)) (blkOk_by (own := [("piece", 3)]) (N := N_puts_for_each) (sc := defScope s_puts_for_each) (by decide +kernel)) (fun _ _ _ _ _ => (pg_name (i := 3) sc_puts_for_each.nd rfl (Or.inl rfl))) (fun _ _ _ _ _ => pts_nil) (fun _ _ _ _ _ => (pe_op op_rep (pv 3) (C8.pe_mt0 K_Editor_times hr (by decide) (pv 0))))))) pss_nil) (pss_cons (ps_set (i := 2) sc_puts_for_each.nd rfl (Or.inr rfl) (pe_lst pa_nil)) (pss_cons (ps_for PassesOwn.never rfl (pi_list (pe_fld (pv 0) rfl)) (pg_name (i := 3) sc_puts_for_each.nd rfl (Or.inl rfl)) (pss_one (ps_expr (pe_bm PySem.F.plainAttrs_list PySem.F.slot_list_extend PySem.F.type_list_extend mt_extend (pv 2) (pa_cons (pv 3) pa_nil))))) (pss_cons (ps_set (i := 2) sc_puts_for_each.nd rfl (Or.inr rfl) (pe_op op_rep (pv 2) (C8.pe_mt0 K_Editor_times hr (by decide) (pv 0)))) (pss_one (ps_ret (pe_lc (own := [("one", 4)]) (g := gName 4) (tt := tYes) (te := (tVar 2)) rfl sc_puts_for_each.nd (pi_list (pv 1)) (blkOk_by (own := [("one", 4)]) (N := N_puts_for_each) (sc := defScope s_puts_for_each) (by decide +kernel)) (fun _ _ _ _ _ => (pg_name (i := 4) sc_puts_for_each.nd rfl (Or.inl rfl))) (fun _ _ _ _ _ => pts_nil) (fun _ _ _ _ _ => (pv 2)))))))))), ?_⟩
    obtain ⟨sl, m, dp, q, bs, es, hm, hps, hq, hpr, _⟩ := hE.each
    obtain ⟨hlen, hin⟩ := hI.hands es
    have lb := pr_len hpr
    obtain ⟨as, hpc0, hpcp⟩ := hE.pcs
    have hpc := (vis_of hpc0).1
    have lp := pr_len hpcp
    have hcnt := hI.cnt
    have htm : Ue15.times e ≤ 99 := by rw [← times_eq]; omega
    obtain ⟨hp30, hp200⟩ := hI.pcs
    have els : e.sels.length = sl.length := by rw [es, told_len]
    refine ⟨_, rfl, a, C.ed, L.dx, _, _, rfl, hE.obj, G.k_Editor, G.n_Editor_selected, lk_zip fe_selected rfl, L.ps, C.sels, dp, _, _, rfl, hps, G.k_Selections, G.n_Selections_each, lk_zip fa_each rfl, ?_⟩
    refine ⟨_, rfl, a, C.ed, L.dx, _, _, rfl, hE.obj, G.k_Editor, G.n_Editor_pieces, lk_zip fe_pieces rfl, _, _, rfl, .inl (SqL.of hpc), _, rfl, _, _, rfl, .inl (SqL.of hq), rfl, _, rfl, ?_⟩
    rw [List.length_map, List.length_map]
    refine dI (fun h1 => ?_) fun h1 => ?_
    · have h2 := int_eq h1
      have ep : Ue15.piecesFor e = e.pieces := by
        unfold Ue15.piecesFor
        rw [if_pos (by omega)]
      rw [ep] at hQ
      refine ⟨_, rfl, a, C.ed, L.dx, _, _, rfl, hE.obj, G.k_Editor, G.n_Editor_pieces, lk_zip fe_pieces rfl, L.ppc, rfl, ⟨_, SqL.of hpc⟩, fun D nD => ?_⟩
      refine lc_map (FT [] D) (bs := e.pieces.map fun w => Ue15.again w (Ue15.times e)) nD hpc (by rw [List.length_map, List.length_map]; exact lp) (by rw [List.length_map]; omega) FT.mono (fun _ => rfl) ?_ ?_
      · intro i x b H2 Q2 hx hb s2 ⟨acc, hD⟩ h2
        obtain ⟨c, hc, rfl⟩ := ref_at hx
        obtain ⟨sc, hsc, hcs⟩ := pr_get hpcp hc
        have hc2 : TxtAt H2 c sc := (TxtAt.same hcs (vis_sub _ _)).same s2
        have hE2 := hE.same s2
        have hw := hp200 sc (List.mem_of_getElem? hsc)
        refine ⟨_, rfl, _, rfl, a, L.dx, _, rfl, hE2.obj, lk_no ne_times, a, L.dx, _, e.count, rfl, hE2.obj, rfl, c, _, _, rfl, rfl, hc2, by omega, by omega, ?_, fun z nz => h2 _ _ (same_new nz) ⟨z, rfl, fun e => (by rw [e, hD] at nz; cases nz), ?_⟩⟩
        · rw [Int.toNat_natCast, iL_len, times_eq]
          exact Nat.le_trans (mul_le hw htm) (Nat.le_of_lt (szl (by decide)))
        · rw [map_at hsc hb]
          refine vis_in ?_ (by simp)
          rw [upd_same, Int.toNat_natCast, times_eq, again_iL]
      · intro H2 ys s2 hD hp
        exact hQ _ _ s2 nD ((FT.list hp hD (by simp)).same (vis_sub _ _))
    · have h2 := int_ne h1
      have ep : Ue15.piecesFor e = e.sels.map fun _ => e.pieces.flatten := by
        unfold Ue15.piecesFor
        rw [if_neg (by omega)]
      rw [ep, es, told_fst sl m (fun _ => e.pieces.flatten), List.map_map] at hQ
      have hfl : e.pieces.flatten.length ≤ 6000 := by
        have := flat_le e.pieces hp200
        omega
      refine ⟨Nat.zero_le _, fun y ny => ?_⟩
      have s0 : Same H (upd H y (.lst [])) := same_new ny
      have hE0 := hE.same s0
      refine ⟨_, rfl, a, C.ed, L.dx, _, _, rfl, hE0.obj, G.k_Editor, G.n_Editor_pieces, lk_zip fe_pieces rfl, L.ppc, rfl, ⟨_, SqL.of (s0 _ _ hpc)⟩, ?_⟩
      refine for_list (a := L.ppc) (xs := as.map V.ref) (fun i σ H2 => Same H H2 ∧ TxtAt H2 y (e.pieces.take i).flatten ∧ ∃ v3, σ = [some (.ref a), some (.ref q), some (.ref y), v3, none]) ⟨s0, upd_same, none, rfl⟩ (fun i σ H2 _ ⟨e, _⟩ => SqL.of (e _ _ hpc)) ?_ ?_
      · rintro i v σ H2 hi ⟨s2, hy, v3, rfl⟩
        obtain ⟨c, hc, rfl⟩ := ref_at hi
        obtain ⟨sc, hsc, hcs⟩ := pr_get hpcp hc
        have hc2 : TxtAt H2 c sc := (TxtAt.same hcs (vis_sub _ _)).same s2
        have hw := hp200 sc (List.mem_of_getElem? hsc)
        have hf2 := flat_le (e.pieces.take i) fun w hw => hp200 w (List.mem_of_mem_take hw)
        rw [List.length_take] at hf2
        refine ⟨_, rfl, .inl ⟨rfl, _, SqL.of hy⟩, _, rfl, y, c, _, _, rfl, rfl, hy, hc2, by rw [iL_len, iL_len, sizeLine_eq]; omega, same_put s2 ny, ?_, _, rfl⟩
        show upd _ _ _ _ = _
        rw [upd_same, take_at hsc, List.flatten_append, iL_app]
        simp
      · rintro σ H2 ⟨s2, hy, v3, rfl⟩
        rw [List.length_map, lp, List.take_length] at hy
        have hE2 := hE.same s2
        refine ⟨_, rfl, _, rfl, a, L.dx, _, rfl, hE2.obj, lk_no ne_times, a, L.dx, _, e.count, rfl, hE2.obj, rfl, y, _, _, rfl, rfl, hy, by omega, by omega, ?_, fun z nz => ?_⟩
        · rw [Int.toNat_natCast, iL_len, times_eq]
          exact Nat.le_trans (mul_le hfl htm) (Nat.le_of_lt (szl (by decide)))
        rw [Int.toNat_natCast, times_eq, again_iL]
        have s3 : Same H2 (upd H2 z (.lst (iL (Ue15.again e.pieces.flatten (Ue15.times e))))) := same_new nz
        have hz : TxtAt (upd H2 z (.lst (iL (Ue15.again e.pieces.flatten (Ue15.times e))))) z (Ue15.again e.pieces.flatten (Ue15.times e)) := upd_same
        have hq3 := s3 _ _ (s2 _ _ hq)
        refine ⟨_, rfl, q, rfl, ⟨_, SqL.of hq3⟩, fun D nD => ?_⟩
        refine lc_map (FT [] D) (bs := sl.map fun _ => Ue15.again e.pieces.flatten (Ue15.times e)) nD hq3 (by rw [List.length_map, List.length_map]; exact lb) (by rw [List.length_map]; omega) FT.mono (fun _ => rfl) ?_ ?_
        · intro i x b H4 Q2 hx hb s4 ⟨acc, hD⟩ h2
          obtain ⟨c, hc, rfl⟩ := ref_at hx
          obtain ⟨sc, hsc, hcs⟩ := pr_get hpr hc
          refine ⟨_, rfl, h2 _ _ (Same.refl _) ⟨z, rfl, ne_of_none hz nD, ?_⟩⟩
          rw [map_at hsc hb]
          exact vis_in (s4 _ _ hz) (by simp)
        · intro H4 ys s4 hD hp
          refine hQ _ _ ((s2.trans s3).trans s4) ?_ ((FT.list hp hD (by simp)).same (vis_sub _ _))
          cases hn : H D with
          | none => rfl
          | some o =>
            rw [(s2.trans s3) _ _ hn] at nD
            cases nD
def putsE (e : Ed) (ps : List Nat) : Ed := if e.pieces = [] then e else Ue15.edits e (ps.zipWith (fun p w => ((p, p, w) : Ex)) ((Ue15.piecesFor e).map fun w => Ue15.again w (Ue15.times e))) faceP
def sp_put_pieces_at (C : Ca) : Sp := fun vs H Q _ => ∃ (a y : Addr) (L : Lo) (e : Ed) (cq : List Nat) (ps : List Nat), vs = [.ref a, .ref y] ∧ EdAt C H a L e cq ∧ EInv e ∧ TxtAt H y ps ∧ ps.length = e.sels.length ∧ (∀ ws : List (List Nat), OrdF e.text.length 0 (ps.zipWith (fun p w => ((p, p, w) : Ex)) ws)) ∧
  ∀ H2 L2, EdAt C H2 a L2 (putsE e ps) cq → Fr2 C a L H L2 H2 → Q .non H2
theorem pf_len (e : Ed) : (Ue15.piecesFor e).length = e.sels.length := by
  unfold Ue15.piecesFor
  split
  · assumption
  · rw [List.length_map]
theorem k_put_pieces_at (G : Gs K mg C) (TB : TabB base mg C.tc C.tP) : C8.Cal P w K mg base 9 "put_pieces_at" (sp_put_pieces_at C) [] := by
  have K_exchange_at_all := k_exchange_at_all (P := P) (w := w) (base := base) G TB
  have K_puts_for_each := k_puts_for_each (P := P) (w := w) (base := base) G
  refine cal_of G.d_put_pieces_at sc_put_pieces_at (fun _ _ _ _ _ _ us hl => match us, hl with | [_, _], _ => rfl) (fun vs H Q E h => ?_) (fun f cdv A outer s H vs Q E hr h => ?_)
  · obtain ⟨a, y, L, e, cq, ps, rfl, _⟩ := h; rfl
  · obtain ⟨a, y, L, e, cq, ps, rfl, hE, hI, hy, hl, hO, hQ⟩ := h
    refine ⟨_, (pss_one (ps_if (pt_truth (pe_fld (pv 0) rfl) (by intro _; rfl)) (pss_cons (ps_set (i := 2) sc_put_pieces_at.nd rfl (Or.inl rfl) (C8.pe_c K_puts_for_each hr (by decide) rfl (pa_cons (pv 0) pa_nil))) (pss_one (ps_expr (C8.pe_c K_exchange_at_all hr (by decide) rfl (pa_cons (pv 0) (pa_cons (pe_lc (own := [("place", 3), ("put", 4)]) (g := gTup K 2 (gCons (gName 3) (gCons (gName 4) gNil))) (tt := tYes) (te := (tTup (tCons (tVar 3) (tCons (tVar 3) (tCons (tVar 4) tNil))))) rfl sc_put_pieces_at.nd (pi_zip (by rfl) G.b_zip (pa_cons (pv 1) (pa_cons (pv 2) pa_nil))) (blkOk_by (own := [("place", 3), ("put", 4)]) (N := N_put_pieces_at) (sc := defScope s_put_pieces_at) (by decide +kernel)) (fun _ _ _ _ _ => (pg_tup rfl (pgs_cons (pg_name (i := 3) sc_put_pieces_at.nd rfl (Or.inl rfl)) (pgs_cons (pg_name (i := 4) sc_put_pieces_at.nd rfl (Or.inl rfl)) pgs_nil)))) (fun _ _ _ _ _ => pts_nil) (fun _ _ _ _ _ => (pe_tup (pa_cons (pv 3) (pa_cons (pv 3) (pa_cons (pv 4) pa_nil)))))) pa_nil)))))) pss_nil)), ?_⟩
    obtain ⟨as, hpc0, hpcp⟩ := hE.pcs
    have hpc := (vis_of hpc0).1
    have lp := pr_len hpcp
    have hfew := hI.sel.few
    refine ⟨_, rfl, a, C.ed, L.dx, _, _, rfl, hE.obj, G.k_Editor, G.n_Editor_pieces, lk_zip fe_pieces rfl, _, .inl ⟨_, SqL.of hpc, rfl⟩, ?_⟩
    by_cases hk : e.pieces = []
    · have ea : as = [] := by
        rw [hk] at lp
        exact List.eq_nil_of_length_eq_zero lp
      have e1 : (!(as.map V.ref).isEmpty) = false := by rw [ea]; rfl
      rw [e1]
      refine hQ _ _ ?_ (ExtN.refl _)
      unfold putsE
      rw [if_pos hk]
      exact hE
    · have e1 : (!(as.map V.ref).isEmpty) = true := by
        cases as with
        | nil => exact absurd (List.eq_nil_of_length_eq_zero lp.symm) hk
        | cons _ _ => rfl
      rw [e1]
      unfold putsE at hQ
      rw [if_neg hk] at hQ
      refine ⟨_, rfl, a, L, e, cq, rfl, hE, hI, fun H1 z s1 nz hz => ?_⟩
      obtain ⟨bs, hz1, hz2⟩ := hz
      have lz := pr_len hz2
      have lf := pf_len e
      rw [List.length_map] at lz
      have hE1 := hE.same s1
      have hy1 := hy.same s1
      refine ⟨_, rfl, _, rfl, _, rfl, y, z, _, _, rfl, SqL.of hy1, SqL.of hz1, fun D nD => ?_⟩
      refine lc_mapZ (FX D) (bs := ps.zipWith (fun p w => ((p, p, w) : Ex)) ((Ue15.piecesFor e).map fun w => Ue15.again w (Ue15.times e))) nD hy1 hz1 (by rw [iL_len, List.length_zipWith, List.length_map]; omega) (by rw [List.length_map, List.length_zipWith, List.length_map]; omega) (by rw [List.length_zipWith]; omega) FX.mono (fun _ _ => rfl) ?_ ?_
      · intro i x v b H2 Q2 hx hv hb s2 ⟨acc, hD⟩ h2
        obtain ⟨n, hn, rfl⟩ := iL_at hx
        obtain ⟨t, ht, rfl⟩ := ref_at hv
        obtain ⟨wt, hwt, htt⟩ := pr_get hz2 ht
        have tD : t ≠ D := ne_of_none htt nD
        rw [List.getElem?_zipWith, hn, hwt] at hb
        cases hb
        refine ⟨_, rfl, _, rfl, _, rfl, Nat.le_of_lt (szl (by show 3 ≤ 10000000; decide)), fun T nT => h2 _ _ (same_new nT) ⟨T, t, rfl, fun e => (by rw [e, hD] at nT; cases nT), tD, upd_same, (TxtAt.same htt s2).same (same_new nT)⟩⟩
      · intro H2 ys s2 hD hp
        refine ⟨a, D, L, e, cq, _, rfl, hE1.same s2, hI, FX.list hp hD, by rw [List.length_zipWith, List.length_map]; omega, hO _, fun H3 L3 h3 f3 => hQ _ _ h3 ((vis_ext (ExtN.of (s1.trans s2))).trans f3)⟩
end
end Ke
end
section
set_option maxHeartbeats 4500000
namespace Ke
open PySem PySem.Spec PyProof.Rows L2 LamX SrtO
open Ue15 (Sel Told Ed)
def CaretsL (l : List Told) : Prop := ∀ x ∈ l, x.1.anchor = x.1.hand
theorem caret_lo {s : Sel} (h : s.anchor = s.hand) : Ue15.lo s = s.hand ∧ Ue15.hi s = s.hand := by
  unfold Ue15.lo Ue15.hi
  omega
theorem caret_of {s : Sel} (h : Ue15.lo s = Ue15.hi s) : s.anchor = s.hand := by
  unfold Ue15.lo Ue15.hi at h
  omega
theorem caret_is {s : Sel} (h : s.anchor = s.hand) : s = Ue15.caret s.hand := by
  obtain ⟨a, b⟩ := s
  dsimp only at h
  subst h
  rfl
theorem merge_carets : ∀ {l : List Told} {x : Told}, Srtd ltT (x :: l) → CaretsL (x :: l) → CaretsL (Ue15.mergeFrom x l)
  | [], x, _, h => h
  | y :: l, x, hs, h => by
    obtain ⟨h1, h2⟩ := List.pairwise_cons.mp hs
    obtain ⟨h3, h4⟩ := List.pairwise_cons.mp h2
    have hxy := ltT_no.mp (h1 y List.mem_cons_self)
    have cx := caret_lo (h x List.mem_cons_self)
    have cy := caret_lo (h y (List.mem_cons_of_mem _ List.mem_cons_self))
    have ly : Ue15.lo x.1 ≤ Ue15.lo y.1 := by omega
    show CaretsL (if Ue15.touch x.1 y.1 = true then Ue15.mergeFrom (Ue15.joined x y) l else x :: Ue15.mergeFrom y l)
    by_cases ht : Ue15.touch x.1 y.1 = true
    · rw [if_pos ht]
      obtain ⟨j1, j2⟩ := joined_ends (x := x) (y := y) ly
      have hle : Ue15.lo y.1 ≤ Ue15.hi x.1 := by
        unfold Ue15.touch at ht
        simp only [Bool.or_eq_true, decide_eq_true_eq, Bool.and_eq_true, beq_iff_eq] at ht
        omega
      have hj : Srtd ltT (Ue15.joined x y :: l) := List.pairwise_cons.mpr ⟨fun z hz => ltT_no.mpr (by
        have q1 := ltT_no.mp (h1 z (List.mem_cons_of_mem _ hz))
        have q2 := ltT_no.mp (h3 z hz)
        rw [j1, j2]
        omega), h4⟩
      refine merge_carets hj fun z hz => ?_
      rcases (List.mem_cons.mp hz) with e | hz
      · rw [e]
        exact caret_of (by omega)
      · exact h z (List.mem_cons_of_mem _ (List.mem_cons_of_mem _ hz))
    · rw [if_neg ht]
      intro z hz
      rcases (List.mem_cons.mp hz) with e | hz
      · rw [e]
        exact h x List.mem_cons_self
      · exact merge_carets h2 (fun z hz => h z (List.mem_cons_of_mem _ hz)) z hz
theorem tidy_carets {l : List Told} (h : CaretsL l) : CaretsL (Ue15.tidy l) := by
  obtain ⟨h1, h2⟩ := fold_srt l
  have hm : CaretsL (l.foldr Ue15.insertBy []) := fun z hz => h z (h2.perm.mem_iff.mp hz)
  unfold Ue15.tidy
  generalize l.foldr Ue15.insertBy [] = o at *
  cases o with
  | nil => exact hm
  | cons x o => exact merge_carets h1 hm
theorem ord_pt {n : Nat} {f : Sel → Nat} (hf : ∀ x, Ue15.lo x ≤ f x ∧ f x ≤ Ue15.hi x) : ∀ {s : List Sel} {ws : List (List Nat)} {p : Nat}, Apart s → (∀ x ∈ s, Ue15.hi x ≤ n) → (∀ x l, s = x :: l → p ≤ Ue15.lo x) → OrdF n p ((s.map f).zipWith (fun p w => ((p, p, w) : Ex)) ws)
  | [], _, _, _, _, _ => trivial
  | x :: s, [], p, _, _, _ => trivial
  | x :: s, w :: ws, p, ha, hn, hp => by
    have h1 := hp x s rfl
    have h2 := hn x List.mem_cons_self
    have h3 := hf x
    refine ⟨Nat.le_trans h1 h3.1, Nat.le_refl _, Nat.le_trans h3.2 h2, ord_pt hf (Apart.tail ha) (fun y hy => hn y (List.mem_cons_of_mem _ hy)) fun y l el => ?_⟩
    subst el
    have := ha.1
    dsimp only
    omega
theorem zip_map_eq {α β γ δ ε : Type} (f : α → γ) (h : β → δ) (g : γ → δ → ε) : ∀ (l : List α) (m : List β), (l.map f).zipWith g (m.map h) = (l.zip m).map fun x => g (f x.1) (h x.2)
  | [], _ => rfl
  | _ :: _, [] => rfl
  | x :: l, y :: m => by
    show _ :: _ = _ :: _
    rw [zip_map_eq f h g l m]
    rfl
theorem spans_apart {n : Nat} : ∀ {s : List Sel} {r : List Ex} {p more less : Nat}, OrdF n p r → less ≤ p → (∀ x ∈ r, x.2.2 ≠ []) → s.length = r.length → Apart (s.zipWith faceP (Ue15.places more less r))
  | [], _, _, _, _, _, _, _, _ => trivial
  | [x], [(a, b, w)], _, _, _, _, _, _, _ => trivial
  | x :: y :: s, (a, b, w) :: (c, d, v) :: r, p, more, less, ho, hl, hw, hs => by
    obtain ⟨h1, h2, h3, h4⟩ := ho
    dsimp only at h1 h2 h3 h4
    have ih := spans_apart (s := y :: s) (more := more + w.length) (less := less + (b - a)) h4 (by omega) (fun z hz => hw z (List.mem_cons_of_mem _ hz)) (Nat.succ.inj hs)
    obtain ⟨k1, k2, k3, k4⟩ := h4
    dsimp only at k1 k2 k3 k4
    have w1 : w.length ≠ 0 := fun z => hw _ List.mem_cons_self (List.eq_nil_of_length_eq_zero z)
    have w2 : v.length ≠ 0 := fun z => hw _ (List.mem_cons_of_mem _ List.mem_cons_self) (List.eq_nil_of_length_eq_zero z)
    have f1 := lo_facing x (a := a + more - less) (b := a + more - less + w.length) (by omega)
    have f2 := lo_facing y (a := c + (more + w.length) - (less + (b - a))) (b := c + (more + w.length) - (less + (b - a)) + v.length) (by omega)
    refine ⟨?_, ?_, ih⟩
    · rw [f1.2, f2.1]
      omega
    · rw [f1.1, f1.2, f2.1, f2.2]
      omega
theorem ord_rub {n : Nat} : ∀ {s : List Sel} {p : Nat}, Apart s → (∀ x ∈ s, x.anchor = x.hand ∧ x.hand ≤ n) → (∀ x l, s = x :: l → p ≤ x.hand - 1) → OrdF n p (s.map fun x => ((x.hand - 1, x.hand, []) : Ex))
  | [], _, _, _, _ => trivial
  | x :: s, p, ha, hc, hp => by
    have h1 := hp x s rfl
    obtain ⟨c1, c2⟩ := hc x List.mem_cons_self
    refine ⟨h1, Nat.sub_le _ _, c2, ord_rub (Apart.tail ha) (fun y hy => hc y (List.mem_cons_of_mem _ hy)) fun y l el => ?_⟩
    subst el
    have a1 := ha.1
    have a2 := ha.2.1
    have e1 := caret_lo c1
    have e2 := caret_lo (hc y (List.mem_cons_of_mem _ List.mem_cons_self)).1
    dsimp only
    omega
theorem typed_eq {e : Ed} {s : List Sel} {m k : Nat} (h : EInv e) (es : e.sels = told s m) (hc : CaretsL e.sels) :
    OrdF e.text.length 0 (s.map fun x => ((Ue15.lo x, Ue15.lo x, [k]) : Ex)) ∧ Ue15.mapped (Ue15.edits e (s.map fun x => ((Ue15.lo x, Ue15.lo x, [k]) : Ex)) faceP) (fun s => Ue15.caret (Ue15.hi s)) = Ue15.typed e [k] := by
  obtain ⟨ha, hb⟩ := h.ap es
  have hcs : ∀ x ∈ s, x.anchor = x.hand := fun x hx => by
    obtain ⟨b, hb⟩ := told_mem (m := m) hx
    rw [← es] at hb
    exact hc _ hb
  have ho : OrdF e.text.length 0 (s.map fun x => ((Ue15.lo x, Ue15.lo x, [k]) : Ex)) := ord_of (pr_map fun x _ => ⟨Nat.le_refl _, Nat.le_refl _, lo_hi x⟩) ha hb fun _ _ _ => Nat.zero_le _
  refine ⟨ho, ?_⟩
  have er : (e.sels.map fun x => ((Ue15.lo x.1, Ue15.hi x.1, [k]) : Ex)) = s.map fun x => ((Ue15.lo x, Ue15.lo x, [k]) : Ex) := by
    rw [es, told_fst s m fun x => ((Ue15.lo x, Ue15.hi x, [k]) : Ex)]
    refine List.map_congr_left fun x hx => ?_
    obtain ⟨e1, e2⟩ := caret_lo (hcs x hx)
    rw [e1, e2]
  unfold Ue15.typed
  rw [er]
  by_cases hn : 200 < (Ue15.changed e.text 0 (s.map fun x => ((Ue15.lo x, Ue15.lo x, [k]) : Ex))).length
  · rw [edits_no hn, edits_no hn, mapped_told es]
    have e1 : s.map (fun s => Ue15.caret (Ue15.hi s)) = s := by
      conv => rhs; rw [← List.map_id s]
      refine List.map_congr_left fun x hx => ?_
      rw [(caret_lo (hcs x hx)).2]
      exact (caret_is (hcs x hx)).symm
    rw [e1, told_apart m ha, ← es]
  · rw [edits_eq es hn, edits_eq es hn]
    have hap := spans_apart (s := s) (more := 0) (less := 0) ho (Nat.le_refl _) (fun x hx => by
      obtain ⟨y, _, rfl⟩ := List.mem_map.mp hx
      exact List.cons_ne_nil _ _) (by rw [List.length_map])
    rw [told_apart m hap]
    rw [mapped_told (s := s.zipWith faceP (Ue15.places 0 0 (s.map fun x => ((Ue15.lo x, Ue15.lo x, [k]) : Ex)))) (m := m) rfl]
    have e2 : (s.zipWith faceP (Ue15.places 0 0 (s.map fun x => ((Ue15.lo x, Ue15.lo x, [k]) : Ex)))).map (fun s => Ue15.caret (Ue15.hi s)) = s.zipWith (fun _ x => Ue15.caret x.2) (Ue15.places 0 0 (s.map fun x => ((Ue15.lo x, Ue15.lo x, [k]) : Ex))) := by
      apply List.ext_getElem?
      intro i
      rw [List.getElem?_map, List.getElem?_zipWith, List.getElem?_zipWith]
      cases hs : s[i]? with
      | none => rfl
      | some x =>
        cases hp : (Ue15.places 0 0 (s.map fun x => ((Ue15.lo x, Ue15.lo x, [k]) : Ex)))[i]? with
        | none => rfl
        | some p =>
          have hl := (places_le ho (Nat.zero_le _) (Nat.le_refl 0) p (List.mem_of_getElem? hp)).1
          show some (Ue15.caret (Ue15.hi (Ue15.facing x p.1 p.2))) = some (Ue15.caret p.2)
          rw [(lo_facing x hl).2]
    rw [e2]
end Ke
end
section
set_option maxHeartbeats 4500000
namespace Ke
open PySem PySem.Spec L2 LamX PyProof.Rows
open Ue15 (Sel Told Ed)
def behindE (e : Ed) : Ed := if e.pieces = [] then e else Ue15.edits e ((e.sels.zip (Ue15.piecesFor e)).map fun x => (Ue15.hi x.1.1, Ue15.hi x.1.1, Ue15.again x.2 (Ue15.times e))) fun s x => Ue15.facing s x.1 x.2
def aheadE (e : Ed) : Ed := if e.pieces = [] then e else Ue15.edits e ((e.sels.zip (Ue15.piecesFor e)).map fun x => (Ue15.lo x.1.1, Ue15.lo x.1.1, Ue15.again x.2 (Ue15.times e))) fun s x => Ue15.facing s x.1 x.2
def swapE (e : Ed) : Ed := Ue15.edits e (e.sels.map fun x => (Ue15.lo x.1, Ue15.hi x.1, (Ue15.slice e.text (Ue15.lo x.1) (Ue15.hi x.1)).map Ue15.other)) fun s x => Ue15.facing s x.1 x.2
theorem puts_hi (e : Ed) : putsE e (e.sels.map fun x => Ue15.hi x.1) = behindE e := by
  unfold putsE behindE
  rw [zip_map_eq]
theorem puts_lo (e : Ed) : putsE e (e.sels.map fun x => Ue15.lo x.1) = aheadE e := by
  unfold putsE aheadE
  rw [zip_map_eq]
section
variable {P : Program} {w : World} {K : PySem.W.Frag} {mg : Str → Option Value} {base : Heap} {C : Ca}
theorem k_put_pieces_behind (G : Gs K mg C) (TB : TabB base mg C.tc C.tP) : C8.Cal P w K mg base 10 "put_pieces_behind" (spEd C EInv behindE) [] := by
  have K_Selection_end := k_Selection_end (P := P) (w := w) (base := base) G
  have K_put_pieces_at := k_put_pieces_at (P := P) (w := w) (base := base) G TB
  refine cal_of G.d_put_pieces_behind sc_put_pieces_behind (fun _ _ _ _ _ _ us hl => match us, hl with | [_], _ => rfl) (fun vs H Q E h => ?_) (fun f cdv A outer s H vs Q E hr h => ?_)
  · obtain ⟨a, L, e, cq, rfl, _⟩ := h; rfl
  · obtain ⟨a, L, e, cq, rfl, hE, hI, hQ⟩ := h
    refine ⟨_, (pss_one (ps_expr (C8.pe_c K_put_pieces_at hr (by decide) rfl (pa_cons (pv 0) (pa_cons (pe_lc (own := [("one", 1)]) (g := gName 1) (tt := tYes) (te := (tMeth C.sel "end" (sp_sel C vHi) [] C8.E0 (tVar 1) tNil)) rfl sc_put_pieces_behind.nd (pi_list (pe_fld (pe_fld (pv 0) rfl) rfl)) (blkOk_by (own := [("one", 1)]) (N := N_put_pieces_behind) (sc := defScope s_put_pieces_behind) (by decide +kernel)) (fun _ _ _ _ _ => (pg_name (i := 1) sc_put_pieces_behind.nd rfl (Or.inl rfl))) (fun _ _ _ _ _ => pts_nil) (fun _ _ _ _ _ => (C8.pe_mt0 K_Selection_end hr (by decide) (pv 1)))) pa_nil))))), ?_⟩
    obtain ⟨sl, m, dp, q, bs, es, hm, hps, hq, hpr, _⟩ := hE.each
    obtain ⟨hlen, hin⟩ := hI.hands es
    obtain ⟨hap, hhi⟩ := hI.ap es
    have lb := pr_len hpr
    refine ⟨_, rfl, _, rfl, a, C.ed, L.dx, _, _, rfl, hE.obj, G.k_Editor, G.n_Editor_selected, lk_zip fe_selected rfl, L.ps, C.sels, dp, _, _, rfl, hps, G.k_Selections, G.n_Selections_each, lk_zip fa_each rfl, q, rfl, ⟨_, SqL.of hq⟩, fun D nD => ?_⟩
    refine lc_map FI (bs := sl.map fun x => Ue15.hi x) nD hq (by rw [List.length_map, List.length_map]; exact lb) (by rw [List.length_map]; omega) FI.mono (fun _ => rfl) ?_ ?_
    · intro i x b H2 Q2 hx hb s2 ⟨acc, hD⟩ h2
      obtain ⟨c, hc, rfl⟩ := ref_at hx
      obtain ⟨sc, hsc, hcs⟩ := pr_get hpr hc
      have hc2 := (hcs.same (vis_sub _ _)).same s2
      obtain ⟨dc, hc3⟩ := id hc2
      refine ⟨_, rfl, c, dc, _, rfl, hc3, lk_no no_end, c, sc, rfl, hc2, h2 _ _ (Same.refl _) ?_⟩
      rw [map_at hsc hb]
      rfl
    · intro H2 ys s2 hD hp
      have hy := FI.list hp hD
      rw [← told_fst sl m (fun x => Ue15.hi x), ← es] at hy
      refine ⟨a, D, L, e, cq, _, rfl, hE.same s2, hI, hy, by rw [List.length_map], fun ws => ?_, fun H3 L3 h3 f3 => hQ _ _ ?_ ((vis_ext (ExtN.of s2)).trans f3)⟩
      · rw [es, told_fst sl m (fun x => Ue15.hi x)]
        exact ord_pt (f := fun x => Ue15.hi x) (fun x => by have := lo_hi x; exact ⟨by omega, by omega⟩) hap hhi fun _ _ _ => Nat.zero_le _
      · rw [← puts_hi]
        exact h3
theorem k_put_pieces_ahead (G : Gs K mg C) (TB : TabB base mg C.tc C.tP) : C8.Cal P w K mg base 10 "put_pieces_ahead" (spEd C EInv aheadE) [] := by
  have K_Selection_begin := k_Selection_begin (P := P) (w := w) (base := base) G
  have K_put_pieces_at := k_put_pieces_at (P := P) (w := w) (base := base) G TB
  refine cal_of G.d_put_pieces_ahead sc_put_pieces_ahead (fun _ _ _ _ _ _ us hl => match us, hl with | [_], _ => rfl) (fun vs H Q E h => ?_) (fun f cdv A outer s H vs Q E hr h => ?_)
  · obtain ⟨a, L, e, cq, rfl, _⟩ := h; rfl
  · obtain ⟨a, L, e, cq, rfl, hE, hI, hQ⟩ := h
    refine ⟨_, (pss_one (ps_expr (C8.pe_c K_put_pieces_at hr (by decide) rfl (pa_cons (pv 0) (pa_cons (pe_lc (own := [("one", 1)]) (g := gName 1) (tt := tYes) (te := (tMeth C.sel "begin" (sp_sel C vLo) [] C8.E0 (tVar 1) tNil)) rfl sc_put_pieces_ahead.nd (pi_list (pe_fld (pe_fld (pv 0) rfl) rfl)) (blkOk_by (own := [("one", 1)]) (N := N_put_pieces_ahead) (sc := defScope s_put_pieces_ahead) (by decide +kernel)) (fun _ _ _ _ _ => (pg_name (i := 1) sc_put_pieces_ahead.nd rfl (Or.inl rfl))) (fun _ _ _ _ _ => pts_nil) (fun _ _ _ _ _ => (C8.pe_mt0 K_Selection_begin hr (by decide) (pv 1)))) pa_nil))))), ?_⟩
    obtain ⟨sl, m, dp, q, bs, es, hm, hps, hq, hpr, _⟩ := hE.each
    obtain ⟨hlen, hin⟩ := hI.hands es
    obtain ⟨hap, hhi⟩ := hI.ap es
    have lb := pr_len hpr
    refine ⟨_, rfl, _, rfl, a, C.ed, L.dx, _, _, rfl, hE.obj, G.k_Editor, G.n_Editor_selected, lk_zip fe_selected rfl, L.ps, C.sels, dp, _, _, rfl, hps, G.k_Selections, G.n_Selections_each, lk_zip fa_each rfl, q, rfl, ⟨_, SqL.of hq⟩, fun D nD => ?_⟩
    refine lc_map FI (bs := sl.map fun x => Ue15.lo x) nD hq (by rw [List.length_map, List.length_map]; exact lb) (by rw [List.length_map]; omega) FI.mono (fun _ => rfl) ?_ ?_
    · intro i x b H2 Q2 hx hb s2 ⟨acc, hD⟩ h2
      obtain ⟨c, hc, rfl⟩ := ref_at hx
      obtain ⟨sc, hsc, hcs⟩ := pr_get hpr hc
      have hc2 := (hcs.same (vis_sub _ _)).same s2
      obtain ⟨dc, hc3⟩ := id hc2
      refine ⟨_, rfl, c, dc, _, rfl, hc3, lk_no no_begin, c, sc, rfl, hc2, h2 _ _ (Same.refl _) ?_⟩
      rw [map_at hsc hb]
      rfl
    · intro H2 ys s2 hD hp
      have hy := FI.list hp hD
      rw [← told_fst sl m (fun x => Ue15.lo x), ← es] at hy
      refine ⟨a, D, L, e, cq, _, rfl, hE.same s2, hI, hy, by rw [List.length_map], fun ws => ?_, fun H3 L3 h3 f3 => hQ _ _ ?_ ((vis_ext (ExtN.of s2)).trans f3)⟩
      · rw [es, told_fst sl m (fun x => Ue15.lo x)]
        exact ord_pt (f := fun x => Ue15.lo x) (fun x => by have := lo_hi x; exact ⟨by omega, by omega⟩) hap hhi fun _ _ _ => Nat.zero_le _
      · rw [← puts_lo]
        exact h3
def sp_select_carets (C : Ca) : Sp := fun vs H Q _ => ∃ (a y : Addr) (L : Lo) (e : Ed) (cq ps : List Nat) (s : List Sel) (m : Nat), vs = [.ref a, .ref y] ∧ EdAt C H a L e cq ∧ TxtAt H y ps ∧ e.sels = told s m ∧ ps.length = s.length ∧ s.length ≤ 1000 ∧
  ∀ H2 L2, EdAt C H2 a L2 { e with sels := Ue15.tidy (told (ps.map Ue15.caret) m) } cq → Fr2 C a L H L2 H2 → Q .non H2
theorem k_select_carets (G : Gs K mg C) (TB : TabB base mg C.tc C.tP) : C8.Cal P w K mg base 7 "select_carets" (sp_select_carets C) [] := by
  have K_Editor_select := k_Editor_select (P := P) (w := w) (base := base) G TB
  have K_caret := k_caret (P := P) (w := w) (base := base) G
  refine cal_of G.d_select_carets sc_select_carets (fun _ _ _ _ _ _ us hl => match us, hl with | [_, _], _ => rfl) (fun vs H Q E h => ?_) (fun f cdv A outer s H vs Q E hr h => ?_)
  · obtain ⟨a, y, L, e, cq, ps, s, m, rfl, _⟩ := h; rfl
  · obtain ⟨a, y, L, e, cq, ps, sl, m, rfl, hE, hy, es, hl, hlen, hQ⟩ := h
    refine ⟨_, (pss_one (ps_expr (C8.pe_mt K_Editor_select hr (by decide) (pv 0) (pa_cons (pe_lc (own := [("place", 2)]) (g := gName 2) (tt := tYes) (te := (tCall (sp_caret C) [] C8.E0 (tCons (tVar 2) tNil))) rfl sc_select_carets.nd (pi_list (pv 1)) (blkOk_by (own := [("place", 2)]) (N := N_select_carets) (sc := defScope s_select_carets) (by decide +kernel)) (fun _ _ _ _ _ => (pg_name (i := 2) sc_select_carets.nd rfl (Or.inl rfl))) (fun _ _ _ _ _ => pts_nil) (fun _ _ _ _ _ => (C8.pe_c K_caret hr (by decide) rfl (pa_cons (pv 2) pa_nil)))) (pa_cons (pe_fld (pe_fld (pv 0) rfl) rfl) pa_nil))))), ?_⟩
    obtain ⟨sl2, m2, dp, q, bs, es2, hm, hps, hq, hpr, _⟩ := hE.each
    obtain ⟨e1, e2⟩ := told_inj (es2.symm.trans es) hm
    subst e1 e2
    refine ⟨_, rfl, a, L.dx, _, rfl, hE.obj, lk_no ne_select, _, rfl, y, rfl, ⟨_, SqL.of hy⟩, fun D nD => ?_⟩
    have DM := hE.fresh nD
    refine lc_map (FS C (edM C a L) D) (bs := ps.map Ue15.caret) nD hy (by rw [iL_len, List.length_map]) (by rw [List.length_map]; omega) FS.mono (fun _ => rfl) ?_ ?_
    · intro i x b H2 Q2 hx hb s2 ⟨acc, hD⟩ h2
      obtain ⟨n2, hn2, rfl⟩ := iL_at hx
      refine ⟨_, rfl, n2, rfl, fun H4 x4 s4 nx h4 => h2 _ _ s4 ⟨x4, rfl, fun e => (by rw [e, hD] at nx; cases nx), ?_⟩⟩
      rw [map_at hn2 hb]
      obtain ⟨d4, h4⟩ := h4
      exact ⟨d4, vis_in h4 ((hE.same s2).fresh nx)⟩
    · intro H2 ys s2 hD hp
      have hE2 := hE.same s2
      refine ⟨_, rfl, a, C.ed, L.dx, _, _, rfl, hE2.obj, G.k_Editor, G.n_Editor_selected, lk_zip fe_selected rfl, L.ps, C.sels, dp, _, _, rfl, s2 _ _ hps, G.k_Selections, G.n_Selections_main, lk_zip fa_main rfl, ?_⟩
      exact ⟨a, D, L, e, cq, _, m2, rfl, hE2, FS.list hp hD DM, by rw [List.length_map]; omega, by rw [List.length_map]; omega, fun H3 L3 h3 f3 => hQ _ _ h3 ((vis_ext (ExtN.of s2)).trans f3)⟩
theorem k_select_begins (G : Gs K mg C) (TB : TabB base mg C.tc C.tP) : C8.Cal P w K mg base 8 "select_begins" (spEd C EInv (fun e => Ue15.mapped e fun s => Ue15.caret (Ue15.lo s))) [] := by
  have K_Selection_begin := k_Selection_begin (P := P) (w := w) (base := base) G
  have K_select_carets := k_select_carets (P := P) (w := w) (base := base) G TB
  refine cal_of G.d_select_begins sc_select_begins (fun _ _ _ _ _ _ us hl => match us, hl with | [_], _ => rfl) (fun vs H Q E h => ?_) (fun f cdv A outer s H vs Q E hr h => ?_)
  · obtain ⟨a, L, e, cq, rfl, _⟩ := h; rfl
  · obtain ⟨a, L, e, cq, rfl, hE, hI, hQ⟩ := h
    refine ⟨_, (pss_one (ps_expr (C8.pe_c K_select_carets hr (by decide) rfl (pa_cons (pv 0) (pa_cons (pe_lc (own := [("one", 1)]) (g := gName 1) (tt := tYes) (te := (tMeth C.sel "begin" (sp_sel C vLo) [] C8.E0 (tVar 1) tNil)) rfl sc_select_begins.nd (pi_list (pe_fld (pe_fld (pv 0) rfl) rfl)) (blkOk_by (own := [("one", 1)]) (N := N_select_begins) (sc := defScope s_select_begins) (by decide +kernel)) (fun _ _ _ _ _ => (pg_name (i := 1) sc_select_begins.nd rfl (Or.inl rfl))) (fun _ _ _ _ _ => pts_nil) (fun _ _ _ _ _ => (C8.pe_mt0 K_Selection_begin hr (by decide) (pv 1)))) pa_nil))))), ?_⟩
    obtain ⟨sl, m, dp, q, bs, es, hm, hps, hq, hpr, _⟩ := hE.each
    obtain ⟨hlen, hin⟩ := hI.hands es
    obtain ⟨hap, hhi⟩ := hI.ap es
    have lb := pr_len hpr
    refine ⟨_, rfl, _, rfl, a, C.ed, L.dx, _, _, rfl, hE.obj, G.k_Editor, G.n_Editor_selected, lk_zip fe_selected rfl, L.ps, C.sels, dp, _, _, rfl, hps, G.k_Selections, G.n_Selections_each, lk_zip fa_each rfl, q, rfl, ⟨_, SqL.of hq⟩, fun D nD => ?_⟩
    refine lc_map FI (bs := sl.map fun x => Ue15.lo x) nD hq (by rw [List.length_map, List.length_map]; exact lb) (by rw [List.length_map]; omega) FI.mono (fun _ => rfl) ?_ ?_
    · intro i x b H2 Q2 hx hb s2 ⟨acc, hD⟩ h2
      obtain ⟨c, hc, rfl⟩ := ref_at hx
      obtain ⟨sc, hsc, hcs⟩ := pr_get hpr hc
      have hc2 := (hcs.same (vis_sub _ _)).same s2
      obtain ⟨dc, hc3⟩ := id hc2
      refine ⟨_, rfl, c, dc, _, rfl, hc3, lk_no no_begin, c, sc, rfl, hc2, h2 _ _ (Same.refl _) ?_⟩
      rw [map_at hsc hb]
      rfl
    · intro H2 ys s2 hD hp
      have hy := FI.list hp hD
      refine ⟨a, D, L, e, cq, _, sl, m, rfl, hE.same s2, hy, es, by rw [List.length_map], by omega, fun H3 L3 h3 f3 => hQ _ _ ?_ ((vis_ext (ExtN.of s2)).trans f3)⟩
      dsimp only
      rw [mapped_told es]
      rw [List.map_map] at h3
      exact h3
theorem k_select_ends (G : Gs K mg C) (TB : TabB base mg C.tc C.tP) : C8.Cal P w K mg base 8 "select_ends" (spEd C EInv (fun e => Ue15.mapped e fun s => Ue15.caret (Ue15.hi s))) [] := by
  have K_Selection_end := k_Selection_end (P := P) (w := w) (base := base) G
  have K_select_carets := k_select_carets (P := P) (w := w) (base := base) G TB
  refine cal_of G.d_select_ends sc_select_ends (fun _ _ _ _ _ _ us hl => match us, hl with | [_], _ => rfl) (fun vs H Q E h => ?_) (fun f cdv A outer s H vs Q E hr h => ?_)
  · obtain ⟨a, L, e, cq, rfl, _⟩ := h; rfl
  · obtain ⟨a, L, e, cq, rfl, hE, hI, hQ⟩ := h
    refine ⟨_, (pss_one (ps_expr (C8.pe_c K_select_carets hr (by decide) rfl (pa_cons (pv 0) (pa_cons (pe_lc (own := [("one", 1)]) (g := gName 1) (tt := tYes) (te := (tMeth C.sel "end" (sp_sel C vHi) [] C8.E0 (tVar 1) tNil)) rfl sc_select_ends.nd (pi_list (pe_fld (pe_fld (pv 0) rfl) rfl)) (blkOk_by (own := [("one", 1)]) (N := N_select_ends) (sc := defScope s_select_ends) (by decide +kernel)) (fun _ _ _ _ _ => (pg_name (i := 1) sc_select_ends.nd rfl (Or.inl rfl))) (fun _ _ _ _ _ => pts_nil) (fun _ _ _ _ _ => (C8.pe_mt0 K_Selection_end hr (by decide) (pv 1)))) pa_nil))))), ?_⟩
    obtain ⟨sl, m, dp, q, bs, es, hm, hps, hq, hpr, _⟩ := hE.each
    obtain ⟨hlen, hin⟩ := hI.hands es
    obtain ⟨hap, hhi⟩ := hI.ap es
    have lb := pr_len hpr
    refine ⟨_, rfl, _, rfl, a, C.ed, L.dx, _, _, rfl, hE.obj, G.k_Editor, G.n_Editor_selected, lk_zip fe_selected rfl, L.ps, C.sels, dp, _, _, rfl, hps, G.k_Selections, G.n_Selections_each, lk_zip fa_each rfl, q, rfl, ⟨_, SqL.of hq⟩, fun D nD => ?_⟩
    refine lc_map FI (bs := sl.map fun x => Ue15.hi x) nD hq (by rw [List.length_map, List.length_map]; exact lb) (by rw [List.length_map]; omega) FI.mono (fun _ => rfl) ?_ ?_
    · intro i x b H2 Q2 hx hb s2 ⟨acc, hD⟩ h2
      obtain ⟨c, hc, rfl⟩ := ref_at hx
      obtain ⟨sc, hsc, hcs⟩ := pr_get hpr hc
      have hc2 := (hcs.same (vis_sub _ _)).same s2
      obtain ⟨dc, hc3⟩ := id hc2
      refine ⟨_, rfl, c, dc, _, rfl, hc3, lk_no no_end, c, sc, rfl, hc2, h2 _ _ (Same.refl _) ?_⟩
      rw [map_at hsc hb]
      rfl
    · intro H2 ys s2 hD hp
      have hy := FI.list hp hD
      refine ⟨a, D, L, e, cq, _, sl, m, rfl, hE.same s2, hy, es, by rw [List.length_map], by omega, fun H3 L3 h3 f3 => hQ _ _ ?_ ((vis_ext (ExtN.of s2)).trans f3)⟩
      dsimp only
      rw [mapped_told es]
      rw [List.map_map] at h3
      exact h3
theorem face_hi (s : Sel) (p : Nat × Nat) (h : p.1 ≤ p.2) : Ue15.hi (faceP s p) ≤ p.2 := Nat.le_of_eq (lo_facing s h).2
theorem k_put_in_byte (G : Gs K mg C) (TB : TabB base mg C.tc C.tP) : C8.Cal P w K mg base 9 "put_in_byte" (spEdK C (fun _ e => EInv e ∧ CaretsL e.sels) (fun k e => Ue15.typed e [k])) [] := by
  have K_Selection_begin := k_Selection_begin (P := P) (w := w) (base := base) G
  have K_exchange_at_all := k_exchange_at_all (P := P) (w := w) (base := base) G TB
  have K_select_ends := k_select_ends (P := P) (w := w) (base := base) G TB
  refine cal_of G.d_put_in_byte sc_put_in_byte (fun _ _ _ _ _ _ us hl => match us, hl with | [_, _], _ => rfl) (fun vs H Q E h => ?_) (fun f cdv A outer s H vs Q E hr h => ?_)
  · obtain ⟨a, L, e, cq, k, rfl, _⟩ := h; rfl
  · obtain ⟨a, L, e, cq, k, rfl, hE, ⟨hI, hC⟩, hQ⟩ := h
    refine ⟨_, (pss_cons (ps_expr (C8.pe_c K_exchange_at_all hr (by decide) rfl (pa_cons (pv 0) (pa_cons (pe_lc (own := [("one", 2)]) (g := gName 2) (tt := tYes) (te := (tTup (tCons (tMeth C.sel "begin" (sp_sel C vLo) [] C8.E0 (tVar 2) tNil) (tCons (tMeth C.sel "begin" (sp_sel C vLo) [] C8.E0 (tVar 2) tNil) (tCons (tLst (tCons (tVar 1) tNil)) tNil))))) rfl sc_put_in_byte.nd (pi_list (pe_fld (pe_fld (pv 0) rfl) rfl)) (blkOk_by (own := [("one", 2)]) (N := N_put_in_byte) (sc := defScope s_put_in_byte) (by decide +kernel)) (fun _ _ _ _ _ => (pg_name (i := 2) sc_put_in_byte.nd rfl (Or.inl rfl))) (fun _ _ _ _ _ => pts_nil) (fun _ _ _ _ _ => (pe_tup (pa_cons (C8.pe_mt0 K_Selection_begin hr (by decide) (pv 2)) (pa_cons (C8.pe_mt0 K_Selection_begin hr (by decide) (pv 2)) (pa_cons (pe_lst (pa_cons (pv 1) pa_nil)) pa_nil)))))) pa_nil)))) (pss_one (ps_expr (C8.pe_c K_select_ends hr (by decide) rfl (pa_cons (pv 0) pa_nil))))), ?_⟩
    obtain ⟨sl, m, dp, q, bs, es, hm, hps, hq, hpr, _⟩ := hE.each
    obtain ⟨hlen, hin⟩ := hI.hands es
    obtain ⟨ho, ht⟩ := typed_eq (k := k) hI es hC
    have lb := pr_len hpr
    refine ⟨_, rfl, _, rfl, a, C.ed, L.dx, _, _, rfl, hE.obj, G.k_Editor, G.n_Editor_selected, lk_zip fe_selected rfl, L.ps, C.sels, dp, _, _, rfl, hps, G.k_Selections, G.n_Selections_each, lk_zip fa_each rfl, q, rfl, ⟨_, SqL.of hq⟩, fun D nD => ?_⟩
    refine lc_map (FX D) (bs := sl.map fun x => ((Ue15.lo x, Ue15.lo x, [k]) : Ex)) nD hq (by rw [List.length_map, List.length_map]; exact lb) (by rw [List.length_map]; omega) FX.mono (fun _ => rfl) ?_ ?_
    · intro i x b H2 Q2 hx hb s2 ⟨acc, hD⟩ h2
      obtain ⟨c, hc, rfl⟩ := ref_at hx
      obtain ⟨sc, hsc, hcs⟩ := pr_get hpr hc
      have hc2 := (hcs.same (vis_sub _ _)).same s2
      obtain ⟨dc, hc3⟩ := id hc2
      have eb := map_at hsc hb
      subst eb
      refine ⟨_, rfl, c, dc, _, rfl, hc3, lk_no no_begin, c, sc, rfl, hc2, _, rfl, c, dc, _, rfl, hc3, lk_no no_begin, c, sc, rfl, hc2, _, rfl, Nat.le_of_lt (szl (by show 1 ≤ 10000000; decide)), fun z nz => ?_⟩
      have sz : Same H2 (upd H2 z (.lst [V.int (k : Nat)])) := same_new nz
      refine ⟨Nat.le_of_lt (szl (by show 3 ≤ 10000000; decide)), fun T nT => h2 _ _ (sz.trans (same_new nT)) ⟨T, z, rfl, fun e => (by rw [e, sz _ _ hD] at nT; cases nT), fun e => (by rw [e, hD] at nz; cases nz), upd_same, ?_⟩⟩
      have hz : TxtAt (upd H2 z (.lst [V.int (k : Nat)])) z [k] := upd_same
      exact hz.same (same_new nT)
    · intro H2 ys s2 hD hp
      refine ⟨a, D, L, e, cq, _, rfl, hE.same s2, hI, FX.list hp hD, by rw [es, told_len, List.length_map], ho, fun H3 L3 h3 f3 => ?_⟩
      refine ⟨_, rfl, a, L3, _, cq, rfl, h3, edits_good es hI ho face_hi, fun H4 L4 h4 f4 => hQ _ _ ?_ (((vis_ext (ExtN.of s2)).trans f3).trans f4)⟩
      dsimp only
      rw [← ht]
      exact h4
def rubE (e : Ed) : Ed := Ue15.edits e (e.sels.map fun x => (x.1.hand - 1, x.1.hand, [])) fun _ x => Ue15.caret x.2
theorem k_take_out_bytes_ahead (G : Gs K mg C) (TB : TabB base mg C.tc C.tP) : C8.Cal P w K mg base 9 "take_out_bytes_ahead" (spEd C (fun e => EInv e ∧ CaretsL e.sels) rubE) [] := by
  have K_Selection_begin := k_Selection_begin (P := P) (w := w) (base := base) G
  have K_exchange_at_all := k_exchange_at_all (P := P) (w := w) (base := base) G TB
  refine cal_of G.d_take_out_bytes_ahead sc_take_out_bytes_ahead (fun _ _ _ _ _ _ us hl => match us, hl with | [_], _ => rfl) (fun vs H Q E h => ?_) (fun f cdv A outer s H vs Q E hr h => ?_)
  · obtain ⟨a, L, e, cq, rfl, _⟩ := h; rfl
  · obtain ⟨a, L, e, cq, rfl, hE, ⟨hI, hC⟩, hQ⟩ := h
    refine ⟨_, (pss_cons (ps_setLc (i := 1) (own := [("one", 2)]) (g := gName 2) (tt := tYes) (te := (tMeth C.sel "begin" (sp_sel C vLo) [] C8.E0 (tVar 2) tNil)) rfl sc_take_out_bytes_ahead.nd rfl rfl (sw_true rfl rfl rfl (by decide +kernel)) (pi_list (pe_fld (pe_fld (pv 0) rfl) rfl)) (blkOk_by (own := [("one", 2)]) (N := N_take_out_bytes_ahead) (sc := defScope s_take_out_bytes_ahead) (by decide +kernel)) (fun _ _ _ _ _ => (pg_name (i := 2) sc_take_out_bytes_ahead.nd rfl (Or.inl rfl))) (fun _ _ _ _ _ => pts_nil) (fun _ _ _ _ _ => (C8.pe_mt0 K_Selection_begin hr (by decide) (pv 2)))) (pss_one (ps_expr (C8.pe_c K_exchange_at_all hr (by decide) rfl (pa_cons (pv 0) (pa_cons (pe_lc (own := [("place", 3)]) (g := gName 3) (tt := tYes) (te := (tTup (tCons (tCB (fun xs H Q => ∃ i j, xs = [V.int i, V.int j] ∧ Q (V.int (if j > i then j else i)) H) (tCons (tOp (rI0 fun i j => V.int (i - j)) (tVar 3) (tC (.int 1))) (tCons (tC (.int 0)) tNil))) (tCons (tVar 3) (tCons (tLst tNil) tNil))))) rfl sc_take_out_bytes_ahead.nd (pi_list (pv 1)) (blkOk_by (own := [("place", 3)]) (N := N_take_out_bytes_ahead) (sc := defScope s_take_out_bytes_ahead) (by decide +kernel)) (fun _ _ _ _ _ => (pg_name (i := 3) sc_take_out_bytes_ahead.nd rfl (Or.inl rfl))) (fun _ _ _ _ _ => pts_nil) (fun _ _ _ _ _ => (pe_tup (pa_cons (pe_callB (call_max2 rfl) (by rfl) G.b_max (by decide +kernel) (pa_cons (pe_op op_sub (pv 3) pe_int) (pa_cons pe_int pa_nil))) (pa_cons (pv 3) (pa_cons (pe_lst pa_nil) pa_nil)))))) pa_nil)))))), ?_⟩
    obtain ⟨sl, m, dp, q, bs, es, hm, hps, hq, hpr, _⟩ := hE.each
    obtain ⟨hlen, hin⟩ := hI.hands es
    obtain ⟨hap, hhi⟩ := hI.ap es
    have lb := pr_len hpr
    have hcs0 : ∀ x ∈ sl, x.anchor = x.hand := fun x hx => by
      obtain ⟨b, hb⟩ := told_mem (m := m) hx
      rw [← es] at hb
      exact hC _ hb
    refine ⟨_, rfl, a, C.ed, L.dx, _, _, rfl, hE.obj, G.k_Editor, G.n_Editor_selected, lk_zip fe_selected rfl, L.ps, C.sels, dp, _, _, rfl, hps, G.k_Selections, G.n_Selections_each, lk_zip fa_each rfl, q, rfl, ⟨_, SqL.of hq⟩, fun D nD => ?_⟩
    refine lc_map FI (bs := sl.map fun x => x.hand) nD hq (by rw [List.length_map, List.length_map]; exact lb) (by rw [List.length_map]; omega) FI.mono (fun _ => rfl) ?_ ?_
    · intro i x b H2 Q2 hx hb s2 ⟨acc, hD⟩ h2
      obtain ⟨c, hc, rfl⟩ := ref_at hx
      obtain ⟨sc, hsc, hcs⟩ := pr_get hpr hc
      have hc2 := (hcs.same (vis_sub _ _)).same s2
      obtain ⟨dc, hc3⟩ := id hc2
      refine ⟨_, rfl, c, dc, _, rfl, hc3, lk_no no_begin, c, sc, rfl, hc2, h2 _ _ (Same.refl _) ?_⟩
      rw [map_at hsc hb, ← (caret_lo (hcs0 sc (List.mem_of_getElem? hsc))).1]
      rfl
    · intro H2 ys s2 hD hp
      have hy := FI.list hp hD
      have hE2 := hE.same s2
      refine ⟨_, rfl, _, rfl, D, rfl, ⟨_, SqL.of hy⟩, fun D2 nD2 => ?_⟩
      refine lc_map (FX D2) (bs := sl.map fun x => ((x.hand - 1, x.hand, []) : Ex)) nD2 hy (by rw [iL_len, List.length_map, List.length_map]) (by rw [List.length_map]; omega) FX.mono (fun _ => rfl) ?_ ?_
      · intro i x b H3 Q2 hx hb s3 ⟨acc, hD3⟩ h3
        obtain ⟨n, hn, rfl⟩ := iL_at hx
        have eb : b = (n - 1, n, []) := by
          rw [List.getElem?_map] at hb hn
          cases z : sl[i]? with
          | none =>
            rw [z] at hb
            cases hb
          | some sb =>
            rw [z] at hb hn
            cases hb
            cases hn
            rfl
        subst eb
        have en : (if (0 : Int) > ((n : Nat) : Int) - 1 then (0 : Int) else ((n : Nat) : Int) - 1) = ((n - 1 : Nat) : Int) := by
          split <;> omega
        refine ⟨_, rfl, _, _, rfl, rfl, _, _, rfl, _, rfl, Nat.zero_le _, fun z nz => ?_⟩
        rw [en]
        have sz : Same H3 (upd H3 z (.lst [])) := same_new nz
        refine ⟨Nat.le_of_lt (szl (by show 3 ≤ 10000000; decide)), fun T nT => h3 _ _ (sz.trans (same_new nT)) ⟨T, z, rfl, fun e => (by rw [e, sz _ _ hD3] at nT; cases nT), fun e => (by rw [e, hD3] at nz; cases nz), upd_same, ?_⟩⟩
        have hz : TxtAt (upd H3 z (.lst [])) z [] := upd_same
        exact hz.same (same_new nT)
      · intro H3 ys3 s3 hD3 hp3
        have ho := ord_rub (n := e.text.length) hap (fun x hx => ⟨hcs0 x hx, (hin x hx).2⟩) (fun _ _ _ => Nat.zero_le _)
        refine ⟨a, D2, L, e, cq, _, rfl, hE2.same s3, hI, FX.list hp3 hD3, by rw [es, told_len, List.length_map], ho, fun H4 L4 h4 f4 => hQ _ _ ?_ ((vis_ext (ExtN.of (s2.trans s3))).trans f4)⟩
        unfold rubE
        rw [edits_none (fun x hx => by
          obtain ⟨y, _, rfl⟩ := List.mem_map.mp hx
          rfl)] at h4
        rw [← told_fst sl m (fun x => ((x.hand - 1, x.hand, []) : Ex)), ← es] at h4
        exact h4
end
end Ke
end
section
set_option maxHeartbeats 4500000
namespace Ke
open PySem PySem.Spec L2 LamX PyProof.Rows
open Ue15 (Sel Told Ed)
theorem mode_put {C : Ca} {H : Hp} {a : Addr} {L : Lo} {e : Ed} {cq : List Nat} (hE : EdAt C H a L e cq) (md : Ue15.Mode) (nop : ∀ k w, md ≠ .prompt k w) :
    EdAt C (upd H a (.ins C.ed L.dx (nEd.zip ((edV e L).set 3 (.int (Ue15.modeOf md : Nat)))))) a L { e with mode := md } cq ∧ Fr2 C a L H L (upd H a (.ins C.ed L.dx (nEd.zip ((edV e L).set 3 (.int (Ue15.modeOf md : Nat)))))) :=
  hE.put (L2 := L) (e2 := { e with mode := md }) ⟨rfl, rfl, rfl, rfl, rfl, rfl, rfl, rfl, rfl, rfl, rfl, rfl, rfl, rfl, rfl, rfl, rfl⟩ hE.txt hE.sel hE.kept hE.pcs hE.srch (fun k w z => absurd z (nop k w)) hE.last hE.mac
section
variable {P : Program} {w : World} {K : PySem.W.Frag} {mg : Str → Option Value} {base : Heap} {C : Ca}
theorem k_swap_case (G : Gs K mg C) (TB : TabB base mg C.tc C.tP) : C8.Cal P w K mg base 9 "swap_case" (spEd C EInv swapE) [] := by
  have K_bytes_of_each := k_bytes_of_each (P := P) (w := w) (base := base) G
  have K_exchange_for_as_many := k_exchange_for_as_many (P := P) (w := w) (base := base) G TB
  have K_with_case_swapped := k_with_case_swapped (P := P) (w := w) (base := base) G
  refine cal_of G.d_swap_case sc_swap_case (fun _ _ _ _ _ _ us hl => match us, hl with | [_], _ => rfl) (fun vs H Q E h => ?_) (fun f cdv A outer s H vs Q E hr h => ?_)
  · obtain ⟨a, L, e, cq, rfl, _⟩ := h; rfl
  · obtain ⟨a, L, e, cq, rfl, hE, hI, hQ⟩ := h
    refine ⟨_, (pss_cons (ps_set (i := 1) sc_swap_case.nd rfl (Or.inl rfl) (pe_lst pa_nil)) (pss_cons (ps_for PassesOwn.never rfl (pi_list (C8.pe_c K_bytes_of_each hr (by decide) rfl (pa_cons (pv 0) pa_nil))) (pg_name (i := 2) sc_swap_case.nd rfl (Or.inl rfl)) (pss_one (ps_expr (pe_bm PySem.F.plainAttrs_list PySem.F.slot_list_append PySem.F.type_list_append mt_append (pv 1) (pa_cons (pe_lc (own := [("byte", 3)]) (g := gName 3) (tt := tYes) (te := (tCall (sp_with_case_swapped C) [] C8.E0 (tCons (tVar 3) tNil))) rfl sc_swap_case.nd (pi_list (pv 2)) (blkOk_by (own := [("byte", 3)]) (N := N_swap_case) (sc := defScope s_swap_case) (by decide +kernel)) (fun _ _ _ _ _ => (pg_name (i := 3) sc_swap_case.nd rfl (Or.inl rfl))) (fun _ _ _ _ _ => pts_nil) (fun _ _ _ _ _ => (C8.pe_c K_with_case_swapped hr (by decide) rfl (pa_cons (pv 3) pa_nil)))) pa_nil))))) (pss_one (ps_expr (C8.pe_c K_exchange_for_as_many hr (by decide) rfl (pa_cons (pv 0) (pa_cons (pv 1) pa_nil))))))), ?_⟩
    obtain ⟨sl, m, dp, q, bs, es, hm, hps, hq, hpr, _⟩ := hE.each
    obtain ⟨hlen, hin⟩ := hI.hands es
    have htx := hI.txt
    have hW : ∀ x ∈ sl, ((Ue15.slice e.text (Ue15.lo x) (Ue15.hi x)).map Ue15.other).length = Ue15.hi x - Ue15.lo x := fun x hx => by
      rw [List.length_map, slice_len (hi_le (hin x hx))]
    refine ⟨Nat.zero_le _, fun D nD => ?_⟩
    have s0 : Same H (upd H D (.lst [])) := same_new nD
    have hE0 := hE.same s0
    refine ⟨_, rfl, a, L, e, cq, rfl, hE0, hI, fun H1 y s1 ny hy => ?_⟩
    rw [es, told_fst sl m (fun x => Ue15.slice e.text (Ue15.lo x) (Ue15.hi x))] at hy
    obtain ⟨as, hy1, hy2⟩ := hy
    have hy3 := (vis_of hy1).1
    have ly := pr_len hy2
    rw [List.length_map] at ly
    have hD1 : H1 D = some (.lst []) := s1 _ _ upd_same
    have yD : y ≠ D := fun e => by
      rw [e, upd_same] at ny
      cases ny
    have keep : ∀ H2, But D H1 H2 → Same H H2 := fun H2 b2 c o h => b2 _ _ (s1 _ _ (s0 _ _ h)) (ne_of_none h nD)
    refine ⟨y, rfl, ⟨_, SqL.of hy3⟩, ?_⟩
    refine for_list (a := y) (xs := as.map V.ref) (fun i σ H2 => But D H1 H2 ∧ (∃ ys, H2 D = some (.lst ys) ∧ Paired (FT [] D H2) ys ((sl.map fun x => (Ue15.slice e.text (Ue15.lo x) (Ue15.hi x)).map Ue15.other).take i)) ∧ ∃ v, σ = [some (.ref a), some (.ref D), v, none]) ⟨fun c o h _ => h, ⟨[], hD1, .nil⟩, none, rfl⟩ (fun i σ H2 _ ⟨e, _⟩ => SqL.of (e _ _ hy3 yD)) ?_ ?_
    · rintro i v σ H2 hi ⟨b2, ⟨ys, hD, hp⟩, v2, rfl⟩
      obtain ⟨c, hc, rfl⟩ := ref_at hi
      obtain ⟨sc, hsc, hc0, hcs⟩ := pr_get hy2 hc
      have hlt : i < sl.length := by
        have := (List.getElem?_eq_some_iff.mp hc).1
        omega
      have hsl : sl[i]? = some sl[i] := List.getElem?_eq_getElem hlt
      have esc := map_at hsl hsc
      have cD : c ≠ D := fun z => by
        rw [z, upd_same] at hc0
        cases hc0
      have hc2 : TxtAt H2 c sc := b2 _ _ (vis_of hcs).1 cD
      have hcl : sc.length ≤ 200 := by
        rw [esc, slice_len (hi_le (hin _ (List.mem_of_getElem? hsl)))]
        have := hi_le (hin _ (List.mem_of_getElem? hsl))
        omega
      refine ⟨_, rfl, .inl ⟨rfl, _, SqL.of hD⟩, _, rfl, c, rfl, ⟨_, SqL.of hc2⟩, fun D2 nD2 => ?_⟩
      refine lc_map FI (bs := sc.map Ue15.other) nD2 hc2 (by rw [iL_len, List.length_map]) (by rw [List.length_map]; omega) FI.mono (fun _ => rfl) ?_ ?_
      · intro j x b H3 Q2 hx hb s3 hD3 h3
        obtain ⟨n, hn, rfl⟩ := iL_at hx
        have eb := map_at hn hb
        subst eb
        refine ⟨_, rfl, n, rfl, h3 _ _ (Same.refl _) rfl⟩
      · intro H3 ys3 s3 hD3 hp3
        have hz := FI.list hp3 hD3
        have hDs := s3 _ _ hD
        have ln := pr_len hp
        rw [List.length_take, List.length_map] at ln
        have D2D : D2 ≠ D := fun z => by
          rw [z, hD] at nD2
          cases nD2
        refine ⟨D, _, _, rfl, rfl, hDs, szl (by omega), fun c o h n => (by rw [upd_ne n]; exact s3 _ _ (b2 _ _ h n)), ⟨ys ++ [.ref D2], upd_same, ?_⟩, _, rfl⟩
        have hwm : (sl.map fun x => (Ue15.slice e.text (Ue15.lo x) (Ue15.hi x)).map Ue15.other)[i]? = some (sc.map Ue15.other) := by
          rw [List.getElem?_map, hsl, esc]
          rfl
        rw [take_at hwm]
        refine pr_app (pr_mono (fun v c z => FT.mono _ _ v c (FT.mono _ _ v c z (but_same s3)) but_put) hp) (.cons ⟨D2, rfl, D2D, vis_in ?_ (by simp)⟩ .nil)
        rw [upd_ne D2D]
        exact hz
    · rintro σ H2 ⟨b2, ⟨ys, hD, hp⟩, v2, rfl⟩
      rw [List.length_map, ly, List.take_of_length_le (by rw [List.length_map]; exact Nat.le_refl _)] at hp
      have s2 := keep H2 b2
      have hE2 := hE.same s2
      have hpc : PcsAt H2 D (sl.map fun x => (Ue15.slice e.text (Ue15.lo x) (Ue15.hi x)).map Ue15.other) := (FT.list hp hD (by simp)).same (vis_sub _ _)
      refine ⟨_, rfl, _, rfl, a, D, L, e, cq, sl, m, _, rfl, hE2, hI, es, hpc, hW, fun H3 L3 h3 f3 => ?_⟩
      rw [← told_fst sl m (fun x => ((Ue15.lo x, Ue15.hi x, (Ue15.slice e.text (Ue15.lo x) (Ue15.hi x)).map Ue15.other) : Ex)), ← es] at h3
      exact hQ _ _ h3 ((vis_ext (ExtN.of s2)).trans f3)

theorem k_insert_at_begins (G : Gs K mg C) (TB : TabB base mg C.tc C.tP) : C8.Cal P w K mg base 9 "insert_at_begins" (spEd C EInv (fun e => { Ue15.mapped e (fun s => Ue15.caret (Ue15.lo s)) with mode := .insert })) [] := by
  have K_select_begins := k_select_begins (P := P) (w := w) (base := base) G TB
  refine cal_of G.d_insert_at_begins sc_insert_at_begins (fun _ _ _ _ _ _ us hl => match us, hl with | [_], _ => rfl) (fun vs H Q E h => ?_) (fun f cdv A outer s H vs Q E hr h => ?_)
  · obtain ⟨a, L, e, cq, rfl, _⟩ := h; rfl
  · obtain ⟨a, L, e, cq, rfl, hE, hI, hQ⟩ := h
    refine ⟨_, (pss_cons (ps_expr (C8.pe_c K_select_begins hr (by decide) rfl (pa_cons (pv 0) pa_nil))) (pss_one (ps_fld (pv 0) (C8.pe_gc rfl G.c_INSERT) rfl))), ?_⟩
    refine ⟨_, rfl, a, L, e, cq, rfl, hE, hI, fun H1 L1 h1 f1 => ?_⟩
    refine ⟨_, rfl, a, C.ed, L1.dx, _, rfl, h1.obj, G.k_Editor, G.n_Editor_mode, ed_few _, ?_⟩
    rw [put_ed fe_mode (edi (by decide))]
    obtain ⟨h2, f2⟩ := mode_put h1 .insert (fun _ _ z => by cases z)
    exact hQ _ _ h2 (f1.trans f2)
theorem k_insert_at_ends (G : Gs K mg C) (TB : TabB base mg C.tc C.tP) : C8.Cal P w K mg base 9 "insert_at_ends" (spEd C EInv (fun e => { Ue15.mapped e (fun s => Ue15.caret (Ue15.hi s)) with mode := .insert })) [] := by
  have K_select_ends := k_select_ends (P := P) (w := w) (base := base) G TB
  refine cal_of G.d_insert_at_ends sc_insert_at_ends (fun _ _ _ _ _ _ us hl => match us, hl with | [_], _ => rfl) (fun vs H Q E h => ?_) (fun f cdv A outer s H vs Q E hr h => ?_)
  · obtain ⟨a, L, e, cq, rfl, _⟩ := h; rfl
  · obtain ⟨a, L, e, cq, rfl, hE, hI, hQ⟩ := h
    refine ⟨_, (pss_cons (ps_expr (C8.pe_c K_select_ends hr (by decide) rfl (pa_cons (pv 0) pa_nil))) (pss_one (ps_fld (pv 0) (C8.pe_gc rfl G.c_INSERT) rfl))), ?_⟩
    refine ⟨_, rfl, a, L, e, cq, rfl, hE, hI, fun H1 L1 h1 f1 => ?_⟩
    refine ⟨_, rfl, a, C.ed, L1.dx, _, rfl, h1.obj, G.k_Editor, G.n_Editor_mode, ed_few _, ?_⟩
    rw [put_ed fe_mode (edi (by decide))]
    obtain ⟨h2, f2⟩ := mode_put h1 .insert (fun _ _ z => by cases z)
    exact hQ _ _ h2 (f1.trans f2)
theorem k_insert_instead (G : Gs K mg C) (TB : TabB base mg C.tc C.tP) : C8.Cal P w K mg base 10 "insert_instead" (spEd C EInv (fun e => { Ue15.taken e with mode := .insert })) [] := by
  have K_take_out := k_take_out (P := P) (w := w) (base := base) G TB
  refine cal_of G.d_insert_instead sc_insert_instead (fun _ _ _ _ _ _ us hl => match us, hl with | [_], _ => rfl) (fun vs H Q E h => ?_) (fun f cdv A outer s H vs Q E hr h => ?_)
  · obtain ⟨a, L, e, cq, rfl, _⟩ := h; rfl
  · obtain ⟨a, L, e, cq, rfl, hE, hI, hQ⟩ := h
    refine ⟨_, (pss_cons (ps_expr (C8.pe_c K_take_out hr (by decide) rfl (pa_cons (pv 0) pa_nil))) (pss_one (ps_fld (pv 0) (C8.pe_gc rfl G.c_INSERT) rfl))), ?_⟩
    refine ⟨_, rfl, a, L, e, cq, rfl, hE, hI, fun H1 L1 h1 f1 => ?_⟩
    refine ⟨_, rfl, a, C.ed, L1.dx, _, rfl, h1.obj, G.k_Editor, G.n_Editor_mode, ed_few _, ?_⟩
    rw [put_ed fe_mode (edi (by decide))]
    obtain ⟨h2, f2⟩ := mode_put h1 .insert (fun _ _ z => by cases z)
    exact hQ _ _ h2 (f1.trans f2)
theorem k_ask_for_byte (G : Gs K mg C) : C8.Cal P w K mg base 1 "ask_for_byte" (spEd C EInv (fun e => { e with mode := .byte })) [] := by
  refine cal_of G.d_ask_for_byte sc_ask_for_byte (fun _ _ _ _ _ _ us hl => match us, hl with | [_], _ => rfl) (fun vs H Q E h => ?_) (fun f cdv A outer s H vs Q E hr h => ?_)
  · obtain ⟨a, L, e, cq, rfl, _⟩ := h; rfl
  · obtain ⟨a, L, e, cq, rfl, hE, hI, hQ⟩ := h
    refine ⟨_, (pss_one (ps_fld (pv 0) (C8.pe_gc rfl G.c_BYTE_OF_R) rfl)), ?_⟩
    refine ⟨_, rfl, a, C.ed, L.dx, _, rfl, hE.obj, G.k_Editor, G.n_Editor_mode, ed_few _, ?_⟩
    rw [put_ed fe_mode (edi (by decide))]
    obtain ⟨h2, f2⟩ := mode_put hE .byte (fun _ _ z => by cases z)
    exact hQ _ _ h2 f2
theorem k_insert_on_new_line (G : Gs K mg C) (TB : TabB base mg C.tc C.tP) : C8.Cal P w K mg base 10 "insert_on_new_line" (spEd C EInv (fun e => { Ue15.typed (Ue15.mapped e fun s => Ue15.caret (Ue15.lineEnd e.text (Ue15.hi s))) [10] with mode := .insert })) [] := by
  have K_Selection_end := k_Selection_end (P := P) (w := w) (base := base) G
  have K_line_end := k_line_end (P := P) (w := w) (base := base) G
  have K_put_in_byte := k_put_in_byte (P := P) (w := w) (base := base) G TB
  have K_select_carets := k_select_carets (P := P) (w := w) (base := base) G TB
  refine cal_of G.d_insert_on_new_line sc_insert_on_new_line (fun _ _ _ _ _ _ us hl => match us, hl with | [_], _ => rfl) (fun vs H Q E h => ?_) (fun f cdv A outer s H vs Q E hr h => ?_)
  · obtain ⟨a, L, e, cq, rfl, _⟩ := h; rfl
  · obtain ⟨a, L, e, cq, rfl, hE, hI, hQ⟩ := h
    refine ⟨_, (pss_cons (ps_expr (C8.pe_c K_select_carets hr (by decide) rfl (pa_cons (pv 0) (pa_cons (pe_lc (own := [("one", 1)]) (g := gName 1) (tt := tYes) (te := (tCall (sp_line_end C) [] C8.E0 (tCons (tFld K (tVar 0) "text") (tCons (tMeth C.sel "end" (sp_sel C vHi) [] C8.E0 (tVar 1) tNil) tNil)))) rfl sc_insert_on_new_line.nd (pi_list (pe_fld (pe_fld (pv 0) rfl) rfl)) (blkOk_by (own := [("one", 1)]) (N := N_insert_on_new_line) (sc := defScope s_insert_on_new_line) (by decide +kernel)) (fun _ _ _ _ _ => (pg_name (i := 1) sc_insert_on_new_line.nd rfl (Or.inl rfl))) (fun _ _ _ _ _ => pts_nil) (fun _ _ _ _ _ => (C8.pe_c K_line_end hr (by decide) rfl (pa_cons (pe_fld (pv 0) rfl) (pa_cons (C8.pe_mt0 K_Selection_end hr (by decide) (pv 1)) pa_nil))))) pa_nil)))) (pss_cons (ps_expr (C8.pe_c K_put_in_byte hr (by decide) rfl (pa_cons (pv 0) (pa_cons (C8.pe_gc rfl G.c_LINE_FEED) pa_nil)))) (pss_one (ps_fld (pv 0) (C8.pe_gc rfl G.c_INSERT) rfl)))), ?_⟩
    obtain ⟨sl, m, dp, q, bs, es, hm, hps, hq, hpr, _⟩ := hE.each
    obtain ⟨hlen, hin⟩ := hI.hands es
    have lb := pr_len hpr
    refine ⟨_, rfl, _, rfl, a, C.ed, L.dx, _, _, rfl, hE.obj, G.k_Editor, G.n_Editor_selected, lk_zip fe_selected rfl, L.ps, C.sels, dp, _, _, rfl, hps, G.k_Selections, G.n_Selections_each, lk_zip fa_each rfl, q, rfl, ⟨_, SqL.of hq⟩, fun D nD => ?_⟩
    refine lc_map FI (bs := sl.map fun x => Ue15.lineEnd e.text (Ue15.hi x)) nD hq (by rw [List.length_map, List.length_map]; exact lb) (by rw [List.length_map]; omega) FI.mono (fun _ => rfl) ?_ ?_
    · intro i x b H2 Q2 hx hb s2 ⟨acc, hD⟩ h2
      obtain ⟨c, hc, rfl⟩ := ref_at hx
      obtain ⟨sc, hsc, hcs⟩ := pr_get hpr hc
      have hc2 := (hcs.same (vis_sub _ _)).same s2
      obtain ⟨dc, hc3⟩ := id hc2
      have hE2 := hE.same s2
      refine ⟨_, rfl, a, C.ed, L.dx, _, _, rfl, hE2.obj, G.k_Editor, G.n_Editor_text, lk_zip fe_text rfl, _, rfl, c, dc, _, rfl, hc3, lk_no no_end, c, sc, rfl, hc2, L.pt, e.text, Ue15.hi sc, rfl, hE2.txt.same (vis_sub _ _), hi_le (hin sc (List.mem_of_getElem? hsc)), h2 _ _ (Same.refl _) ?_⟩
      rw [map_at hsc hb]
      rfl
    · intro H2 ys s2 hD hp
      have hy := FI.list hp hD
      refine ⟨a, D, L, e, cq, _, sl, m, rfl, hE.same s2, hy, es, by rw [List.length_map], by omega, fun H3 L3 h3 f3 => ?_⟩
      rw [List.map_map] at h3
      have em := mapped_told es (fun s => Ue15.caret (Ue15.lineEnd e.text (Ue15.hi s)))
      have h4 : EdAt C H3 a L3 (Ue15.mapped e fun s => Ue15.caret (Ue15.lineEnd e.text (Ue15.hi s))) cq := by
        rw [em]
        exact h3
      have hI4 : EInv (Ue15.mapped e fun s => Ue15.caret (Ue15.lineEnd e.text (Ue15.hi s))) := mapped_good hI fun s h1 h2 => by
        rw [(caret_lo rfl).2]
        exact on_le (hi_le ⟨h1, h2⟩)
      have hC4 : CaretsL (Ue15.mapped e fun s => Ue15.caret (Ue15.lineEnd e.text (Ue15.hi s))).sels := tidy_carets fun x hx => by
        obtain ⟨y, _, rfl⟩ := List.mem_map.mp hx
        rfl
      refine ⟨_, rfl, a, L3, _, cq, 10, rfl, h4, ⟨hI4, hC4⟩, fun H5 L5 h5 f5 => ?_⟩
      refine ⟨_, rfl, a, C.ed, L5.dx, _, rfl, h5.obj, G.k_Editor, G.n_Editor_mode, ed_few _, ?_⟩
      rw [put_ed fe_mode (edi (by decide))]
      obtain ⟨h6, f6⟩ := mode_put h5 .insert (fun _ _ z => by cases z)
      exact hQ _ _ h6 ((((vis_ext (ExtN.of s2)).trans f3).trans f5).trans f6)
def byteE (k : Nat) (e : Ed) : Ed := Ue15.edits e (e.sels.map fun x => (Ue15.lo x.1, Ue15.hi x.1, (Ue15.slice e.text (Ue15.lo x.1) (Ue15.hi x.1)).map fun b => if b = 10 then 10 else k)) fun s x => Ue15.facing s x.1 x.2
structure Under (e : Ed) : Prop where
  ah : e.ahead ≠ none
  un : e.undo.length ≤ 5000000
theorem edits_flds {e : Ed} {r : List Ex} {f : Sel → Nat × Nat → Sel} : (Ue15.edits e r f).ahead = e.ahead ∧ (Ue15.edits e r f).undo = e.undo ∧ (Ue15.edits e r f).redo = e.redo ∧ (Ue15.edits e r f).keys = e.keys ∧ (Ue15.edits e r f).mode = e.mode := by
  unfold Ue15.edits
  dsimp only
  split <;> exact ⟨rfl, rfl, rfl, rfl, rfl⟩
theorem k_do_byte_of_r (G : Gs K mg C) (TB : TabB base mg C.tc C.tP) : C8.Cal P w K mg base 9 "do_byte_of_r" (spEdK C (fun _ e => EInv e ∧ Under e) (fun k e => if k = 27 then Ue15.through e else Ue15.through (byteE k e))) [] := by
  have K_Editor_end_command_as_step := k_Editor_end_command_as_step (P := P) (w := w) (base := base) G
  have K_bytes_of_each := k_bytes_of_each (P := P) (w := w) (base := base) G
  have K_exchange_for_as_many := k_exchange_for_as_many (P := P) (w := w) (base := base) G TB
  refine cal_of G.d_do_byte_of_r sc_do_byte_of_r (fun _ _ _ _ _ _ us hl => match us, hl with | [_, _], _ => rfl) (fun vs H Q E h => ?_) (fun f cdv A outer s H vs Q E hr h => ?_)
  · obtain ⟨a, L, e, cq, k, rfl, _⟩ := h; rfl
  · obtain ⟨a, L, e, cq, k, rfl, hE, ⟨hI, hU⟩, hQ⟩ := h
    refine ⟨_, (C8.pss_cut (ps_if (pt_cmpR op_ne (pv 1) (C8.pe_gc rfl G.c_ESCAPE) (nomark _)) (pss_cons (ps_set (i := 2) sc_do_byte_of_r.nd rfl (Or.inl rfl) (pe_lst pa_nil)) (pss_cons (ps_for PassesOwn.never rfl (pi_list (C8.pe_c K_bytes_of_each hr (by decide) rfl (pa_cons (pv 0) pa_nil))) (pg_name (i := 3) sc_do_byte_of_r.nd rfl (Or.inl rfl)) (pss_one (ps_expr (pe_bm PySem.F.plainAttrs_list PySem.F.slot_list_append PySem.F.type_list_append mt_append (pv 2) (pa_cons (pe_lc (own := [("byte", 4)]) (g := gName 4) (tt := tYes) (te := (tIf (tTest (tOp rEq (tVar 4) (tC (.int 10)))) (tVar 4) (tVar 1))) rfl sc_do_byte_of_r.nd (pi_list (pv 3)) (blkOk_by (own := [("byte", 4)]) (N := N_do_byte_of_r) (sc := defScope s_do_byte_of_r) (by decide +kernel)) (fun _ _ _ _ _ => (pg_name (i := 4) sc_do_byte_of_r.nd rfl (Or.inl rfl))) (fun _ _ _ _ _ => pts_nil) (fun _ _ _ _ _ => (pe_ifExp (pt_cmpR op_eq (pv 4) (C8.pe_gc rfl G.c_LINE_FEED) (nomark _)) (pv 4) (pv 1)))) pa_nil))))) (pss_one (ps_expr (C8.pe_c K_exchange_for_as_many hr (by decide) rfl (pa_cons (pv 0) (pa_cons (pv 2) pa_nil))))))) pss_nil) (pss_one (ps_expr (C8.pe_mt0 K_Editor_end_command_as_step hr (by decide) (pv 0))))), ?_⟩
    refine ⟨fun σ H2 => (∃ v2 v3 v4, σ = [some (.ref a), some (.int (k : Nat)), v2, v3, v4]) ∧ ∃ L2, EdAt C H2 a L2 (if k = 27 then e else byteE k e) cq ∧ Fr2 C a L H L2 H2, ?_, ?_⟩
    · refine ⟨_, rfl, rfl, _, rfl, dN (fun h1 => ?_) fun h1 => ?_⟩
      · have hk : k ≠ 27 := int_ne h1
        rw [if_neg hk]
        obtain ⟨sl, m, dp, q, bs, es, hm, hps, hq, hpr, _⟩ := hE.each
        obtain ⟨hlen, hin⟩ := hI.hands es
        have htx := hI.txt
        have hW : ∀ x ∈ sl, ((Ue15.slice e.text (Ue15.lo x) (Ue15.hi x)).map (fun b => if b = 10 then 10 else k)).length = Ue15.hi x - Ue15.lo x := fun x hx => by
          rw [List.length_map, slice_len (hi_le (hin x hx))]
        refine ⟨Nat.zero_le _, fun D nD => ?_⟩
        have s0 : Same H (upd H D (.lst [])) := same_new nD
        have hE0 := hE.same s0
        refine ⟨_, rfl, a, L, e, cq, rfl, hE0, hI, fun H1 y s1 ny hy => ?_⟩
        rw [es, told_fst sl m (fun x => Ue15.slice e.text (Ue15.lo x) (Ue15.hi x))] at hy
        obtain ⟨as, hy1, hy2⟩ := hy
        have hy3 := (vis_of hy1).1
        have ly := pr_len hy2
        rw [List.length_map] at ly
        have hD1 : H1 D = some (.lst []) := s1 _ _ upd_same
        have yD : y ≠ D := fun e => by
          rw [e, upd_same] at ny
          cases ny
        have keep : ∀ H2, But D H1 H2 → Same H H2 := fun H2 b2 c o h => b2 _ _ (s1 _ _ (s0 _ _ h)) (ne_of_none h nD)
        refine ⟨y, rfl, ⟨_, SqL.of hy3⟩, ?_⟩
        refine for_list (a := y) (xs := as.map V.ref) (fun i σ H2 => But D H1 H2 ∧ (∃ ys, H2 D = some (.lst ys) ∧ Paired (FT [] D H2) ys ((sl.map fun x => (Ue15.slice e.text (Ue15.lo x) (Ue15.hi x)).map (fun b => if b = 10 then 10 else k)).take i)) ∧ ∃ v, σ = [some (.ref a), some (.int (k : Nat)), some (.ref D), v, none]) ⟨fun c o h _ => h, ⟨[], hD1, .nil⟩, none, rfl⟩ (fun i σ H2 _ ⟨e, _⟩ => SqL.of (e _ _ hy3 yD)) ?_ ?_
        · rintro i v σ H2 hi ⟨b2, ⟨ys, hD, hp⟩, v2, rfl⟩
          obtain ⟨c, hc, rfl⟩ := ref_at hi
          obtain ⟨sc, hsc, hc0, hcs⟩ := pr_get hy2 hc
          have hlt : i < sl.length := by
            have := (List.getElem?_eq_some_iff.mp hc).1
            omega
          have hsl : sl[i]? = some sl[i] := List.getElem?_eq_getElem hlt
          have esc := map_at hsl hsc
          have cD : c ≠ D := fun z => by
            rw [z, upd_same] at hc0
            cases hc0
          have hc2 : TxtAt H2 c sc := b2 _ _ (vis_of hcs).1 cD
          have hcl : sc.length ≤ 200 := by
            rw [esc, slice_len (hi_le (hin _ (List.mem_of_getElem? hsl)))]
            have := hi_le (hin _ (List.mem_of_getElem? hsl))
            omega
          refine ⟨_, rfl, .inl ⟨rfl, _, SqL.of hD⟩, _, rfl, c, rfl, ⟨_, SqL.of hc2⟩, fun D2 nD2 => ?_⟩
          refine lc_map FI (bs := sc.map (fun b => if b = 10 then 10 else k)) nD2 hc2 (by rw [iL_len, List.length_map]) (by rw [List.length_map]; omega) FI.mono (fun _ => rfl) ?_ ?_
          · intro j x b H3 Q2 hx hb s3 hD3 h3
            obtain ⟨n, hn, rfl⟩ := iL_at hx
            have eb := map_at hn hb
            subst eb
            refine ⟨_, rfl, rfl, _, rfl, dI (fun h4 => ?_) fun h4 => ?_⟩
            · have h5 : n = 10 := int_eq h4
              exact ⟨_, rfl, h3 _ _ (Same.refl _) (by rw [if_pos h5, h5]; rfl)⟩
            · have h5 : n ≠ 10 := int_ne h4
              exact ⟨_, rfl, h3 _ _ (Same.refl _) (by rw [if_neg h5]; rfl)⟩
          · intro H3 ys3 s3 hD3 hp3
            have hz := FI.list hp3 hD3
            have hDs := s3 _ _ hD
            have ln := pr_len hp
            rw [List.length_take, List.length_map] at ln
            have D2D : D2 ≠ D := fun z => by
              rw [z, hD] at nD2
              cases nD2
            refine ⟨D, _, _, rfl, rfl, hDs, szl (by omega), fun c o h n => (by rw [upd_ne n]; exact s3 _ _ (b2 _ _ h n)), ⟨ys ++ [.ref D2], upd_same, ?_⟩, _, rfl⟩
            have hwm : (sl.map fun x => (Ue15.slice e.text (Ue15.lo x) (Ue15.hi x)).map (fun b => if b = 10 then 10 else k))[i]? = some (sc.map (fun b => if b = 10 then 10 else k)) := by
              rw [List.getElem?_map, hsl, esc]
              rfl
            rw [take_at hwm]
            refine pr_app (pr_mono (fun v c z => FT.mono _ _ v c (FT.mono _ _ v c z (but_same s3)) but_put) hp) (.cons ⟨D2, rfl, D2D, vis_in ?_ (by simp)⟩ .nil)
            rw [upd_ne D2D]
            exact hz
        · rintro σ H2 ⟨b2, ⟨ys, hD, hp⟩, v2, rfl⟩
          rw [List.length_map, ly, List.take_of_length_le (by rw [List.length_map]; exact Nat.le_refl _)] at hp
          have s2 := keep H2 b2
          have hE2 := hE.same s2
          have hpc : PcsAt H2 D (sl.map fun x => (Ue15.slice e.text (Ue15.lo x) (Ue15.hi x)).map (fun b => if b = 10 then 10 else k)) := (FT.list hp hD (by simp)).same (vis_sub _ _)
          refine ⟨_, rfl, _, rfl, a, D, L, e, cq, sl, m, _, rfl, hE2, hI, es, hpc, hW, fun H3 L3 h3 f3 => ?_⟩
          rw [← told_fst sl m (fun x => ((Ue15.lo x, Ue15.hi x, (Ue15.slice e.text (Ue15.lo x) (Ue15.hi x)).map (fun b => if b = 10 then 10 else k)) : Ex)), ← es] at h3
          exact ⟨⟨_, _, _, rfl⟩, L3, h3, (vis_ext (ExtN.of s2)).trans f3⟩

      · have hk : k = 27 := int_eq h1
        rw [if_pos hk]
        exact ⟨⟨_, _, _, rfl⟩, L, hE, ExtN.refl _⟩
    · rintro σ H2 ⟨⟨v2, v3, v4, rfl⟩, L2, h2, f2⟩
      obtain ⟨x, hx⟩ : ∃ x, e.ahead = some x := Option.ne_none_iff_exists'.mp hU.ah
      have hx2 : (if k = 27 then e else byteE k e).ahead = some x ∧ (if k = 27 then e else byteE k e).undo = e.undo := by
        split
        · exact ⟨hx, rfl⟩
        · exact ⟨edits_flds.1.trans hx, edits_flds.2.1⟩
      refine ⟨_, rfl, a, L2.dx, _, rfl, h2.obj, lk_no ne_end_command_as_step, a, L2, _, cq, x, rfl, h2, hx2.1, by rw [hx2.2]; exact hU.un, fun H3 L3 h3 f3 => hQ _ _ ?_ (f2.trans f3)⟩
      by_cases hk : k = 27
      · dsimp only
        rw [if_pos hk] at h3 ⊢
        exact h3
      · dsimp only
        rw [if_neg hk] at h3 ⊢
        exact h3
end
end Ke
end
section
set_option maxHeartbeats 4500000
namespace Ke
open PySem PySem.Spec L2 LamX PyProof.Rows
open Ue15 (Sel Told Ed)
def editing (k : Nat) (e : Ed) : Ed :=
  if k = 100 then Ue15.taken e else if k = 121 then Ue15.copied e else if k = 112 then behindE e else if k = 80 then aheadE e else if k = 126 then swapE e else e
def isBegin (k : Nat) : Prop := k = 105 ∨ k = 97 ∨ k = 99 ∨ k = 111 ∨ k = 114
def begun (k : Nat) (e : Ed) : Ed :=
  if k = 105 then { Ue15.mapped e (fun s => Ue15.caret (Ue15.lo s)) with mode := .insert } else
  if k = 97 then { Ue15.mapped e (fun s => Ue15.caret (Ue15.hi s)) with mode := .insert } else
  if k = 99 then { Ue15.taken e with mode := .insert } else
  if k = 111 then { Ue15.typed (Ue15.mapped e fun s => Ue15.caret (Ue15.lineEnd e.text (Ue15.hi s))) [10] with mode := .insert } else
  { e with mode := .byte }
theorem in_editing (k : Nat) : (rows_EDITING.lookup (k : Int)).isSome = true ↔ (k = 100 ∨ k = 121 ∨ k = 112 ∨ k = 80 ∨ k = 126) := by
  rw [lk_in]
  unfold rows_EDITING
  simp
  omega
theorem in_begin (k : Nat) : (rows_BEGINNING_EDITS.lookup (k : Int)).isSome = true ↔ isBegin k := by
  rw [lk_in]
  unfold isBegin rows_BEGINNING_EDITS
  simp
  omega
section
variable {P : Program} {w : World} {K : PySem.W.Frag} {mg : Str → Option Value} {base : Heap} {C : Ca}
theorem edited (G : Gs K mg C) (TB : TabB base mg C.tc C.tP) {k : Nat} (h : k = 100 ∨ k = 121 ∨ k = 112 ∨ k = 80 ∨ k = 126) :
    ∃ n, rows_EDITING.lookup (k : Int) = some n ∧ ∀ f, mg n = some (.ref f) → HeldM P w K mg base 10 f (spEd C EInv (editing k)) := by
  rcases h with rfl | rfl | rfl | rfl | rfl
  · exact ⟨_, rfl, fun f g => held_m (k_take_out G TB) (by decide) g⟩
  · exact ⟨_, rfl, fun f g => held_m (k_copy_pieces G) (by decide) g⟩
  · exact ⟨_, rfl, fun f g => held_m (k_put_pieces_behind G TB) (by decide) g⟩
  · exact ⟨_, rfl, fun f g => held_m (k_put_pieces_ahead G TB) (by decide) g⟩
  · exact ⟨_, rfl, fun f g => held_m (k_swap_case G TB) (by decide) g⟩
theorem begins (G : Gs K mg C) (TB : TabB base mg C.tc C.tP) {k : Nat} (h : isBegin k) :
    ∃ n, rows_BEGINNING_EDITS.lookup (k : Int) = some n ∧ ∀ f, mg n = some (.ref f) → HeldM P w K mg base 10 f (spEd C EInv (begun k)) := by
  rcases h with rfl | rfl | rfl | rfl | rfl
  · exact ⟨_, rfl, fun f g => held_m (k_insert_at_begins G TB) (by decide) g⟩
  · exact ⟨_, rfl, fun f g => held_m (k_insert_at_ends G TB) (by decide) g⟩
  · exact ⟨_, rfl, fun f g => held_m (k_insert_instead G TB) (by decide) g⟩
  · exact ⟨_, rfl, fun f g => held_m (k_insert_on_new_line G TB) (by decide) g⟩
  · exact ⟨_, rfl, fun f g => held_m (k_ask_for_byte G) (by decide) g⟩
theorem k_do_editing (G : Gs K mg C) (TB : TabB base mg C.tc C.tP) : C8.Cal P w K mg base 11 "do_editing" (spEdK C (fun _ e => EInv e) editing) [] := by
  refine cal_of G.d_do_editing sc_do_editing (fun _ _ _ _ _ _ us hl => match us, hl with | [_, _], _ => rfl) (fun vs H Q E h => ?_) (fun f cdv A outer s H vs Q E hr h => ?_)
  · obtain ⟨a, L, e, cq, k, rfl, _⟩ := h; rfl
  · obtain ⟨a, L, e, cq, k, rfl, hE, hI, hQ⟩ := h
    refine ⟨_, (pss_one (ps_if (pt_cmpR (op_inW G.t_EDITING) (pv 1) (C8.pe_gc rfl G.g_EDITING) rfl) (pss_cons (ps_set (i := 2) sc_do_editing.nd rfl (Or.inl rfl) (pe_ix (ix_W G.t_EDITING) (C8.pe_gc rfl G.g_EDITING) (pv 1) (fun _ _ => rfl))) (pss_one (ps_expr (pe_callM (k := 10) (i := 2) (hr.mono (by decide)) rfl (Or.inl rfl) (pa_cons (pv 0) pa_nil))))) pss_nil)), ?_⟩
    refine ⟨_, rfl, (k : Int), rfl, rfl, _, rfl, bI (fun h3 => ?_) fun h3 => ?_⟩
    · have hk3 := (in_editing k).mp h3
      obtain ⟨n, hn, hf⟩ := edited (P := P) (w := w) G TB hk3
      refine ⟨_, rfl, (k : Int), n, rfl, rfl, hn, fun f2 g2 => ?_⟩
      exact ⟨f2, _, rfl, hf f2 g2, _, rfl, a, L, e, cq, rfl, hE, hI, hQ⟩
    · have hk3 : ¬ (k = 100 ∨ k = 121 ∨ k = 112 ∨ k = 80 ∨ k = 126) := fun z => by
        rw [(in_editing k).mpr z] at h3
        cases h3
      refine hQ _ _ ?_ (ExtN.refl _)
      unfold editing
      iterate 5 rw [if_neg (by omega)]
      exact hE
def sp_begin_edit (C : Ca) : Sp := fun vs H Q _ => ∃ (a : Addr) (L : Lo) (e : Ed) (cq : List Nat) (k : Nat), vs = [.ref a, .int (k : Nat)] ∧ EdAt C H a L e cq ∧ EInv e ∧
  (isBegin k → ∀ H2 L2, EdAt C H2 a L2 (begun k e) cq → Fr2 C a L H L2 H2 → Q (.bl true) H2) ∧ (¬ isBegin k → Q (.bl false) H)
theorem k_begin_edit (G : Gs K mg C) (TB : TabB base mg C.tc C.tP) : C8.Cal P w K mg base 11 "begin_edit" (sp_begin_edit C) [] := by
  refine cal_of G.d_begin_edit sc_begin_edit (fun _ _ _ _ _ _ us hl => match us, hl with | [_, _], _ => rfl) (fun vs H Q E h => ?_) (fun f cdv A outer s H vs Q E hr h => ?_)
  · obtain ⟨a, L, e, cq, k, rfl, _⟩ := h; rfl
  · obtain ⟨a, L, e, cq, k, rfl, hE, hI, hQ1, hQ2⟩ := h
    refine ⟨_, (pss_cons (ps_if (pt_cmpR (op_notInW G.t_BEGINNING_EDITS) (pv 1) (C8.pe_gc rfl G.g_BEGINNING_EDITS) rfl) (pss_one (ps_ret pe_bl)) pss_nil) (pss_cons (ps_set (i := 2) sc_begin_edit.nd rfl (Or.inl rfl) (pe_ix (ix_W G.t_BEGINNING_EDITS) (C8.pe_gc rfl G.g_BEGINNING_EDITS) (pv 1) (fun _ _ => rfl))) (pss_cons (ps_expr (pe_callM (k := 10) (i := 2) (hr.mono (by decide)) rfl (Or.inl rfl) (pa_cons (pv 0) pa_nil))) (pss_one (ps_ret pe_bl))))), ?_⟩
    refine ⟨_, rfl, (k : Int), rfl, rfl, _, rfl, nI (fun h3 => ?_) fun h3 => ?_⟩
    · have hk3 : ¬ isBegin k := fun z => by
        rw [(in_begin k).mpr z] at h3
        cases h3
      exact hQ2 hk3
    · have hk3 := (in_begin k).mp h3
      obtain ⟨n, hn, hf⟩ := begins (P := P) (w := w) G TB hk3
      refine ⟨_, rfl, (k : Int), n, rfl, rfl, hn, fun f2 g2 => ?_⟩
      exact ⟨f2, _, rfl, hf f2 g2, _, rfl, a, L, e, cq, rfl, hE, hI, fun H2 L2 h2 f2 => hQ1 hk3 _ _ h2 f2⟩
def insertKey (k : Nat) (e : Ed) : Ed := if k = 27 then Ue15.through e else if k = 127 then rubE e else Ue15.typed e [k]
theorem k_do_insert_key (G : Gs K mg C) (TB : TabB base mg C.tc C.tP) : C8.Cal P w K mg base 10 "do_insert_key" (spEdK C (fun _ e => EInv e ∧ Under e ∧ CaretsL e.sels) insertKey) [] := by
  have K_Editor_end_command_as_step := k_Editor_end_command_as_step (P := P) (w := w) (base := base) G
  have K_put_in_byte := k_put_in_byte (P := P) (w := w) (base := base) G TB
  have K_take_out_bytes_ahead := k_take_out_bytes_ahead (P := P) (w := w) (base := base) G TB
  refine cal_of G.d_do_insert_key sc_do_insert_key (fun _ _ _ _ _ _ us hl => match us, hl with | [_, _], _ => rfl) (fun vs H Q E h => ?_) (fun f cdv A outer s H vs Q E hr h => ?_)
  · obtain ⟨a, L, e, cq, k, rfl, _⟩ := h; rfl
  · obtain ⟨a, L, e, cq, k, rfl, hE, ⟨hI, hU, hC⟩, hQ⟩ := h
    refine ⟨_, (pss_one (ps_if (pt_cmpR op_eq (pv 1) (C8.pe_gc rfl G.c_ESCAPE) (nomark _)) (pss_one (ps_expr (C8.pe_mt0 K_Editor_end_command_as_step hr (by decide) (pv 0)))) (pss_one (ps_if (pt_cmpR op_eq (pv 1) (C8.pe_gc rfl G.c_RUBOUT) (nomark _)) (pss_one (ps_expr (C8.pe_c K_take_out_bytes_ahead hr (by decide) rfl (pa_cons (pv 0) pa_nil)))) (pss_one (ps_expr (C8.pe_c K_put_in_byte hr (by decide) rfl (pa_cons (pv 0) (pa_cons (pv 1) pa_nil))))))))), ?_⟩
    obtain ⟨x, hx⟩ : ∃ x, e.ahead = some x := Option.ne_none_iff_exists'.mp hU.ah
    refine ⟨_, rfl, rfl, _, rfl, dI (fun h1 => ?_) fun h1 => ?_⟩
    · have hk : k = 27 := int_eq h1
      refine ⟨_, rfl, a, L.dx, _, rfl, hE.obj, lk_no ne_end_command_as_step, a, L, _, cq, x, rfl, hE, hx, hU.un, fun H3 L3 h3 f3 => hQ _ _ ?_ f3⟩
      unfold insertKey
      rw [if_pos hk]
      exact h3
    have hk : k ≠ 27 := int_ne h1
    refine ⟨_, rfl, rfl, _, rfl, dI (fun h2 => ?_) fun h2 => ?_⟩
    · have hk2 : k = 127 := int_eq h2
      refine ⟨_, rfl, a, L, e, cq, rfl, hE, ⟨hI, hC⟩, fun H3 L3 h3 f3 => hQ _ _ ?_ f3⟩
      unfold insertKey
      rw [if_neg hk, if_pos hk2]
      exact h3
    · have hk2 : k ≠ 127 := int_ne h2
      refine ⟨_, rfl, _, rfl, a, L, e, cq, k, rfl, hE, ⟨hI, hC⟩, fun H3 L3 h3 f3 => hQ _ _ ?_ f3⟩
      unfold insertKey
      rw [if_neg hk, if_neg hk2]
      exact h3
end
end Ke
end
section
set_option maxHeartbeats 4500000
namespace Ke
open PySem PySem.Spec L2 LamX PyProof.Rows
open Ue15 (Sel Told Ed)
theorem fa_len (t u : List Nat) (e : Nat) : ∀ (f p : Nat), (Ue15.findAll t u e f p).length ≤ f
  | 0, _ => Nat.le_refl _
  | f + 1, p => by
    cases h : Ue15.findFrom (t.take e) u p with
    | none =>
      rw [fa_end h]
      exact Nat.zero_le _
    | some q =>
      rw [fa_go h, List.length_cons]
      exact Nat.succ_le_succ (fa_len t u e f _)
theorem MOk.same {C : Ca} {M : List Addr} {H H2 : Hp} (h : MOk C M H) (s : Same H H2) : MOk C M H2 := fun a ha => by
  rcases h a ha with z | ⟨o, z1, z2⟩
  · exact .inl z
  · exact .inr ⟨o, s _ _ z1, z2⟩
theorem fresh_S {C : Ca} {M : List Addr} {H : Hp} {x : Addr} (mo : MOk C M H) (t : Tb C H) (n : H x = none) : x ∉ M := fresh_M mo (ExtN.refl H) t n
abbrev foundAt (n : Nat) (p : Nat) : Sel := ⟨p, p + n⟩
section
variable {P : Program} {w : World} {K : PySem.W.Frag} {mg : Str → Option Value} {base : Heap} {C : Ca}
def spFind (C : Ca) (f : List Nat → List Nat → Sel → List Sel) : Sp := fun vs H Q _ => ∃ (M : List Addr) (p q b : Addr) (t u : List Nat) (s : Sel), vs = [.ref p, .ref q, .ref b] ∧ TxtAt H p t ∧ TxtAt H q u ∧ u ≠ [] ∧ u.length ≤ 10000000 ∧ SelAt C H b s ∧ s.anchor ≤ t.length ∧ s.hand ≤ t.length ∧ t.length ≤ 200 ∧ MOk C M H ∧ Tb C H ∧
  ∀ H2 y, Same H H2 → H y = none → SelsL C (vis M H2) y (f t u s) → Q (.ref y) H2
def matchesL (t u : List Nat) (s : Sel) : List Sel := (Ue15.within_ t u s).map (foundAt u.length)
def betweenL (t u : List Nat) (s : Sel) : List Sel := (Ue15.between u.length (Ue15.lo s) (Ue15.hi s) (Ue15.within_ t u s)).map fun y => ⟨y.1, y.2⟩
theorem k_matches_in (G : Gs K mg C) : C8.Cal P w K mg base 3 "matches_in" (spFind C matchesL) [] := by
  have K_Selection_init := k_Selection_init (P := P) (w := w) (base := base) G
  have K_Selection_begin := k_Selection_begin (P := P) (w := w) (base := base) G
  have K_Selection_end := k_Selection_end (P := P) (w := w) (base := base) G
  have K_all_places := k_all_places (P := P) (w := w) (base := base) G
  refine cal_of G.d_matches_in sc_matches_in (fun _ _ _ _ _ _ us hl => match us, hl with | [_, _, _], _ => rfl) (fun vs H Q E h => ?_) (fun f cdv A outer s H vs Q E hr h => ?_)
  · obtain ⟨M, p, q, b, t, u, sl, rfl, _⟩ := h; rfl
  · obtain ⟨M, p, q, b, t, u, sl, rfl, hp, hq, hu, hul, hb, h1, h2, ht, mo, tb, hQ⟩ := h
    refine ⟨_, (pss_cons (ps_set (i := 3) sc_matches_in.nd rfl (Or.inl rfl) (C8.pe_c K_all_places hr (by decide) rfl (pa_cons (pv 0) (pa_cons (pv 1) (pa_cons (C8.pe_mt0 K_Selection_begin hr (by decide) (pv 2)) (pa_cons (C8.pe_mt0 K_Selection_end hr (by decide) (pv 2)) pa_nil)))))) (pss_one (ps_ret (pe_lc (own := [("place", 4)]) (g := gName 4) (tt := tYes) (te := (tMake C.sel (sp_Selection_init C) [] C8.E0 (tCons (tVar 4) (tCons (tOp (rI0 fun i j => V.int (i + j)) (tVar 4) (tCB (fun xs H Q => ∃ p ys, xs = [V.ref p] ∧ (SqL K H p ys ∨ SqT K H p ys) ∧ Q (V.int ys.length) H) (tCons (tVar 1) tNil))) tNil)))) rfl sc_matches_in.nd (pi_list (pv 3)) (blkOk_by (own := [("place", 4)]) (N := N_matches_in) (sc := defScope s_matches_in) (by decide +kernel)) (fun _ _ _ _ _ => (pg_name (i := 4) sc_matches_in.nd rfl (Or.inl rfl))) (fun _ _ _ _ _ => pts_nil) (fun _ _ _ _ _ => (C8.pe_mk K_Selection_init hr (by decide) rfl (pa_cons (pv 4) (pa_cons (pe_op op_add (pv 4) (pe_callB call_len_seq (by rfl) G.b_len PySem.boot_len (pa_cons (pv 1) pa_nil))) pa_nil)))))))), ?_⟩
    obtain ⟨db, hb2⟩ := id hb
    have hh := hi_le ⟨h1, h2⟩
    have hl := lo_hi sl
    refine ⟨_, rfl, _, rfl, _, rfl, b, db, _, rfl, hb2, lk_no no_begin, b, sl, rfl, hb, _, rfl, b, db, _, rfl, hb2, lk_no no_end, b, sl, rfl, hb, p, q, t, u, Ue15.lo sl, Ue15.hi sl, rfl, hp, hq, hu, hh, by omega, by omega, by omega, fun H1 x s1 nx hx => ?_⟩
    have hlen := fa_len t u (Ue15.hi sl) (t.length + 1) (Ue15.lo sl)
    refine ⟨_, rfl, x, rfl, ⟨_, SqL.of hx⟩, fun D nD => ?_⟩
    have DM := fresh_S (mo.same s1) (tb.same s1) nD
    refine lc_map (FS C M D) (bs := matchesL t u sl) nD hx (by rw [iL_len]; unfold matchesL; rw [List.length_map]; rfl) (by unfold matchesL; rw [List.length_map]; show (Ue15.findAll t u (Ue15.hi sl) (t.length + 1) (Ue15.lo sl)).length ≤ 1000; omega) FS.mono (fun _ => rfl) ?_ ?_
    · intro i x b H2 Q2 hx hb s2 ⟨acc, hD⟩ h2
      obtain ⟨n, hn, rfl⟩ := iL_at hx
      have eb := map_at hn hb
      subst eb
      refine ⟨_, rfl, _, rfl, _, rfl, _, _, rfl, .inl (SqL.of ((hq.same s1).same s2)), _, _, rfl, rfl, fun x4 d4 n4 nd4 ne => ?_⟩
      rw [iL_len]
      refine ⟨x4, d4, n, n + u.length, rfl, upd_same, fun H4 h4 k4 => ⟨rfl, h2 _ _ (Same.made n4 nd4 k4) ⟨x4, rfl, fun e => (by rw [e, hD] at n4; cases n4), ?_⟩⟩⟩
      obtain ⟨d5, h4⟩ := h4
      exact ⟨d5, vis_in h4 (fresh_S ((mo.same s1).same s2) ((tb.same s1).same s2) n4)⟩
    · intro H2 ys s2 hD hp
      exact hQ _ _ (s1.trans s2) (none_of s1 nD) (FS.list hp hD DM)
theorem bt_go (n a b q : Nat) (l : List Nat) : Ue15.between n a b (q :: l) = (a, q) :: Ue15.between n (q + n) b l := rfl
theorem bt_len (n b : Nat) : ∀ (a : Nat) (l : List Nat), (Ue15.between n a b l).length = l.length + 1
  | _, [] => rfl
  | a, q :: l => by
    rw [bt_go, List.length_cons, bt_len n b (q + n) l, List.length_cons]
theorem k_pieces_between (G : Gs K mg C) : C8.Cal P w K mg base 4 "pieces_between" (spFind C betweenL) [] := by
  have K_Selection_init := k_Selection_init (P := P) (w := w) (base := base) G
  have K_Selection_begin := k_Selection_begin (P := P) (w := w) (base := base) G
  have K_Selection_end := k_Selection_end (P := P) (w := w) (base := base) G
  have K_matches_in := k_matches_in (P := P) (w := w) (base := base) G
  refine cal_of G.d_pieces_between sc_pieces_between (fun _ _ _ _ _ _ us hl => match us, hl with | [_, _, _], _ => rfl) (fun vs H Q E h => ?_) (fun f cdv A outer s H vs Q E hr h => ?_)
  · obtain ⟨M, p, q, b, t, u, sl, rfl, _⟩ := h; rfl
  · obtain ⟨M, p, q, b, t, u, sl, rfl, hp, hq, hu, hul, hb, h1, h2, ht, mo, tb, hQ⟩ := h
    refine ⟨_, (pss_cons (ps_set (i := 3) sc_pieces_between.nd rfl (Or.inl rfl) (pe_lst pa_nil)) (pss_cons (ps_set (i := 4) sc_pieces_between.nd rfl (Or.inl rfl) (C8.pe_mt0 K_Selection_begin hr (by decide) (pv 2))) (pss_cons (ps_for PassesOwn.never rfl (pi_list (C8.pe_c K_matches_in hr (by decide) rfl (pa_cons (pv 0) (pa_cons (pv 1) (pa_cons (pv 2) pa_nil))))) (pg_name (i := 5) sc_pieces_between.nd rfl (Or.inl rfl)) (pss_cons (ps_expr (pe_bm PySem.F.plainAttrs_list PySem.F.slot_list_append PySem.F.type_list_append mt_append (pv 3) (pa_cons (C8.pe_mk K_Selection_init hr (by decide) rfl (pa_cons (pv 4) (pa_cons (C8.pe_mt0 K_Selection_begin hr (by decide) (pv 5)) pa_nil))) pa_nil))) (pss_one (ps_set (i := 4) sc_pieces_between.nd rfl (Or.inl rfl) (C8.pe_mt0 K_Selection_end hr (by decide) (pv 5)))))) (pss_cons (ps_expr (pe_bm PySem.F.plainAttrs_list PySem.F.slot_list_append PySem.F.type_list_append mt_append (pv 3) (pa_cons (C8.pe_mk K_Selection_init hr (by decide) rfl (pa_cons (pv 4) (pa_cons (C8.pe_mt0 K_Selection_end hr (by decide) (pv 2)) pa_nil))) pa_nil))) (pss_one (ps_ret (pv 3))))))), ?_⟩
    obtain ⟨db, hb2⟩ := id hb
    have hlen : (Ue15.within_ t u sl).length ≤ t.length + 1 := fa_len t u (Ue15.hi sl) (t.length + 1) (Ue15.lo sl)
    refine ⟨Nat.zero_le _, fun D nD => ?_⟩
    have s0 : Same H (upd H D (.lst [])) := same_new nD
    have DM := fresh_S mo tb nD
    have hb0 := hb.same s0
    refine ⟨_, rfl, b, db, _, rfl, s0 _ _ hb2, lk_no no_begin, b, sl, rfl, hb0, ?_⟩
    refine ⟨_, rfl, _, rfl, _, rfl, M, p, q, b, t, u, sl, rfl, hp.same s0, hq.same s0, hu, hul, hb0, h1, h2, ht, mo.same s0, tb.same s0, fun H1 y s1 ny hy => ?_⟩
    obtain ⟨as, hy1, hy2⟩ := hy
    have hy3 := (vis_of hy1).1
    have ly := pr_len hy2
    have lmm : (matchesL t u sl).length = (Ue15.within_ t u sl).length := List.length_map _
    have hD1 : H1 D = some (.lst []) := s1 _ _ upd_same
    have yD : y ≠ D := fun e => by
      rw [e, upd_same] at ny
      cases ny
    have keep : ∀ H2, But D H1 H2 → Same H H2 := fun H2 b2 c o h => b2 _ _ (s1 _ _ (s0 _ _ h)) (ne_of_none h nD)
    refine ⟨y, rfl, ⟨_, SqL.of hy3⟩, ?_⟩
    refine for_list (a := y) (xs := as.map V.ref) (fun i σ H2 => But D H1 H2 ∧ (∃ (ys : List V) (acc : List Sel) (k : Nat), H2 D = some (.lst ys) ∧ Paired (FS C M D H2) ys acc ∧ acc.length = i ∧ acc ++ ((Ue15.between u.length k (Ue15.hi sl) ((Ue15.within_ t u sl).drop i)).map fun y => (⟨y.1, y.2⟩ : Sel)) = betweenL t u sl ∧
      ∃ v, σ = [some (.ref p), some (.ref q), some (.ref b), some (.ref D), some (.int (k : Nat)), v])) ⟨fun c o h _ => h, [], [], Ue15.lo sl, hD1, .nil, rfl, rfl, none, rfl⟩ (fun i σ H2 _ ⟨e, _⟩ => SqL.of (e _ _ hy3 yD)) ?_ ?_
    · rintro i v σ H2 hi ⟨b2, ys, acc, k, hD, hp2, hal, hacc, v2, rfl⟩
      obtain ⟨c, hc, rfl⟩ := ref_at hi
      obtain ⟨sc, hsc, hcs⟩ := pr_get hy2 hc
      have s2 := keep H2 b2
      obtain ⟨dc, hcH⟩ := hcs
      have hc2 : H2 c = _ := b2 _ _ (vis_of hcH).1 (ne_of (vis_of hcH).1 hD1 (by intro z; cases z))
      have hcS : SelAt C H2 c sc := ⟨dc, hc2⟩
      have hlt : i < (Ue15.within_ t u sl).length := by
        have := (List.getElem?_eq_some_iff.mp hc).1
        omega
      have hwi : (Ue15.within_ t u sl)[i]? = some (Ue15.within_ t u sl)[i] := List.getElem?_eq_getElem hlt
      have esc := map_at hwi hsc
      generalize (Ue15.within_ t u sl)[i] = z at hwi esc
      have e1 : Ue15.lo sc = z ∧ Ue15.hi sc = z + u.length := by
        rw [esc]
        unfold Ue15.lo Ue15.hi foundAt
        dsimp only
        omega
      rw [dropX_at hwi, bt_go] at hacc
      refine ⟨_, rfl, .inl ⟨rfl, _, SqL.of hD⟩, _, rfl, _, rfl, c, dc, _, rfl, hc2, lk_no no_begin, c, sc, rfl, hcS, fun x4 d4 n4 nd4 ne => ⟨x4, d4, k, z, by rw [← e1.1]; rfl, upd_same, fun H4 h4 k4 => ⟨rfl, ?_⟩⟩⟩
      have s4 : Same H2 H4 := Same.made n4 nd4 k4
      have ln := pr_len hp2
      refine ⟨D, _, _, rfl, rfl, s4 _ _ hD, szl (by omega), ?_⟩
      have hcD : c ≠ D := ne_of hc2 hD (by intro z; cases z)
      have hc5 : upd H4 D (.lst (ys ++ [V.ref x4])) c = some (.ins C.sel dc (nSel.zip [.int (sc.anchor : Nat), .int (sc.hand : Nat)])) := by
        rw [upd_ne hcD]
        exact s4 _ _ hc2
      refine ⟨_, rfl, c, dc, _, rfl, hc5, lk_no no_end, c, sc, rfl, ⟨dc, hc5⟩, fun c o h n => (by rw [upd_ne n]; exact s4 _ _ (b2 _ _ h n)), ys ++ [V.ref x4], acc ++ [⟨k, z⟩], z + u.length, upd_same, ?_, by rw [List.length_append, hal]; rfl, ?_, _, by rw [← e1.2]; rfl⟩
      · obtain ⟨d5, h4⟩ := h4
        refine pr_app (pr_mono (fun v c z => FS.mono _ _ v c (FS.mono _ _ v c z (but_same s4)) but_put) hp2) (.cons (FS.mono _ _ _ _ ⟨x4, rfl, fun e => (by rw [e, hD] at n4; cases n4), d5, vis_in h4 (fresh_S (mo.same s2) (tb.same s2) n4)⟩ but_put) .nil)
      · rw [← hacc, List.append_assoc]
        rfl
    · rintro σ H2 ⟨b2, ys, acc, k, hD, hp2, hal, hacc, v2, rfl⟩
      have s2 := keep H2 b2
      rw [List.length_map] at hal hacc
      rw [ly, lmm, List.drop_length] at hacc
      have ln := pr_len hp2
      refine ⟨_, rfl, .inl ⟨rfl, _, SqL.of hD⟩, _, rfl, _, rfl, b, db, _, rfl, s2 _ _ hb2, lk_no no_end, b, sl, rfl, hb.same s2, fun x4 d4 n4 nd4 ne => ⟨x4, d4, k, Ue15.hi sl, rfl, upd_same, fun H4 h4 k4 => ⟨rfl, ?_⟩⟩⟩
      have s4 : Same H2 H4 := Same.made n4 nd4 k4
      refine ⟨D, _, _, rfl, rfl, s4 _ _ hD, szl (by omega), ?_⟩
      refine ⟨_, rfl, hQ _ _ (same_put (s2.trans s4) nD) nD ?_⟩
      rw [← hacc]
      obtain ⟨d5, h4⟩ := h4
      refine FS.list (pr_app (pr_mono (fun v c z => FS.mono _ _ v c (FS.mono _ _ v c z (but_same s4)) but_put) hp2) (.cons (FS.mono _ _ _ _ ⟨x4, rfl, fun e => (by rw [e, hD] at n4; cases n4), d5, vis_in h4 (fresh_S (mo.same s2) (tb.same s2) n4)⟩ but_put) .nil)) upd_same DM
end
end Ke
end
section
set_option maxHeartbeats 4500000
namespace Ke
open PySem PySem.Spec L2 LamX PyProof.Rows
open Ue15 (Sel Told Ed)
theorem selects_told (e : Ed) (l : List Sel) (k : Nat) : Ue15.selects e l k = if l = [] ∨ 30 < l.length then e else { e with sels := Ue15.tidy (told l k) } := rfl
theorem pr_len0 {α β : Type} {F : α → β → Prop} {l : List α} {m : List β} (h : Paired F l m) : l = [] ↔ m = [] := by
  cases h <;> simp
section
variable {P : Program} {w : World} {K : PySem.W.Frag} {mg : Str → Option Value} {base : Heap} {C : Ca}
def sp_select_found (C : Ca) : Sp := fun vs H Q _ => ∃ (a y : Addr) (L : Lo) (e : Ed) (cq : List Nat) (l : List Sel), vs = [.ref a, .ref y] ∧ EdAt C H a L e cq ∧ SelsL C (vis (edM C a L) H) y l ∧
  ∀ H2 L2, EdAt C H2 a L2 (Ue15.selects e l (l.length - 1)) cq → Fr2 C a L H L2 H2 → Q .non H2
theorem k_select_found (G : Gs K mg C) (TB : TabB base mg C.tc C.tP) : C8.Cal P w K mg base 7 "select_found" (sp_select_found C) [] := by
  have K_Editor_select := k_Editor_select (P := P) (w := w) (base := base) G TB
  refine cal_of G.d_select_found sc_select_found (fun _ _ _ _ _ _ us hl => match us, hl with | [_, _], _ => rfl) (fun vs H Q E h => ?_) (fun f cdv A outer s H vs Q E hr h => ?_)
  · obtain ⟨a, y, L, e, cq, l, rfl, _⟩ := h; rfl
  · obtain ⟨a, y, L, e, cq, l, rfl, hE, hy, hQ⟩ := h
    refine ⟨_, (pss_one (ps_if (pt_chain op_le op_le pe_int (pe_callB call_len_seq (by rfl) G.b_len PySem.boot_len (pa_cons (pv 1) pa_nil)) (C8.pe_gc rfl G.c_MOST_SELECTIONS)) (pss_one (ps_expr (C8.pe_mt K_Editor_select hr (by decide) (pv 0) (pa_cons (pv 1) (pa_cons (pe_op op_sub (pe_callB call_len_seq (by rfl) G.b_len PySem.boot_len (pa_cons (pv 1) pa_nil)) pe_int) pa_nil))))) pss_nil)), ?_⟩
    obtain ⟨as, hy1, hy2⟩ := id hy
    have hy3 := (vis_of hy1).1
    have ly := pr_len hy2
    rw [selects_told] at hQ
    refine ⟨_, rfl, _, _, rfl, .inl (SqL.of hy3), ?_⟩
    rw [List.length_map, ly]
    have fin0 : l.length = 0 ∨ 30 < l.length → EdAt C H a L (if l = [] ∨ 30 < l.length then e else { e with sels := Ue15.tidy (told l (l.length - 1)) }) cq := fun z => by
      rw [if_pos (z.imp (fun z => List.eq_nil_of_length_eq_zero z) id)]
      exact hE
    refine ⟨_, _, rfl, rfl, _, rfl, dI (fun h1 => ?_) fun h1 => ?_⟩
    · refine ⟨_, _, rfl, rfl, _, rfl, dI (fun h2 => ?_) fun h2 => ?_⟩
      · have hne : ¬ (l = [] ∨ 30 < l.length) := fun z => by
          rcases z with z | z
          · rw [z] at h1
            simp at h1
          · omega
        rw [if_neg hne] at hQ
        have e1 : ((l.length : Nat) : Int) - 1 = ((l.length - 1 : Nat) : Int) := by omega
        refine ⟨_, rfl, a, L.dx, _, rfl, hE.obj, lk_no ne_select, _, rfl, _, rfl, _, _, rfl, .inl (SqL.of hy3), _, _, rfl, rfl, ?_⟩
        rw [List.length_map, ly]
        exact ⟨a, y, L, e, cq, l, l.length - 1, by dsimp only; rw [e1]; rfl, hE, hy, by omega, by omega, hQ⟩
      · exact hQ _ _ (fin0 (by omega)) (ExtN.refl _)
    · exact ⟨_, rfl, hQ _ _ (fin0 (by omega)) (ExtN.refl _)⟩
def spEdW (C : Ca) (pre : Ed → Prop) (f : List Nat → Ed → Ed) : Sp := fun vs H Q _ => ∃ (a p : Addr) (L : Lo) (e : Ed) (cq wt : List Nat), vs = [.ref a, .ref p] ∧ EdAt C H a L e cq ∧ pre e ∧ TxtAt (vis (edM C a L) H) p wt ∧ wt ≠ [] ∧ wt.length ≤ 10000000 ∧
  ∀ H2 L2, EdAt C H2 a L2 (f wt e) cq → Fr2 C a L H L2 H2 → Q .non H2
theorem flat_len {α : Type} {f : Sel → List α} {n : Nat} : ∀ (l : List Sel), (∀ x, (f x).length ≤ n) → (l.flatMap f).length ≤ n * l.length
  | [], _ => Nat.zero_le _
  | x :: l, h => by
    have h1 := h x
    have h2 := flat_len l h
    rw [List.flatMap_cons, List.length_append, List.length_cons]
    rw [Nat.mul_succ]
    omega
theorem k_choose_matches (G : Gs K mg C) (TB : TabB base mg C.tc C.tP) : C8.Cal P w K mg base 8 "choose_matches" (spEdW C EInv (fun wt e => Ue15.selects e (e.sels.flatMap fun x => matchesL e.text wt x.1) ((e.sels.flatMap fun x => matchesL e.text wt x.1).length - 1))) [] := by
  have K_matches_in := k_matches_in (P := P) (w := w) (base := base) G
  have K_select_found := k_select_found (P := P) (w := w) (base := base) G TB
  refine cal_of G.d_choose_matches sc_choose_matches (fun _ _ _ _ _ _ us hl => match us, hl with | [_, _], _ => rfl) (fun vs H Q E h => ?_) (fun f cdv A outer s H vs Q E hr h => ?_)
  · obtain ⟨a, p, L, e, cq, wt, rfl, _⟩ := h; rfl
  · obtain ⟨a, p, L, e, cq, wt, rfl, hE, hI, hp, hw0, hwl, hQ⟩ := h
    refine ⟨_, (pss_cons (ps_set (i := 2) sc_choose_matches.nd rfl (Or.inl rfl) (pe_lst pa_nil)) (pss_cons (ps_for PassesOwn.never rfl (pi_list (pe_fld (pe_fld (pv 0) rfl) rfl)) (pg_name (i := 3) sc_choose_matches.nd rfl (Or.inl rfl)) (pss_one (ps_expr (pe_bm PySem.F.plainAttrs_list PySem.F.slot_list_extend PySem.F.type_list_extend mt_extend (pv 2) (pa_cons (C8.pe_c K_matches_in hr (by decide) rfl (pa_cons (pe_fld (pv 0) rfl) (pa_cons (pv 1) (pa_cons (pv 3) pa_nil)))) pa_nil))))) (pss_one (ps_expr (C8.pe_c K_select_found hr (by decide) rfl (pa_cons (pv 0) (pa_cons (pv 2) pa_nil))))))), ?_⟩
    obtain ⟨sl, m, dp, q, bs, es, hm, hps, hq, hpr, _⟩ := hE.each
    obtain ⟨hlen, hin⟩ := hI.hands es
    have lb := pr_len hpr
    have htx := hI.txt
    have hfm : (e.sels.flatMap fun x => matchesL e.text wt x.1) = sl.flatMap fun x => matchesL e.text wt x := by
      rw [← List.flatMap_map (f := fun x : Told => x.1) (g := fun x => matchesL e.text wt x), es, told_fsts]
    dsimp only at hQ
    rw [hfm] at hQ
    have hb : ∀ x, (matchesL e.text wt x).length ≤ 202 := fun x => by
      have := fa_len e.text wt (Ue15.hi x) (e.text.length + 1) (Ue15.lo x)
      unfold matchesL
      rw [List.length_map]
      have h2 : (Ue15.within_ e.text wt x).length ≤ 201 := by
        show (Ue15.findAll e.text wt (Ue15.hi x) (e.text.length + 1) (Ue15.lo x)).length ≤ 201
        omega
      first
      | omega
      | (rw [bt_len]; omega)
    refine ⟨Nat.zero_le _, fun D nD => ?_⟩
    have s0 : Same H (upd H D (.lst [])) := same_new nD
    have DM := hE.fresh nD
    have hE0 := hE.same s0
    refine ⟨_, rfl, a, C.ed, L.dx, _, _, rfl, hE0.obj, G.k_Editor, G.n_Editor_selected, lk_zip fe_selected rfl, L.ps, C.sels, dp, _, _, rfl, s0 _ _ hps, G.k_Selections, G.n_Selections_each, lk_zip fa_each rfl, q, rfl, ⟨_, SqL.of (s0 _ _ hq)⟩, ?_⟩
    refine for_list (a := q) (xs := bs.map V.ref) (fun i σ H2 => Same H H2 ∧ (∃ as : List Addr, H2 D = some (.lst (as.map V.ref)) ∧ Paired (SelAt C (vis (edM C a L) H2)) as ((sl.take i).flatMap fun x => matchesL e.text wt x)) ∧ ∃ v, σ = [some (.ref a), some (.ref p), some (.ref D), v]) ⟨s0, ⟨[], upd_same, .nil⟩, none, rfl⟩ (fun i σ H2 _ ⟨e, _⟩ => SqL.of (e _ _ hq)) ?_ ?_
    · rintro i v σ H2 hi ⟨s2, ⟨as, hD, hp2⟩, v2, rfl⟩
      obtain ⟨c, hc, rfl⟩ := ref_at hi
      obtain ⟨sc, hsc, hcs⟩ := pr_get hpr hc
      have hl2 := hin sc (List.mem_of_getElem? hsc)
      have hE2 := hE.same s2
      refine ⟨_, rfl, .inl ⟨rfl, _, SqL.of hD⟩, _, rfl, a, C.ed, L.dx, _, _, rfl, hE2.obj, G.k_Editor, G.n_Editor_text, lk_zip fe_text rfl, _, rfl, _, rfl, edM C a L, L.pt, p, c, e.text, wt, sc, rfl, hE2.txt.same (vis_sub _ _), (TxtAt.same hp (vis_sub _ _)).same s2, hw0, hwl, (hcs.same (vis_sub _ _)).same s2, hl2.1, hl2.2, hI.txt, hE2.mok, hE2.tb, fun H3 y s3 ny hy => ?_⟩
      obtain ⟨as3, hy1, hy2⟩ := hy
      have l1 := pr_len hp2
      have l2 := pr_len hy2
      have l3 := flat_len (f := fun x => matchesL e.text wt x) (sl.take i) hb
      rw [List.length_take] at l3
      have l4 := hb sc
      refine ⟨D, y, _, _, rfl, rfl, s3 _ _ hD, (vis_of hy1).1, by rw [List.length_map, List.length_map, sizeLine_eq]; omega, same_put (s2.trans s3) nD, ⟨as ++ as3, by rw [upd_same, List.map_append], ?_⟩, _, rfl⟩
      rw [take_at hsc, List.flatMap_append]
      have hDs := s3 _ _ hD
      refine pr_app (pr_mono (fun _ _ z => sel_put ⟨_, hDs⟩ (z.same (vis_same s3))) hp2) (pr_mono (fun _ _ z => sel_put ⟨_, hDs⟩ z) ?_)
      simpa using hy2
    · rintro σ H2 ⟨s2, ⟨as, hD, hp2⟩, v2, rfl⟩
      rw [List.length_map, lb, List.take_length] at hp2
      exact ⟨_, rfl, _, rfl, a, D, L, e, cq, _, rfl, hE.same s2, ⟨as, vis_in hD DM, hp2⟩, fun H3 L3 h3 f3 => hQ _ _ h3 ((vis_ext (ExtN.of s2)).trans f3)⟩
theorem k_choose_pieces_between (G : Gs K mg C) (TB : TabB base mg C.tc C.tP) : C8.Cal P w K mg base 8 "choose_pieces_between" (spEdW C EInv (fun wt e => Ue15.selects e (e.sels.flatMap fun x => betweenL e.text wt x.1) ((e.sels.flatMap fun x => betweenL e.text wt x.1).length - 1))) [] := by
  have K_pieces_between := k_pieces_between (P := P) (w := w) (base := base) G
  have K_select_found := k_select_found (P := P) (w := w) (base := base) G TB
  refine cal_of G.d_choose_pieces_between sc_choose_pieces_between (fun _ _ _ _ _ _ us hl => match us, hl with | [_, _], _ => rfl) (fun vs H Q E h => ?_) (fun f cdv A outer s H vs Q E hr h => ?_)
  · obtain ⟨a, p, L, e, cq, wt, rfl, _⟩ := h; rfl
  · obtain ⟨a, p, L, e, cq, wt, rfl, hE, hI, hp, hw0, hwl, hQ⟩ := h
    refine ⟨_, (pss_cons (ps_set (i := 2) sc_choose_pieces_between.nd rfl (Or.inl rfl) (pe_lst pa_nil)) (pss_cons (ps_for PassesOwn.never rfl (pi_list (pe_fld (pe_fld (pv 0) rfl) rfl)) (pg_name (i := 3) sc_choose_pieces_between.nd rfl (Or.inl rfl)) (pss_one (ps_expr (pe_bm PySem.F.plainAttrs_list PySem.F.slot_list_extend PySem.F.type_list_extend mt_extend (pv 2) (pa_cons (C8.pe_c K_pieces_between hr (by decide) rfl (pa_cons (pe_fld (pv 0) rfl) (pa_cons (pv 1) (pa_cons (pv 3) pa_nil)))) pa_nil))))) (pss_one (ps_expr (C8.pe_c K_select_found hr (by decide) rfl (pa_cons (pv 0) (pa_cons (pv 2) pa_nil))))))), ?_⟩
    obtain ⟨sl, m, dp, q, bs, es, hm, hps, hq, hpr, _⟩ := hE.each
    obtain ⟨hlen, hin⟩ := hI.hands es
    have lb := pr_len hpr
    have htx := hI.txt
    have hfm : (e.sels.flatMap fun x => betweenL e.text wt x.1) = sl.flatMap fun x => betweenL e.text wt x := by
      rw [← List.flatMap_map (f := fun x : Told => x.1) (g := fun x => betweenL e.text wt x), es, told_fsts]
    dsimp only at hQ
    rw [hfm] at hQ
    have hb : ∀ x, (betweenL e.text wt x).length ≤ 202 := fun x => by
      have := fa_len e.text wt (Ue15.hi x) (e.text.length + 1) (Ue15.lo x)
      unfold betweenL
      rw [List.length_map]
      have h2 : (Ue15.within_ e.text wt x).length ≤ 201 := by
        show (Ue15.findAll e.text wt (Ue15.hi x) (e.text.length + 1) (Ue15.lo x)).length ≤ 201
        omega
      first
      | omega
      | (rw [bt_len]; omega)
    refine ⟨Nat.zero_le _, fun D nD => ?_⟩
    have s0 : Same H (upd H D (.lst [])) := same_new nD
    have DM := hE.fresh nD
    have hE0 := hE.same s0
    refine ⟨_, rfl, a, C.ed, L.dx, _, _, rfl, hE0.obj, G.k_Editor, G.n_Editor_selected, lk_zip fe_selected rfl, L.ps, C.sels, dp, _, _, rfl, s0 _ _ hps, G.k_Selections, G.n_Selections_each, lk_zip fa_each rfl, q, rfl, ⟨_, SqL.of (s0 _ _ hq)⟩, ?_⟩
    refine for_list (a := q) (xs := bs.map V.ref) (fun i σ H2 => Same H H2 ∧ (∃ as : List Addr, H2 D = some (.lst (as.map V.ref)) ∧ Paired (SelAt C (vis (edM C a L) H2)) as ((sl.take i).flatMap fun x => betweenL e.text wt x)) ∧ ∃ v, σ = [some (.ref a), some (.ref p), some (.ref D), v]) ⟨s0, ⟨[], upd_same, .nil⟩, none, rfl⟩ (fun i σ H2 _ ⟨e, _⟩ => SqL.of (e _ _ hq)) ?_ ?_
    · rintro i v σ H2 hi ⟨s2, ⟨as, hD, hp2⟩, v2, rfl⟩
      obtain ⟨c, hc, rfl⟩ := ref_at hi
      obtain ⟨sc, hsc, hcs⟩ := pr_get hpr hc
      have hl2 := hin sc (List.mem_of_getElem? hsc)
      have hE2 := hE.same s2
      refine ⟨_, rfl, .inl ⟨rfl, _, SqL.of hD⟩, _, rfl, a, C.ed, L.dx, _, _, rfl, hE2.obj, G.k_Editor, G.n_Editor_text, lk_zip fe_text rfl, _, rfl, _, rfl, edM C a L, L.pt, p, c, e.text, wt, sc, rfl, hE2.txt.same (vis_sub _ _), (TxtAt.same hp (vis_sub _ _)).same s2, hw0, hwl, (hcs.same (vis_sub _ _)).same s2, hl2.1, hl2.2, hI.txt, hE2.mok, hE2.tb, fun H3 y s3 ny hy => ?_⟩
      obtain ⟨as3, hy1, hy2⟩ := hy
      have l1 := pr_len hp2
      have l2 := pr_len hy2
      have l3 := flat_len (f := fun x => betweenL e.text wt x) (sl.take i) hb
      rw [List.length_take] at l3
      have l4 := hb sc
      refine ⟨D, y, _, _, rfl, rfl, s3 _ _ hD, (vis_of hy1).1, by rw [List.length_map, List.length_map, sizeLine_eq]; omega, same_put (s2.trans s3) nD, ⟨as ++ as3, by rw [upd_same, List.map_append], ?_⟩, _, rfl⟩
      rw [take_at hsc, List.flatMap_append]
      have hDs := s3 _ _ hD
      refine pr_app (pr_mono (fun _ _ z => sel_put ⟨_, hDs⟩ (z.same (vis_same s3))) hp2) (pr_mono (fun _ _ z => sel_put ⟨_, hDs⟩ z) ?_)
      simpa using hy2
    · rintro σ H2 ⟨s2, ⟨as, hD, hp2⟩, v2, rfl⟩
      rw [List.length_map, lb, List.take_length] at hp2
      exact ⟨_, rfl, _, rfl, a, D, L, e, cq, _, rfl, hE.same s2, ⟨as, vis_in hD DM, hp2⟩, fun H3 L3 h3 f3 => hQ _ _ h3 ((vis_ext (ExtN.of s2)).trans f3)⟩
def nextAt (e : Ed) : Option Nat := match Ue15.findFrom e.text e.search (Ue15.hi (Ue15.mainOf e)) with
  | some p => some p
  | none => Ue15.findFrom e.text e.search 0
theorem next_eq {e : Ed} (h : e.search ≠ []) : Ue15.nextOf e = (nextAt e).map (foundAt e.search.length) := by
  unfold Ue15.nextOf nextAt
  rw [if_neg h]
  cases Ue15.findFrom e.text e.search (Ue15.hi (Ue15.mainOf e)) <;> rfl
def sp_place_of_searched (C : Ca) : Sp := fun vs H Q _ => ∃ (a : Addr) (L : Lo) (e : Ed) (cq : List Nat), vs = [.ref a] ∧ EdAt C H a L e cq ∧ EInv e ∧ e.search.length ≤ 10000000 ∧ ∀ H2, Same H H2 → Q (optV (nextAt e)) H2
theorem k_place_of_searched (G : Gs K mg C) : C8.Cal P w K mg base 2 "place_of_searched" (sp_place_of_searched C) [] := by
  have K_Selection_end := k_Selection_end (P := P) (w := w) (base := base) G
  have K_Selections_main_one := k_Selections_main_one (P := P) (w := w) (base := base) G
  have K_first_place := k_first_place (P := P) (w := w) (base := base) G
  refine cal_of G.d_place_of_searched sc_place_of_searched (fun _ _ _ _ _ _ us hl => match us, hl with | [_], _ => rfl) (fun vs H Q E h => ?_) (fun f cdv A outer s H vs Q E hr h => ?_)
  · obtain ⟨a, L, e, cq, rfl, _⟩ := h; rfl
  · obtain ⟨a, L, e, cq, rfl, hE, hI, hsl, hQ⟩ := h
    refine ⟨_, (pss_cons (ps_set (i := 1) sc_place_of_searched.nd rfl (Or.inl rfl) (pe_fld (pv 0) rfl)) (pss_cons (ps_set (i := 2) sc_place_of_searched.nd rfl (Or.inl rfl) (pe_callB call_len_seq (by rfl) G.b_len PySem.boot_len (pa_cons (pe_fld (pv 0) rfl) pa_nil))) (pss_cons (ps_set (i := 3) sc_place_of_searched.nd rfl (Or.inl rfl) (C8.pe_c K_first_place hr (by decide) rfl (pa_cons (pe_fld (pv 0) rfl) (pa_cons (pv 1) (pa_cons (C8.pe_mt0 K_Selection_end hr (by decide) (C8.pe_mt0 K_Selections_main_one hr (by decide) (pe_fld (pv 0) rfl))) (pa_cons (pv 2) pa_nil)))))) (pss_cons (ps_if (pt_cmpR op_isN (pv 3) pe_non (nomark _)) (pss_one (ps_ret (C8.pe_c K_first_place hr (by decide) rfl (pa_cons (pe_fld (pv 0) rfl) (pa_cons (pv 1) (pa_cons pe_int (pa_cons (pv 2) pa_nil))))))) pss_nil) (pss_one (ps_ret (pv 3))))))), ?_⟩
    obtain ⟨sl, m, dp, q, bs, es, hm, hps, hq, hpr, _⟩ := hE.each
    have hsm : sl[m]? = some sl[m] := List.getElem?_eq_getElem hm
    obtain ⟨c, hc, hcs⟩ := pr_get2 hpr hsm
    obtain ⟨em, _⟩ := told_main hsm e es
    have hcin := (hI.ap es).2 _ (List.mem_of_getElem? hsm)
    generalize sl[m] = sm at *
    have htx := hI.txt
    have txt : TxtAt H L.pt e.text := hE.txt.same (vis_sub _ _)
    have sr : TxtAt H L.psr e.search := hE.srch.same (vis_sub _ _)
    have hcS := hcs.same (vis_sub _ _)
    obtain ⟨dc, hc2⟩ := id hcS
    have etk : e.text.take e.text.length = e.text := List.take_length
    refine ⟨_, rfl, a, C.ed, L.dx, _, _, rfl, hE.obj, G.k_Editor, G.n_Editor_searched, lk_zip fe_searched rfl, ?_⟩
    refine ⟨_, rfl, a, C.ed, L.dx, _, _, rfl, hE.obj, G.k_Editor, G.n_Editor_text, lk_zip fe_text rfl, _, _, rfl, .inl (SqL.of txt), ?_⟩
    rw [iL_len]
    refine ⟨_, rfl, a, C.ed, L.dx, _, _, rfl, hE.obj, G.k_Editor, G.n_Editor_text, lk_zip fe_text rfl, _, rfl, _, rfl, a, C.ed, L.dx, _, _, rfl, hE.obj, G.k_Editor, G.n_Editor_selected, lk_zip fe_selected rfl, L.ps, dp, _, rfl, hps, lk_no no_main_one, L.ps, dp, q, m, bs, c, rfl, hps, hq, hc, c, dc, _, rfl, hc2, lk_no no_end, c, sm, rfl, hcS, _, rfl, L.pt, L.psr, e.text, e.search, Ue15.hi sm, e.text.length, rfl, txt, sr, Nat.le_refl _, by omega, by omega, by omega, fun H1 s1 => ?_⟩
    rw [etk]
    have en : nextAt e = match Ue15.findFrom e.text e.search (Ue15.hi sm) with
      | some p => some p
      | none => Ue15.findFrom e.text e.search 0 := by
      unfold nextAt
      rw [em]
    cases hf : Ue15.findFrom e.text e.search (Ue15.hi sm) with
    | none =>
      rw [hf] at en
      have hE1 := hE.same s1
      refine (⟨_, rfl, rfl, _, rfl, ?_⟩)
      refine ⟨_, rfl, a, C.ed, L.dx, _, _, rfl, hE1.obj, G.k_Editor, G.n_Editor_text, lk_zip fe_text rfl, _, rfl, _, rfl, L.pt, L.psr, e.text, e.search, 0, e.text.length, rfl, txt.same s1, sr.same s1, Nat.le_refl _, by omega, by omega, by omega, fun H2 s2 => ?_⟩
      rw [etk]
      rw [en] at hQ
      exact hQ _ (s1.trans s2)
    | some p =>
      rw [hf] at en
      refine (⟨_, rfl, rfl, _, rfl, ?_⟩)
      refine ⟨_, rfl, ?_⟩
      rw [en] at hQ
      exact hQ _ s1
def sp_found_of_searched (C : Ca) : Sp := fun vs H Q _ => ∃ (a : Addr) (L : Lo) (e : Ed) (cq : List Nat), vs = [.ref a] ∧ EdAt C H a L e cq ∧ EInv e ∧ e.search.length ≤ 10000000 ∧
  ∀ H2 y, Same H H2 → H y = none → SelsL C (vis (edM C a L) H2) y (Ue15.nextOf e).toList → Q (.ref y) H2
theorem k_found_of_searched (G : Gs K mg C) : C8.Cal P w K mg base 3 "found_of_searched" (sp_found_of_searched C) [] := by
  have K_Selection_init := k_Selection_init (P := P) (w := w) (base := base) G
  have K_place_of_searched := k_place_of_searched (P := P) (w := w) (base := base) G
  refine cal_of G.d_found_of_searched sc_found_of_searched (fun _ _ _ _ _ _ us hl => match us, hl with | [_], _ => rfl) (fun vs H Q E h => ?_) (fun f cdv A outer s H vs Q E hr h => ?_)
  · obtain ⟨a, L, e, cq, rfl, _⟩ := h; rfl
  · obtain ⟨a, L, e, cq, rfl, hE, hI, hsl, hQ⟩ := h
    refine ⟨_, (pss_cons (ps_if (pt_not (pt_truth (pe_fld (pv 0) rfl) (by intro _; rfl))) (pss_one (ps_ret (pe_lst pa_nil))) pss_nil) (pss_cons (ps_set (i := 1) sc_found_of_searched.nd rfl (Or.inl rfl) (C8.pe_c K_place_of_searched hr (by decide) rfl (pa_cons (pv 0) pa_nil))) (pss_cons (ps_if (pt_cmpR op_isN (pv 1) pe_non (nomark _)) (pss_one (ps_ret (pe_lst pa_nil))) pss_nil) (pss_one (ps_ret (pe_lst (pa_cons (C8.pe_mk K_Selection_init hr (by decide) rfl (pa_cons (pv 1) (pa_cons (pe_op op_add (pv 1) (pe_callB call_len_seq (by rfl) G.b_len PySem.boot_len (pa_cons (pe_fld (pv 0) rfl) pa_nil))) pa_nil))) pa_nil))))))), ?_⟩
    have sr : TxtAt H L.psr e.search := hE.srch.same (vis_sub _ _)
    refine ⟨_, rfl, a, C.ed, L.dx, _, _, rfl, hE.obj, G.k_Editor, G.n_Editor_searched, lk_zip fe_searched rfl, _, .inl ⟨_, SqL.of sr, rfl⟩, ?_⟩
    by_cases hk : e.search = []
    · have e1 : (!(iL e.search).isEmpty) = false := by rw [hk]; rfl
      rw [e1]
      have en : Ue15.nextOf e = none := by
        unfold Ue15.nextOf
        rw [if_pos hk]
      rw [en] at hQ
      refine ⟨Nat.zero_le _, fun D nD => hQ _ _ (same_new nD) nD ⟨[], vis_in upd_same (hE.fresh nD), .nil⟩⟩
    · have e1 : (!(iL e.search).isEmpty) = true := by simp [hk]
      rw [e1]
      rw [next_eq hk] at hQ
      refine ⟨_, rfl, a, L, e, cq, rfl, hE, hI, hsl, fun H1 s1 => ?_⟩
      have hE1 := hE.same s1
      cases hn : nextAt e with
      | none =>
        rw [hn] at hQ
        refine (⟨_, rfl, rfl, _, rfl, ?_⟩)
        refine ⟨Nat.zero_le _, fun D nD => hQ _ _ (s1.trans (same_new nD)) (none_of s1 nD) ⟨[], vis_in upd_same (hE1.fresh nD), .nil⟩⟩
      | some p =>
        rw [hn] at hQ
        refine (⟨_, rfl, rfl, _, rfl, ?_⟩)
        refine ⟨_, rfl, _, rfl, _, rfl, a, C.ed, L.dx, _, _, rfl, hE1.obj, G.k_Editor, G.n_Editor_searched, lk_zip fe_searched rfl, _, _, rfl, .inl (SqL.of (sr.same s1)), _, _, rfl, rfl, fun x4 d4 n4 nd4 ne => ?_⟩
        rw [iL_len]
        refine ⟨x4, d4, p, p + e.search.length, rfl, upd_same, fun H4 h4 k4 => ⟨rfl, Nat.le_of_lt (szl (by show 1 ≤ 10000000; decide)), fun D nD => ?_⟩⟩
        have s4 : Same H1 H4 := Same.made n4 nd4 k4
        have s5 : Same H4 (upd H4 D (.lst [V.ref x4])) := same_new nD
        obtain ⟨d5, h4⟩ := h4
        exact hQ _ _ ((s1.trans s4).trans s5) (none_of (s1.trans s4) nD) ⟨[x4], vis_in upd_same ((hE1.same s4).fresh nD), .cons ⟨d5, vis_in (s5 _ _ h4) (hE1.fresh n4)⟩ .nil⟩
end
end Ke
end
section
set_option maxHeartbeats 4500000
namespace Ke
open PySem PySem.Spec L2 LamX PyProof.Rows
open Ue15 (Sel Told Ed)
structure SOk (e : Ed) : Prop where
  sr : e.search.length ≤ 10000000
def foundE (e : Ed) : Ed := match Ue15.nextOf e with
  | none => e
  | some s => Ue15.selects e [s] 0
def addE (e : Ed) : Ed := match Ue15.nextOf e with
  | none => e
  | some s => if Ue15.SELS ≤ e.sels.length then e else { e with sels := Ue15.tidy (e.sels.map (fun x => (x.1, false)) ++ [(s, true)]) }
theorem found_sel (e : Ed) : Ue15.selects e (Ue15.nextOf e).toList ((Ue15.nextOf e).toList.length - 1) = foundE e := by
  unfold foundE
  cases Ue15.nextOf e <;> rfl
theorem told_add (sl : List Sel) (m : Nat) (s : Sel) : told (sl ++ [s]) sl.length = (told sl m).map (fun x => (x.1, false)) ++ [(s, true)] := by
  rw [told_fst sl m (fun x => (x, false))]
  unfold told
  rw [List.zipIdx_append, List.map_append]
  congr 1
  · apply List.ext_getElem?
    intro i
    rw [List.getElem?_map, List.getElem?_map, List.getElem?_zipIdx]
    cases h : sl[i]? with
    | none => rfl
    | some x =>
      have := (List.getElem?_eq_some_iff.mp h).1
      simp
      omega
  · simp
section
variable {P : Program} {w : World} {K : PySem.W.Frag} {mg : Str → Option Value} {base : Heap} {C : Ca}
theorem k_choose_found (G : Gs K mg C) (TB : TabB base mg C.tc C.tP) : C8.Cal P w K mg base 8 "choose_found" (spEd C (fun e => EInv e ∧ SOk e) foundE) [] := by
  have K_found_of_searched := k_found_of_searched (P := P) (w := w) (base := base) G
  have K_select_found := k_select_found (P := P) (w := w) (base := base) G TB
  refine cal_of G.d_choose_found sc_choose_found (fun _ _ _ _ _ _ us hl => match us, hl with | [_], _ => rfl) (fun vs H Q E h => ?_) (fun f cdv A outer s H vs Q E hr h => ?_)
  · obtain ⟨a, L, e, cq, rfl, _⟩ := h; rfl
  · obtain ⟨a, L, e, cq, rfl, hE, ⟨hI, hS⟩, hQ⟩ := h
    refine ⟨_, (pss_one (ps_expr (C8.pe_c K_select_found hr (by decide) rfl (pa_cons (pv 0) (pa_cons (C8.pe_c K_found_of_searched hr (by decide) rfl (pa_cons (pv 0) pa_nil)) pa_nil))))), ?_⟩
    refine ⟨_, rfl, _, rfl, a, L, e, cq, rfl, hE, hI, hS.sr, fun H1 y s1 ny hy => ?_⟩
    refine ⟨a, y, L, e, cq, _, rfl, hE.same s1, hy, fun H2 L2 h2 f2 => hQ _ _ ?_ ((vis_ext (ExtN.of s1)).trans f2)⟩
    rw [found_sel] at h2
    exact h2
theorem k_add_found (G : Gs K mg C) (TB : TabB base mg C.tc C.tP) : C8.Cal P w K mg base 7 "add_found" (spEd C (fun e => EInv e ∧ SOk e) addE) [] := by
  have K_Editor_select := k_Editor_select (P := P) (w := w) (base := base) G TB
  have K_found_of_searched := k_found_of_searched (P := P) (w := w) (base := base) G
  refine cal_of G.d_add_found sc_add_found (fun _ _ _ _ _ _ us hl => match us, hl with | [_], _ => rfl) (fun vs H Q E h => ?_) (fun f cdv A outer s H vs Q E hr h => ?_)
  · obtain ⟨a, L, e, cq, rfl, _⟩ := h; rfl
  · obtain ⟨a, L, e, cq, rfl, hE, ⟨hI, hS⟩, hQ⟩ := h
    refine ⟨_, (pss_cons (ps_set (i := 1) sc_add_found.nd rfl (Or.inl rfl) (pe_fld (pe_fld (pv 0) rfl) rfl)) (pss_one (ps_if (pt_cmpR op_lt (pe_callB call_len_seq (by rfl) G.b_len PySem.boot_len (pa_cons (pv 1) pa_nil)) (C8.pe_gc rfl G.c_MOST_SELECTIONS) (nomark _)) (pss_cons (ps_set (i := 2) sc_add_found.nd rfl (Or.inl rfl) (C8.pe_c K_found_of_searched hr (by decide) rfl (pa_cons (pv 0) pa_nil))) (pss_one (ps_if (pt_truth (pv 2) (by intro _; rfl)) (pss_one (ps_expr (C8.pe_mt K_Editor_select hr (by decide) (pv 0) (pa_cons (pe_op op_cat (pv 1) (pv 2)) (pa_cons (pe_callB call_len_seq (by rfl) G.b_len PySem.boot_len (pa_cons (pv 1) pa_nil)) pa_nil))))) pss_nil))) pss_nil))), ?_⟩
    obtain ⟨sl, m, dp, q, bs, es, hm, hps, hq, hpr, _⟩ := hE.each
    obtain ⟨hlen, hin⟩ := hI.hands es
    have lb := pr_len hpr
    have els : e.sels.length = sl.length := by rw [es, told_len]
    refine ⟨_, rfl, a, C.ed, L.dx, _, _, rfl, hE.obj, G.k_Editor, G.n_Editor_selected, lk_zip fe_selected rfl, L.ps, C.sels, dp, _, _, rfl, hps, G.k_Selections, G.n_Selections_each, lk_zip fa_each rfl, ?_⟩
    refine ⟨_, rfl, _, _, rfl, .inl (SqL.of hq), _, _, rfl, rfl, _, rfl, ?_⟩
    rw [List.length_map, lb]
    refine dI (fun h1 => ?_) fun h1 => ?_
    · refine ⟨_, rfl, a, L, e, cq, rfl, hE, hI, hS.sr, fun H1 y s1 ny hy => ?_⟩
      have hE1 := hE.same s1
      obtain ⟨as, hy1, hy2⟩ := hy
      have hy3 := (vis_of hy1).1
      refine ⟨_, rfl, _, .inl ⟨_, SqL.of hy3, rfl⟩, ?_⟩
      cases hn : Ue15.nextOf e with
      | none =>
        rw [hn] at hy2
        have ea : as = [] := (pr_len0 hy2).mpr rfl
        have e1 : (!(as.map V.ref).isEmpty) = false := by rw [ea]; rfl
        rw [e1]
        refine hQ _ _ ?_ (vis_ext (ExtN.of s1))
        unfold addE
        rw [hn]
        exact hE1
      | some sx =>
        rw [hn] at hy2
        have la := pr_len hy2
        have e1 : (!(as.map V.ref).isEmpty) = true := by
          cases as with
          | nil => cases la
          | cons _ _ => rfl
        rw [e1]
        have hq1 := s1 _ _ hq
        refine ⟨_, rfl, a, L.dx, _, rfl, hE1.obj, lk_no ne_select, _, rfl, _, rfl, q, y, _, _, rfl, rfl, hq1, hy3, ?_, fun D nD => ?_⟩
        · have la2 : as.length = 1 := la
          rw [List.length_map, List.length_map, sizeLine_eq]
          omega
        have s2 : Same H1 (upd H1 D (.lst (bs.map V.ref ++ as.map V.ref))) := same_new nD
        have hE2 := hE1.same s2
        have hSL : SelsL C (vis (edM C a L) (upd H1 D (.lst (bs.map V.ref ++ as.map V.ref)))) D (sl ++ [sx]) := by
          refine ⟨bs ++ as, vis_in (by rw [upd_same, List.map_append]) (hE1.fresh nD), pr_app (pr_mono (fun _ _ z => z.same (vis_same (s1.trans s2))) hpr) (pr_mono (fun _ _ z => z.same (vis_same s2)) hy2)⟩
        refine ⟨_, rfl, _, _, rfl, .inl (SqL.of (s2 _ _ hq1)), ?_⟩
        rw [List.length_map, lb]
        refine ⟨a, D, L, e, cq, sl ++ [sx], sl.length, rfl, hE2, hSL, by rw [List.length_append]; show sl.length + 1 ≤ 1000; omega, by rw [List.length_append]; show sl.length < sl.length + 1; omega, fun H3 L3 h3 f3 => hQ _ _ ?_ ((vis_ext (ExtN.of (s1.trans s2))).trans f3)⟩
        unfold addE
        rw [hn]
        dsimp only
        have hns : ¬ Ue15.SELS ≤ e.sels.length := by
          unfold Ue15.SELS
          omega
        rw [if_neg hns, es, ← told_add]
        exact h3
    · refine hQ _ _ ?_ (ExtN.refl _)
      unfold addE
      have hs : Ue15.SELS ≤ e.sels.length := by
        unfold Ue15.SELS
        omega
      cases Ue15.nextOf e with
      | none => exact hE
      | some sx =>
        dsimp only
        rw [if_pos hs]
        exact hE
theorem k_search (G : Gs K mg C) (TB : TabB base mg C.tc C.tP) : C8.Cal P w K mg base 9 "search" (spEdW C EInv (fun wt e => foundE { e with search := wt })) [] := by
  have K_choose_found := k_choose_found (P := P) (w := w) (base := base) G TB
  refine cal_of G.d_search sc_search (fun _ _ _ _ _ _ us hl => match us, hl with | [_, _], _ => rfl) (fun vs H Q E h => ?_) (fun f cdv A outer s H vs Q E hr h => ?_)
  · obtain ⟨a, p, L, e, cq, wt, rfl, _⟩ := h; rfl
  · obtain ⟨a, p, L, e, cq, wt, rfl, hE, hI, hp, hw0, hwl, hQ⟩ := h
    refine ⟨_, (pss_cons (ps_fld (pv 0) (pv 1) rfl) (pss_one (ps_expr (C8.pe_c K_choose_found hr (by decide) rfl (pa_cons (pv 0) pa_nil))))), ?_⟩
    refine ⟨_, rfl, _, rfl, a, C.ed, L.dx, _, rfl, hE.obj, G.k_Editor, G.n_Editor_searched, ed_few _, ?_⟩
    rw [put_ed fe_searched (edi (by decide))]
    obtain ⟨h2, f2⟩ := hE.put (L2 := { L with psr := p }) (e2 := { e with search := wt }) ⟨rfl, rfl, rfl, rfl, rfl, rfl, rfl, rfl, rfl, rfl, rfl, rfl, rfl, rfl, rfl, rfl, rfl⟩ hE.txt hE.sel hE.kept hE.pcs hp hE.prm hE.last hE.mac
    refine ⟨_, rfl, a, { L with psr := p }, { e with search := wt }, cq, rfl, h2, ⟨⟨hI.txt, hI.sel, hI.kept, hI.und, hI.red, hI.ahd, hI.pcs, hI.cnt⟩, ⟨hwl⟩⟩, fun H3 L3 h3 f3 => hQ _ _ h3 (f2.trans f3)⟩
def finding (k : Nat) (e : Ed) : Ed := if k = 110 then foundE e else if k = 78 then addE e else e
theorem in_finding (k : Nat) : (rows_FINDING.lookup (k : Int)).isSome = true ↔ (k = 110 ∨ k = 78) := by
  rw [lk_in]
  unfold rows_FINDING
  simp
  omega
def isAsk (k : Nat) : Prop := k = 115 ∨ k = 83 ∨ k = 47
theorem in_prompts (k : Nat) : (rows_PROMPTS.lookup (k : Int)).isSome = true ↔ isAsk k := by
  rw [lk_in]
  unfold isAsk rows_PROMPTS
  simp
  omega
theorem foundx (G : Gs K mg C) (TB : TabB base mg C.tc C.tP) {k : Nat} (h : k = 110 ∨ k = 78) :
    ∃ n, rows_FINDING.lookup (k : Int) = some n ∧ ∀ f, mg n = some (.ref f) → HeldM P w K mg base 8 f (spEd C (fun e => EInv e ∧ SOk e) (finding k)) := by
  rcases h with rfl | rfl
  · exact ⟨_, rfl, fun f g => held_m (k_choose_found G TB) (by decide) g⟩
  · exact ⟨_, rfl, fun f g => held_m (k_add_found G TB) (by decide) g⟩
theorem k_do_finding (G : Gs K mg C) (TB : TabB base mg C.tc C.tP) : C8.Cal P w K mg base 9 "do_finding" (spEdK C (fun _ e => EInv e ∧ SOk e) finding) [] := by
  refine cal_of G.d_do_finding sc_do_finding (fun _ _ _ _ _ _ us hl => match us, hl with | [_, _], _ => rfl) (fun vs H Q E h => ?_) (fun f cdv A outer s H vs Q E hr h => ?_)
  · obtain ⟨a, L, e, cq, k, rfl, _⟩ := h; rfl
  · obtain ⟨a, L, e, cq, k, rfl, hE, hI, hQ⟩ := h
    refine ⟨_, (pss_one (ps_if (pt_cmpR (op_inW G.t_FINDING) (pv 1) (C8.pe_gc rfl G.g_FINDING) rfl) (pss_cons (ps_set (i := 2) sc_do_finding.nd rfl (Or.inl rfl) (pe_ix (ix_W G.t_FINDING) (C8.pe_gc rfl G.g_FINDING) (pv 1) (fun _ _ => rfl))) (pss_one (ps_expr (pe_callM (k := 8) (i := 2) (hr.mono (by decide)) rfl (Or.inl rfl) (pa_cons (pv 0) pa_nil))))) pss_nil)), ?_⟩
    refine ⟨_, rfl, (k : Int), rfl, rfl, _, rfl, bI (fun h3 => ?_) fun h3 => ?_⟩
    · have hk3 := (in_finding k).mp h3
      obtain ⟨n, hn, hf⟩ := foundx (P := P) (w := w) G TB hk3
      refine ⟨_, rfl, (k : Int), n, rfl, rfl, hn, fun f2 g2 => ?_⟩
      exact ⟨f2, _, rfl, hf f2 g2, _, rfl, a, L, e, cq, rfl, hE, hI, hQ⟩
    · have hk3 : ¬ (k = 110 ∨ k = 78) := fun z => by
        rw [(in_finding k).mpr z] at h3
        cases h3
      refine hQ _ _ ?_ (ExtN.refl _)
      unfold finding
      iterate 2 rw [if_neg (by omega)]
      exact hE
def sp_begin_prompt (C : Ca) : Sp := fun vs H Q _ => ∃ (a : Addr) (L : Lo) (e : Ed) (cq : List Nat) (k : Nat), vs = [.ref a, .int (k : Nat)] ∧ EdAt C H a L e cq ∧
  (isAsk k → ∀ H2 L2, EdAt C H2 a L2 { e with mode := .prompt k [] } cq → Fr2 C a L H L2 H2 → Q (.bl true) H2) ∧ (¬ isAsk k → Q (.bl false) H)
theorem k_begin_prompt (G : Gs K mg C) (TB : TabB base mg C.tc C.tP) : C8.Cal P w K mg base 10 "begin_prompt" (sp_begin_prompt C) [] := by
  refine cal_of G.d_begin_prompt sc_begin_prompt (fun _ _ _ _ _ _ us hl => match us, hl with | [_, _], _ => rfl) (fun vs H Q E h => ?_) (fun f cdv A outer s H vs Q E hr h => ?_)
  · obtain ⟨a, L, e, cq, k, rfl, _⟩ := h; rfl
  · obtain ⟨a, L, e, cq, k, rfl, hE, hQ1, hQ2⟩ := h
    refine ⟨_, (pss_cons (ps_if (pt_cmpR (op_notInW G.t_PROMPTS) (pv 1) (C8.pe_gc rfl G.g_PROMPTS) rfl) (pss_one (ps_ret pe_bl)) pss_nil) (pss_cons (ps_fld (pv 0) (C8.pe_gc rfl G.c_PROMPT) rfl) (pss_cons (ps_fld (pv 0) (pe_lst pa_nil) rfl) (pss_cons (ps_fld (pv 0) (pv 1) rfl) (pss_one (ps_ret pe_bl)))))), ?_⟩
    refine ⟨_, rfl, (k : Int), rfl, rfl, _, rfl, nI (fun h3 => ?_) fun h3 => ?_⟩
    · have hk3 : ¬ isAsk k := fun z => by
        rw [(in_prompts k).mpr z] at h3
        cases h3
      exact hQ2 hk3
    · have hk3 := (in_prompts k).mp h3
      refine ⟨_, rfl, a, C.ed, L.dx, _, rfl, hE.obj, G.k_Editor, G.n_Editor_mode, ed_few _, ?_⟩
      rw [put_ed fe_mode (edi (by decide))]
      refine ⟨Nat.zero_le _, fun p np => ?_⟩
      have npa : p ≠ a := fun z => by
        rw [z, upd_same] at np
        cases np
      have np2 : H p = none := by
        rw [upd_ne npa] at np
        exact np
      refine ⟨_, rfl, a, C.ed, L.dx, _, rfl, by rw [upd_ne (Ne.symm npa), upd_same], G.k_Editor, G.n_Editor_prompt, ed_few _, ?_⟩
      rw [put_ed fe_prompt (by simp [edV])]
      refine ⟨_, rfl, _, rfl, a, C.ed, L.dx, _, rfl, upd_same, G.k_Editor, G.n_Editor_prompt_key, ed_few _, ?_⟩
      rw [put_ed fe_prompt_key (by simp [edV]), upd_upd]
      have s1 : Same H (upd H p (.lst [])) := same_new np2
      have hE1 := hE.same s1
      have pM := hE.fresh np2
      have eH : upd (upd (upd H a (.ins C.ed L.dx (nEd.zip ((edV e L).set 3 (.int 2))))) p (.lst [])) a (.ins C.ed L.dx (nEd.zip ((((edV e L).set 3 (.int 2)).set 7 (.ref p)).set 8 (.int (k : Nat))))) = upd (upd H p (.lst [])) a (.ins C.ed L.dx (nEd.zip (edV { e with mode := .prompt k [] } { L with ppr := .ref p, pk := .int (k : Nat) }))) := by
        funext b
        by_cases h1 : b = a
        · rw [h1, upd_same, upd_same]
          rfl
        · rw [upd_ne h1, upd_ne h1]
          by_cases h2 : b = p
          · rw [h2, upd_same, upd_same]
          · rw [upd_ne h2, upd_ne h2, upd_ne h1]
      obtain ⟨h2, f2⟩ := hE1.put (L2 := { L with ppr := .ref p, pk := .int (k : Nat) }) (e2 := { e with mode := .prompt k [] }) ⟨rfl, rfl, rfl, rfl, rfl, rfl, rfl, rfl, rfl, rfl, rfl, rfl, rfl, rfl, rfl, rfl, rfl⟩ hE1.txt hE1.sel hE1.kept hE1.pcs hE1.srch (fun k2 w2 z => by
        cases z
        exact ⟨rfl, p, rfl, vis_in upd_same pM⟩) hE1.last hE1.mac
      have fin := hQ1 hk3 _ _ h2 ((vis_ext (ExtN.of s1)).trans f2)
      rw [← eH] at fin
      exact fin
theorem answered_m {e : Ed} {wt : List Nat} (h : wt ≠ []) : Ue15.answered e 115 wt = Ue15.selects e (e.sels.flatMap fun x => matchesL e.text wt x.1) ((e.sels.flatMap fun x => matchesL e.text wt x.1).length - 1) := by
  unfold Ue15.answered
  rw [if_neg h, if_pos rfl]
  rfl
theorem answered_b {e : Ed} {wt : List Nat} (h : wt ≠ []) : Ue15.answered e 83 wt = Ue15.selects e (e.sels.flatMap fun x => betweenL e.text wt x.1) ((e.sels.flatMap fun x => betweenL e.text wt x.1).length - 1) := by
  unfold Ue15.answered
  rw [if_neg h, if_neg (by decide), if_pos rfl]
  rfl
theorem answered_s {e : Ed} {wt : List Nat} (h : wt ≠ []) : Ue15.answered e 47 wt = foundE { e with search := wt } := by
  unfold Ue15.answered foundE Ue15.nextOf
  rw [if_neg h, if_neg (by decide), if_neg (by decide)]
  dsimp only
  rw [if_neg h]
  have em : Ue15.mainOf { e with search := wt } = Ue15.mainOf e := rfl
  rw [em]
  cases Ue15.findFrom e.text wt (Ue15.hi (Ue15.mainOf e)) with
  | some p => rfl
  | none => cases Ue15.findFrom e.text wt 0 <;> rfl
theorem asks (G : Gs K mg C) (TB : TabB base mg C.tc C.tP) {k : Nat} (h : isAsk k) :
    ∃ n, rows_PROMPTS.lookup (k : Int) = some n ∧ ∀ f, mg n = some (.ref f) → ∃ g, (∀ wt e, wt ≠ [] → g wt e = Ue15.answered e k wt) ∧ HeldM P w K mg base 9 f (spEdW C EInv g) := by
  rcases h with rfl | rfl | rfl
  · exact ⟨_, rfl, fun f g => ⟨_, fun wt e h => (answered_m h).symm, held_m (k_choose_matches G TB) (by decide) g⟩⟩
  · exact ⟨_, rfl, fun f g => ⟨_, fun wt e h => (answered_b h).symm, held_m (k_choose_pieces_between G TB) (by decide) g⟩⟩
  · exact ⟨_, rfl, fun f g => ⟨_, fun wt e h => (answered_s h).symm, held_m (k_search G TB) (by decide) g⟩⟩
def sp_answer_prompt (C : Ca) : Sp := fun vs H Q _ => ∃ (a : Addr) (L : Lo) (e : Ed) (cq : List Nat) (k : Nat) (wt : List Nat), vs = [.ref a] ∧ EdAt C H a L e cq ∧ EInv e ∧ e.mode = .prompt k wt ∧ isAsk k ∧ wt.length ≤ 10000000 ∧
  ∀ H2 L2, EdAt C H2 a L2 (Ue15.answered e k wt) cq → Fr2 C a L H L2 H2 → Q .non H2
theorem k_answer_prompt (G : Gs K mg C) (TB : TabB base mg C.tc C.tP) : C8.Cal P w K mg base 10 "answer_prompt" (sp_answer_prompt C) [] := by
  refine cal_of G.d_answer_prompt sc_answer_prompt (fun _ _ _ _ _ _ us hl => match us, hl with | [_], _ => rfl) (fun vs H Q E h => ?_) (fun f cdv A outer s H vs Q E hr h => ?_)
  · obtain ⟨a, L, e, cq, k, wt, rfl, _⟩ := h; rfl
  · obtain ⟨a, L, e, cq, k, wt, rfl, hE, hI, hmd, hk, hwl, hQ⟩ := h
    refine ⟨_, (pss_one (ps_if (pt_truth (pe_fld (pv 0) rfl) (by intro _; rfl)) (pss_cons (ps_set (i := 1) sc_answer_prompt.nd rfl (Or.inl rfl) (pe_ix (ix_W G.t_PROMPTS) (C8.pe_gc rfl G.g_PROMPTS) (pe_fld (pv 0) rfl) (fun _ _ => rfl))) (pss_one (ps_expr (pe_callM (k := 9) (i := 1) (hr.mono (by decide)) rfl (Or.inl rfl) (pa_cons (pv 0) (pa_cons (pe_fld (pv 0) rfl) pa_nil)))))) pss_nil)), ?_⟩
    obtain ⟨epk, p, epp, hp⟩ := hE.prm k wt hmd
    have hpH : TxtAt H p wt := hp.same (vis_sub _ _)
    refine ⟨_, rfl, a, C.ed, L.dx, _, _, rfl, hE.obj, G.k_Editor, G.n_Editor_prompt, lk_zip fe_prompt rfl, ?_⟩
    rw [epp]
    refine ⟨_, .inl ⟨_, SqL.of hpH, rfl⟩, ?_⟩
    by_cases h0 : wt = []
    · have e1 : (!(iL wt).isEmpty) = false := by rw [h0]; rfl
      rw [e1]
      refine hQ _ _ ?_ (ExtN.refl _)
      unfold Ue15.answered
      rw [if_pos h0]
      exact hE
    · have e1 : (!(iL wt).isEmpty) = true := by simp [h0]
      rw [e1]
      obtain ⟨n, hn, hf⟩ := asks (P := P) (w := w) G TB hk
      refine ⟨_, rfl, a, C.ed, L.dx, _, _, rfl, hE.obj, G.k_Editor, G.n_Editor_prompt_key, lk_zip fe_prompt_key rfl, (k : Int), n, rfl, epk, hn, fun f2 g2 => ?_⟩
      obtain ⟨g, hg, hh⟩ := hf f2 g2
      refine ⟨f2, _, rfl, hh, _, rfl, _, rfl, a, C.ed, L.dx, _, _, rfl, hE.obj, G.k_Editor, G.n_Editor_prompt, lk_zip fe_prompt rfl, ?_⟩
      rw [epp]
      refine ⟨a, p, L, e, cq, wt, rfl, hE, hI, hp, h0, hwl, fun H2 L2 h2 f3 => hQ _ _ ?_ f3⟩
      rw [hg wt e h0] at h2
      exact h2
theorem cut_last (t : List Nat) : cutV (iL t) none (some (-1)) = iL t.dropLast := by
  have h : cutV (iL t) none (some (-1)) = iL (t.take (t.length - 1)) := by
    rw [← cut_to]
    unfold cutV
    have e1 : HT.sIx (iL t).length (iL t).length (some (-1)) = t.length - 1 := by
      rw [iL_len]
      show (if (-1 : Int) < 0 then (-1 + ((t.length : Nat) : Int)).toNat else min (-1 : Int).toNat t.length) = _
      rw [if_pos (by decide)]
      omega
    rw [e1, HT.sIx_nat, iL_len, Nat.min_eq_left (Nat.sub_le _ _)]
  rw [h, List.dropLast_eq_take]
def promptKey (c : Nat) (wt : List Nat) (k : Nat) (e : Ed) : Ed := if k = 27 then Ue15.through e else if k = 10 then Ue15.through (Ue15.answered e c wt) else if k = 127 then { e with mode := .prompt c wt.dropLast } else { e with mode := .prompt c (wt ++ [k]) }
theorem prompt_put {H : Hp} {a p : Addr} {L : Lo} {e : Ed} {cq : List Nat} {c : Nat} {wt w2 : List Nat} (hE : EdAt C H a L e cq) (hmd : e.mode = .prompt c wt) (hp : TxtAt (vis (edM C a L) H) p w2) :
    EdAt C (upd H a (.ins C.ed L.dx (nEd.zip ((edV e L).set 7 (.ref p))))) a { L with ppr := .ref p } { e with mode := .prompt c w2 } cq ∧ Fr2 C a L H { L with ppr := .ref p } (upd H a (.ins C.ed L.dx (nEd.zip ((edV e L).set 7 (.ref p))))) := by
  obtain ⟨epk, _⟩ := hE.prm c wt hmd
  have eV : (edV e L).set 7 (.ref p) = edV { e with mode := .prompt c w2 } { L with ppr := .ref p } := by
    unfold edV
    rw [hmd]
    rfl
  rw [eV]
  exact hE.put (L2 := { L with ppr := .ref p }) (e2 := { e with mode := .prompt c w2 }) ⟨rfl, rfl, rfl, rfl, rfl, rfl, rfl, rfl, rfl, rfl, rfl, rfl, rfl, rfl, rfl, rfl, rfl⟩ hE.txt hE.sel hE.kept hE.pcs hE.srch (fun k2 w3 z => by
    cases z
    exact ⟨epk, p, rfl, hp⟩) hE.last hE.mac
theorem selects_flds {e : Ed} {l : List Sel} {k : Nat} : (Ue15.selects e l k).ahead = e.ahead ∧ (Ue15.selects e l k).undo = e.undo := by
  unfold Ue15.selects
  split <;> exact ⟨rfl, rfl⟩
theorem answered_flds {e : Ed} {k : Nat} {wt : List Nat} : (Ue15.answered e k wt).ahead = e.ahead ∧ (Ue15.answered e k wt).undo = e.undo := by
  unfold Ue15.answered
  split
  · exact ⟨rfl, rfl⟩
  split
  · exact selects_flds
  split
  · exact selects_flds
  dsimp only
  split
  · exact selects_flds
  split
  · exact selects_flds
  · exact ⟨rfl, rfl⟩
def sp_do_prompt_key (C : Ca) : Sp := fun vs H Q _ => ∃ (a : Addr) (L : Lo) (e : Ed) (cq : List Nat) (k c : Nat) (wt : List Nat), vs = [.ref a, .int (k : Nat)] ∧ EdAt C H a L e cq ∧ EInv e ∧ Under e ∧ e.mode = .prompt c wt ∧ isAsk c ∧ wt.length ≤ 9000000 ∧
  ∀ H2 L2, EdAt C H2 a L2 (promptKey c wt k e) cq → Fr2 C a L H L2 H2 → Q .non H2
theorem k_do_prompt_key (G : Gs K mg C) (TB : TabB base mg C.tc C.tP) : C8.Cal P w K mg base 11 "do_prompt_key" (sp_do_prompt_key C) [] := by
  have K_Editor_end_command_as_step := k_Editor_end_command_as_step (P := P) (w := w) (base := base) G
  have K_answer_prompt := k_answer_prompt (P := P) (w := w) (base := base) G TB
  refine cal_of G.d_do_prompt_key sc_do_prompt_key (fun _ _ _ _ _ _ us hl => match us, hl with | [_, _], _ => rfl) (fun vs H Q E h => ?_) (fun f cdv A outer s H vs Q E hr h => ?_)
  · obtain ⟨a, L, e, cq, k, c, wt, rfl, _⟩ := h; rfl
  · obtain ⟨a, L, e, cq, k, c, wt, rfl, hE, hI, hU, hmd, hc, hwl, hQ⟩ := h
    refine ⟨_, (pss_one (ps_if (pt_cmpR op_eq (pv 1) (C8.pe_gc rfl G.c_LINE_FEED) (nomark _)) (pss_cons (ps_expr (C8.pe_c K_answer_prompt hr (by decide) rfl (pa_cons (pv 0) pa_nil))) (pss_one (ps_expr (C8.pe_mt0 K_Editor_end_command_as_step hr (by decide) (pv 0))))) (pss_one (ps_if (pt_cmpR op_eq (pv 1) (C8.pe_gc rfl G.c_ESCAPE) (nomark _)) (pss_one (ps_expr (C8.pe_mt0 K_Editor_end_command_as_step hr (by decide) (pv 0)))) (pss_one (ps_if (pt_cmpR op_eq (pv 1) (C8.pe_gc rfl G.c_RUBOUT) (nomark _)) (pss_one (ps_fld (pv 0) (pe_slice sl_list (pe_fld (pv 0) rfl) po_none (po_some (pe_un un_neg pe_int))) rfl)) (pss_one (ps_fld (pv 0) (pe_op op_cat (pe_fld (pv 0) rfl) (pe_lst (pa_cons (pv 1) pa_nil))) rfl)))))))), ?_⟩
    obtain ⟨x, hx⟩ : ∃ x, e.ahead = some x := Option.ne_none_iff_exists'.mp hU.ah
    obtain ⟨epk, p, epp, hp⟩ := hE.prm c wt hmd
    have hpH : TxtAt H p wt := hp.same (vis_sub _ _)
    refine ⟨_, rfl, rfl, _, rfl, dI (fun h1 => ?_) fun h1 => ?_⟩
    · have hk : k = 10 := int_eq h1
      refine ⟨_, rfl, a, L, e, cq, c, wt, rfl, hE, hI, hmd, hc, by omega, fun H2 L2 h2 f2 => ?_⟩
      refine ⟨_, rfl, a, L2.dx, _, rfl, h2.obj, lk_no ne_end_command_as_step, a, L2, _, cq, x, rfl, h2, answered_flds.1.trans hx, by rw [answered_flds.2]; exact hU.un, fun H3 L3 h3 f3 => hQ _ _ ?_ (f2.trans f3)⟩
      unfold promptKey
      rw [if_neg (by omega), if_pos hk]
      exact h3
    have hk : k ≠ 10 := int_ne h1
    refine ⟨_, rfl, rfl, _, rfl, dI (fun h2 => ?_) fun h2 => ?_⟩
    · have hk2 : k = 27 := int_eq h2
      refine ⟨_, rfl, a, L.dx, _, rfl, hE.obj, lk_no ne_end_command_as_step, a, L, _, cq, x, rfl, hE, hx, hU.un, fun H3 L3 h3 f3 => hQ _ _ ?_ f3⟩
      unfold promptKey
      rw [if_pos hk2]
      exact h3
    have hk2 : k ≠ 27 := int_ne h2
    refine ⟨_, rfl, rfl, _, rfl, dI (fun h3 => ?_) fun h3 => ?_⟩
    · have hk3 : k = 127 := int_eq h3
      refine ⟨_, rfl, a, C.ed, L.dx, _, _, rfl, hE.obj, G.k_Editor, G.n_Editor_prompt, lk_zip fe_prompt rfl, ?_⟩
      rw [epp]
      refine ⟨_, rfl, _, rfl, p, _, rfl, SqL.of hpH, fun z nz => ?_⟩
      have hE1 := hE.same (same_new (o := .lst (cutV (iL wt) none (some (-1)))) nz)
      refine ⟨_, rfl, a, C.ed, L.dx, _, rfl, hE1.obj, G.k_Editor, G.n_Editor_prompt, ed_few _, ?_⟩
      rw [put_ed fe_prompt (edi (by decide))]
      obtain ⟨h5, f5⟩ := prompt_put (w2 := wt.dropLast) hE1 hmd (p := z) (vis_in (by rw [upd_same, cut_last]) (hE.fresh nz))
      refine hQ _ _ ?_ ((vis_ext (ExtN.of (same_new nz))).trans f5)
      unfold promptKey
      rw [if_neg hk2, if_neg hk, if_pos hk3]
      exact h5
    · have hk3 : k ≠ 127 := int_ne h3
      refine ⟨_, rfl, a, C.ed, L.dx, _, _, rfl, hE.obj, G.k_Editor, G.n_Editor_prompt, lk_zip fe_prompt rfl, ?_⟩
      rw [epp]
      refine ⟨_, rfl, Nat.le_of_lt (szl (by show 1 ≤ 10000000; decide)), fun y ny => ?_⟩
      have s1 : Same H (upd H y (.lst [V.int (k : Nat)])) := same_new ny
      refine ⟨p, y, _, _, rfl, rfl, s1 _ _ hpH, upd_same, by rw [iL_len, sizeLine_eq]; show wt.length + 1 ≤ _; omega, fun z nz => ?_⟩
      have s2 : Same (upd H y (.lst [V.int (k : Nat)])) (upd (upd H y (.lst [V.int (k : Nat)])) z (.lst (iL wt ++ [V.int (k : Nat)]))) := same_new nz
      have hE1 := (hE.same s1).same s2
      refine ⟨_, rfl, a, C.ed, L.dx, _, rfl, hE1.obj, G.k_Editor, G.n_Editor_prompt, ed_few _, ?_⟩
      rw [put_ed fe_prompt (edi (by decide))]
      obtain ⟨h5, f5⟩ := prompt_put (w2 := wt ++ [k]) hE1 hmd (p := z) (vis_in (by rw [upd_same, iL_app]; rfl) ((hE.same s1).fresh nz))
      refine hQ _ _ ?_ ((vis_ext (ExtN.of (s1.trans s2))).trans f5)
      unfold promptKey
      rw [if_neg hk2, if_neg hk, if_neg hk3]
      exact h5
end
end Ke
end
section
set_option maxHeartbeats 4500000
namespace Ke
open PySem PySem.Spec L2 LamX PyProof.Rows
open Ue15 (Sel Told Ed)
section
variable {C : Ca} {H : Hp} {a : Addr} {L : Lo} {e : Ed} {cq : List Nat}
/-- another list of steps -/
theorem und_put {us : List Addr} {u2 : List (List Nat × List Told)} (hE : EdAt C H a L e cq) (hu : Paired (MomAt C (vis (edM C a L) H)) us u2) :
    EdAt C (upd H L.pu (.lst (us.reverse.map V.ref))) a { L with us := us } { e with undo := u2 } cq ∧ Fr2 C a L H { L with us := us } (upd H L.pu (.lst (us.reverse.map V.ref))) := by
  have hv : vis (edM C a { L with us := us }) (upd H L.pu (.lst (us.reverse.map V.ref))) = vis (edM C a L) H := vis_put pu_in
  obtain ⟨n1, n2, n3, n4, n5, n6, n7, _⟩ := hE.nes
  refine ⟨⟨?_, tb_put hE.tb ⟨_, hE.und⟩, hE.nd, by rw [hv]; exact hE.txt, by rw [hv]; exact hE.sel, by rw [hv]; exact hE.kept, by rw [hv]; exact hE.pcs, by rw [hv]; exact hE.srch, by rw [hv]; exact hE.prm, upd_same, by rw [hv]; exact hu, ?_, by rw [hv]; exact hE.redP, by rw [hv]; exact hE.last, by rw [hv]; exact hE.mac, hE.rec_.other n7, ?_, ?_, by rw [hv]; exact hE.bef, hE.emp⟩, ?_⟩
  · rw [upd_ne (ne_of hE.obj hE.und (by intro z; cases z))]
    exact hE.obj
  · rw [upd_ne (Ne.symm n5)]
    exact hE.red
  · show upd _ _ _ _ = _
    rw [upd_ne (Ne.symm n6)]
    exact hE.com
  · show upd _ _ _ _ = _
    rw [upd_ne n1]
    exact hE.way
  · show ExtN _ (vis _ _)
    rw [hv]
    exact ExtN.refl _
theorem red_put {rs : List Addr} {r2 : List (List Nat × List Told)} (hE : EdAt C H a L e cq) (hu : Paired (MomAt C (vis (edM C a L) H)) rs r2) :
    EdAt C (upd H L.pr (.lst (rs.reverse.map V.ref))) a { L with rs := rs } { e with redo := r2 } cq ∧ Fr2 C a L H { L with rs := rs } (upd H L.pr (.lst (rs.reverse.map V.ref))) := by
  have hv : vis (edM C a { L with rs := rs }) (upd H L.pr (.lst (rs.reverse.map V.ref))) = vis (edM C a L) H := vis_put pr_in
  obtain ⟨n1, n2, n3, n4, n5, n6, n7, n8, n9, _⟩ := hE.nes
  refine ⟨⟨?_, tb_put hE.tb ⟨_, hE.red⟩, hE.nd, by rw [hv]; exact hE.txt, by rw [hv]; exact hE.sel, by rw [hv]; exact hE.kept, by rw [hv]; exact hE.pcs, by rw [hv]; exact hE.srch, by rw [hv]; exact hE.prm, ?_, by rw [hv]; exact hE.undP, upd_same, by rw [hv]; exact hu, by rw [hv]; exact hE.last, by rw [hv]; exact hE.mac, hE.rec_.other n9, ?_, ?_, by rw [hv]; exact hE.bef, hE.emp⟩, ?_⟩
  · rw [upd_ne (ne_of hE.obj hE.red (by intro z; cases z))]
    exact hE.obj
  · rw [upd_ne n5]
    exact hE.und
  · show upd _ _ _ _ = _
    rw [upd_ne (Ne.symm n8)]
    exact hE.com
  · show upd _ _ _ _ = _
    rw [upd_ne n2]
    exact hE.way
  · show ExtN _ (vis _ _)
    rw [hv]
    exact ExtN.refl _
end
theorem last_ref (p : Addr) (us : List Addr) : ((p :: us).reverse.map V.ref)[((p :: us).reverse.map V.ref).length - 1]? = some (.ref p) ∧ ((p :: us).reverse.map V.ref).dropLast = us.reverse.map V.ref := by
  simp
theorem push_ref (p : Addr) (us : List Addr) : us.reverse.map V.ref ++ [.ref p] = (p :: us).reverse.map V.ref := by
  simp
section
variable {P : Program} {w : World} {K : PySem.W.Frag} {mg : Str → Option Value} {base : Heap} {C : Ca}
def Steps (e : Ed) : Prop := e.undo.length + e.redo.length ≤ 5000000
theorem k_undo (G : Gs K mg C) (TB : TabB base mg C.tc C.tP) : C8.Cal P w K mg base 9 "undo" (spEd C (fun e => EInv e ∧ Steps e) (fun e => Ue15.undone (Ue15.times e) e)) [] := by
  have K_Editor_go_back_to := k_Editor_go_back_to (P := P) (w := w) (base := base) G TB
  have K_Editor_now := k_Editor_now (P := P) (w := w) (base := base) G
  have K_Editor_times := k_Editor_times (P := P) (w := w) (base := base) G
  refine cal_of G.d_undo sc_undo (fun _ _ _ _ _ _ us hl => match us, hl with | [_], _ => rfl) (fun vs H Q E h => ?_) (fun f cdv A outer s H vs Q E hr h => ?_)
  · obtain ⟨a, L, e, cq, rfl, _⟩ := h; rfl
  · obtain ⟨a, L, e, cq, rfl, hE, ⟨hI, hS⟩, hQ⟩ := h
    refine ⟨_, (pss_one (ps_for PassesOwn.never rfl (pi_range1 rfl G.b_range (pa_cons (C8.pe_mt0 K_Editor_times hr (by decide) (pv 0)) pa_nil)) (pg_name (i := 1) sc_undo.nd rfl (Or.inl rfl)) (pss_one (ps_if (pt_truth (pe_fld (pv 0) rfl) (by intro _; rfl)) (pss_cons (ps_expr (pe_bm PySem.F.plainAttrs_list PySem.F.slot_list_append PySem.F.type_list_append mt_append (pe_fld (pv 0) rfl) (pa_cons (C8.pe_mt0 K_Editor_now hr (by decide) (pv 0)) pa_nil))) (pss_one (ps_expr (C8.pe_mt K_Editor_go_back_to hr (by decide) (pv 0) (pa_cons (pe_bm0 PySem.F.plainAttrs_list PySem.F.slot_list_pop PySem.F.type_list_pop mt_pop (pe_fld (pv 0) rfl)) pa_nil))))) pss_nil)))), ?_⟩
    have hcnt := hI.cnt
    refine ⟨_, rfl, a, L.dx, _, rfl, hE.obj, lk_no ne_times, a, L.dx, _, e.count, rfl, hE.obj, rfl, _, rfl, by omega, by omega, ?_⟩
    rw [times_eq, Int.toNat_natCast]
    refine for_range (lo := 0) (n := Ue15.times e) (fun t σ H2 => ∃ L2 e2, EdAt C H2 a L2 e2 cq ∧ Fr2 C a L H L2 H2 ∧ EInv e2 ∧ Steps e2 ∧ t ≤ Ue15.times e ∧ Ue15.undone (Ue15.times e - t) e2 = Ue15.undone (Ue15.times e) e ∧ ∃ v, σ = [some (.ref a), v]) ⟨L, e, hE, ExtN.refl _, hI, hS, Nat.zero_le _, rfl, none, rfl⟩ ?_ ?_
    · rintro t σ H2 ht ⟨L2, e2, h2, f2, hI2, hS2, htl, eu, v, rfl⟩
      obtain ⟨n, hn⟩ : ∃ n, Ue15.times e - t = n + 1 := ⟨Ue15.times e - t - 1, by omega⟩
      have hn2 : Ue15.times e - (t + 1) = n := by omega
      rw [hn] at eu
      refine ⟨_, rfl, a, C.ed, L2.dx, _, _, rfl, h2.obj, G.k_Editor, G.n_Editor_undoable, lk_zip fe_undoable rfl, _, .inl ⟨_, SqL.of h2.und, rfl⟩, ?_⟩
      cases hu : e2.undo with
      | nil =>
        have hP := h2.undP
        rw [hu] at hP
        have ea : L2.us = [] := (pr_len0 hP).mpr rfl
        have e1 : (!(L2.us.reverse.map V.ref).isEmpty) = false := by rw [ea]; rfl
        rw [e1]
        refine ⟨L2, e2, h2, f2, hI2, hS2, by omega, ?_, _, rfl⟩
        rw [hn2, ← eu]
        cases n with
        | zero =>
          unfold Ue15.undone
          rw [hu]
        | succ n =>
          unfold Ue15.undone
          rw [hu]
      | cons x l =>
        have hP := h2.undP
        rw [hu] at hP
        obtain ⟨p, us, eus, hpx, hPr⟩ : ∃ p us, L2.us = p :: us ∧ MomAt C (vis (edM C a L2) H2) p x ∧ Paired (MomAt C (vis (edM C a L2) H2)) us l := by
          revert hP
          generalize L2.us = ls
          intro hP
          cases hP with
          | cons h t => exact ⟨_, _, rfl, h, t⟩
        have e1 : (!(L2.us.reverse.map V.ref).isEmpty) = true := by rw [eus]; simp
        rw [e1]
        have ln := pr_len h2.redP
        have hS3 : e2.undo.length + e2.redo.length ≤ 5000000 := hS2
        refine ⟨_, rfl, a, C.ed, L2.dx, _, _, rfl, h2.obj, G.k_Editor, G.n_Editor_redoable, lk_zip fe_redoable rfl, .inl ⟨rfl, _, SqL.of h2.red⟩, _, rfl, a, L2.dx, _, rfl, h2.obj, lk_no ne_now, a, L2.dx, L2.pt, L2.ps, _, rfl, h2.obj, rfl, rfl, fun H3 y d3 s3 ny hy => ?_⟩
        have h3 := h2.same s3
        have yM := h2.fresh ny
        refine ⟨L2.pr, _, _, rfl, rfl, h3.red, szl (by rw [List.length_map, List.length_reverse]; omega), ?_⟩
        rw [push_ref]
        have hm : MomAt C (vis (edM C a L2) H3) y (e2.text, e2.sels) := ⟨d3, L2.pt, L2.ps, vis_in hy yM, h3.txt, h3.sel⟩
        obtain ⟨h4, f4⟩ := red_put (rs := y :: L2.rs) (r2 := (e2.text, e2.sels) :: e2.redo) h3 (.cons hm h3.redP)
        have f34 := (vis_ext (M := edM C a L2) (ExtN.of s3)).trans f4
        generalize upd H3 L2.pr _ = H4 at h4 f4 f34 ⊢
        have hund : H4 L2.pu = some (.lst ((p :: us).reverse.map V.ref)) := by
          rw [← eus]
          exact h4.und
        obtain ⟨g1, g2⟩ := last_ref p us
        refine ⟨_, rfl, a, L2.dx, _, rfl, h4.obj, lk_no ne_go_back_to, _, rfl, a, C.ed, L2.dx, _, _, rfl, h4.obj, G.k_Editor, G.n_Editor_undoable, lk_zip fe_undoable rfl, .inl ⟨rfl, _, SqL.of hund⟩, L2.pu, _, _, rfl, rfl, hund, g1, ?_⟩
        rw [g2]
        obtain ⟨h5, f5⟩ := und_put (us := us) (u2 := l) h4 (pr_mono (fun _ _ z => z.ext f34) hPr)
        have f25 : ExtN _ (vis _ _) := f34.trans f5
        refine ⟨a, p, _, _, cq, x, rfl, h5, hpx.ext f25, ?_, fun H6 L6 h6 f6 => ⟨L6, _, h6, (f2.trans f25).trans f6, ?_, ?_, by omega, ?_, _, rfl⟩⟩
        · exact hI2.keptOk
        · have gx := hI2.und x (by rw [hu]; exact List.mem_cons_self)
          have iv := hI2.text gx.1 gx.2
          exact ⟨iv.txt, iv.sel, iv.kept, fun z hz => hI2.und z (by rw [hu]; exact List.mem_cons_of_mem _ hz), (fun z hz => by
            rcases (List.mem_cons.mp hz) with e | hz
            · rw [e]
              exact ⟨hI2.txt, hI2.sel⟩
            · exact hI2.red z hz), iv.ahd, iv.pcs, iv.cnt⟩
        · have hl : e2.undo.length = l.length + 1 := by rw [hu]; rfl
          show l.length + (e2.redo.length + 1) ≤ 5000000
          omega
        · rw [hn2, ← eu]
          conv => rhs; unfold Ue15.undone; rw [hu]
          rfl
    · rintro σ H2 ⟨L2, e2, h2, f2, _, _, _, eu, v, rfl⟩
      rw [Nat.sub_self] at eu
      refine hQ _ _ ?_ f2
      dsimp only
      rw [← eu]
      exact h2
theorem k_redo (G : Gs K mg C) (TB : TabB base mg C.tc C.tP) : C8.Cal P w K mg base 9 "redo" (spEd C (fun e => EInv e ∧ Steps e) (fun e => Ue15.redone (Ue15.times e) e)) [] := by
  have K_Editor_go_back_to := k_Editor_go_back_to (P := P) (w := w) (base := base) G TB
  have K_Editor_now := k_Editor_now (P := P) (w := w) (base := base) G
  have K_Editor_times := k_Editor_times (P := P) (w := w) (base := base) G
  refine cal_of G.d_redo sc_redo (fun _ _ _ _ _ _ us hl => match us, hl with | [_], _ => rfl) (fun vs H Q E h => ?_) (fun f cdv A outer s H vs Q E hr h => ?_)
  · obtain ⟨a, L, e, cq, rfl, _⟩ := h; rfl
  · obtain ⟨a, L, e, cq, rfl, hE, ⟨hI, hS⟩, hQ⟩ := h
    refine ⟨_, (pss_one (ps_for PassesOwn.never rfl (pi_range1 rfl G.b_range (pa_cons (C8.pe_mt0 K_Editor_times hr (by decide) (pv 0)) pa_nil)) (pg_name (i := 1) sc_redo.nd rfl (Or.inl rfl)) (pss_one (ps_if (pt_truth (pe_fld (pv 0) rfl) (by intro _; rfl)) (pss_cons (ps_expr (pe_bm PySem.F.plainAttrs_list PySem.F.slot_list_append PySem.F.type_list_append mt_append (pe_fld (pv 0) rfl) (pa_cons (C8.pe_mt0 K_Editor_now hr (by decide) (pv 0)) pa_nil))) (pss_one (ps_expr (C8.pe_mt K_Editor_go_back_to hr (by decide) (pv 0) (pa_cons (pe_bm0 PySem.F.plainAttrs_list PySem.F.slot_list_pop PySem.F.type_list_pop mt_pop (pe_fld (pv 0) rfl)) pa_nil))))) pss_nil)))), ?_⟩
    have hcnt := hI.cnt
    refine ⟨_, rfl, a, L.dx, _, rfl, hE.obj, lk_no ne_times, a, L.dx, _, e.count, rfl, hE.obj, rfl, _, rfl, by omega, by omega, ?_⟩
    rw [times_eq, Int.toNat_natCast]
    refine for_range (lo := 0) (n := Ue15.times e) (fun t σ H2 => ∃ L2 e2, EdAt C H2 a L2 e2 cq ∧ Fr2 C a L H L2 H2 ∧ EInv e2 ∧ Steps e2 ∧ t ≤ Ue15.times e ∧ Ue15.redone (Ue15.times e - t) e2 = Ue15.redone (Ue15.times e) e ∧ ∃ v, σ = [some (.ref a), v]) ⟨L, e, hE, ExtN.refl _, hI, hS, Nat.zero_le _, rfl, none, rfl⟩ ?_ ?_
    · rintro t σ H2 ht ⟨L2, e2, h2, f2, hI2, hS2, htl, eu, v, rfl⟩
      obtain ⟨n, hn⟩ : ∃ n, Ue15.times e - t = n + 1 := ⟨Ue15.times e - t - 1, by omega⟩
      have hn2 : Ue15.times e - (t + 1) = n := by omega
      rw [hn] at eu
      refine ⟨_, rfl, a, C.ed, L2.dx, _, _, rfl, h2.obj, G.k_Editor, G.n_Editor_redoable, lk_zip fe_redoable rfl, _, .inl ⟨_, SqL.of h2.red, rfl⟩, ?_⟩
      cases hu : e2.redo with
      | nil =>
        have hP := h2.redP
        rw [hu] at hP
        have ea : L2.rs = [] := (pr_len0 hP).mpr rfl
        have e1 : (!(L2.rs.reverse.map V.ref).isEmpty) = false := by rw [ea]; rfl
        rw [e1]
        refine ⟨L2, e2, h2, f2, hI2, hS2, by omega, ?_, _, rfl⟩
        rw [hn2, ← eu]
        cases n with
        | zero =>
          unfold Ue15.redone
          rw [hu]
        | succ n =>
          unfold Ue15.redone
          rw [hu]
      | cons x l =>
        have hP := h2.redP
        rw [hu] at hP
        obtain ⟨p, us, eus, hpx, hPr⟩ : ∃ p us, L2.rs = p :: us ∧ MomAt C (vis (edM C a L2) H2) p x ∧ Paired (MomAt C (vis (edM C a L2) H2)) us l := by
          revert hP
          generalize L2.rs = ls
          intro hP
          cases hP with
          | cons h t => exact ⟨_, _, rfl, h, t⟩
        have e1 : (!(L2.rs.reverse.map V.ref).isEmpty) = true := by rw [eus]; simp
        rw [e1]
        have ln := pr_len h2.undP
        have hS3 : e2.undo.length + e2.redo.length ≤ 5000000 := hS2
        refine ⟨_, rfl, a, C.ed, L2.dx, _, _, rfl, h2.obj, G.k_Editor, G.n_Editor_undoable, lk_zip fe_undoable rfl, .inl ⟨rfl, _, SqL.of h2.und⟩, _, rfl, a, L2.dx, _, rfl, h2.obj, lk_no ne_now, a, L2.dx, L2.pt, L2.ps, _, rfl, h2.obj, rfl, rfl, fun H3 y d3 s3 ny hy => ?_⟩
        have h3 := h2.same s3
        have yM := h2.fresh ny
        refine ⟨L2.pu, _, _, rfl, rfl, h3.und, szl (by rw [List.length_map, List.length_reverse]; omega), ?_⟩
        rw [push_ref]
        have hm : MomAt C (vis (edM C a L2) H3) y (e2.text, e2.sels) := ⟨d3, L2.pt, L2.ps, vis_in hy yM, h3.txt, h3.sel⟩
        obtain ⟨h4, f4⟩ := und_put (us := y :: L2.us) (u2 := (e2.text, e2.sels) :: e2.undo) h3 (.cons hm h3.undP)
        have f34 := (vis_ext (M := edM C a L2) (ExtN.of s3)).trans f4
        generalize upd H3 L2.pu _ = H4 at h4 f4 f34 ⊢
        have hund : H4 L2.pr = some (.lst ((p :: us).reverse.map V.ref)) := by
          rw [← eus]
          exact h4.red
        obtain ⟨g1, g2⟩ := last_ref p us
        refine ⟨_, rfl, a, L2.dx, _, rfl, h4.obj, lk_no ne_go_back_to, _, rfl, a, C.ed, L2.dx, _, _, rfl, h4.obj, G.k_Editor, G.n_Editor_redoable, lk_zip fe_redoable rfl, .inl ⟨rfl, _, SqL.of hund⟩, L2.pr, _, _, rfl, rfl, hund, g1, ?_⟩
        rw [g2]
        obtain ⟨h5, f5⟩ := red_put (rs := us) (r2 := l) h4 (pr_mono (fun _ _ z => z.ext f34) hPr)
        have f25 : ExtN _ (vis _ _) := f34.trans f5
        refine ⟨a, p, _, _, cq, x, rfl, h5, hpx.ext f25, ?_, fun H6 L6 h6 f6 => ⟨L6, _, h6, (f2.trans f25).trans f6, ?_, ?_, by omega, ?_, _, rfl⟩⟩
        · exact hI2.keptOk
        · have gx := hI2.red x (by rw [hu]; exact List.mem_cons_self)
          have iv := hI2.text gx.1 gx.2
          exact ⟨iv.txt, iv.sel, iv.kept, (fun z hz => by
            rcases (List.mem_cons.mp hz) with e | hz
            · rw [e]
              exact ⟨hI2.txt, hI2.sel⟩
            · exact hI2.und z hz), fun z hz => hI2.red z (by rw [hu]; exact List.mem_cons_of_mem _ hz), iv.ahd, iv.pcs, iv.cnt⟩
        · have hl : e2.redo.length = l.length + 1 := by rw [hu]; rfl
          show (e2.undo.length + 1) + l.length ≤ 5000000
          omega
        · rw [hn2, ← eu]
          conv => rhs; unfold Ue15.redone; rw [hu]
          rfl
    · rintro σ H2 ⟨L2, e2, h2, f2, _, _, _, eu, v, rfl⟩
      rw [Nat.sub_self] at eu
      refine hQ _ _ ?_ f2
      dsimp only
      rw [← eu]
      exact h2
end
end Ke
end
section
set_option maxHeartbeats 4500000
namespace Ke
open PySem PySem.Spec L2 LamX PyProof.Rows
open Ue15 (Sel Told Ed)
theorem RecAt.lists {H H2 : Hp} {v : V} {rm : List Addr} {r : Option (List Nat)} (h : RecAt H v rm r) (ls : ∀ q xs, H q = some (.lst xs) → q ∈ rm → H2 q = some (.lst xs)) : RecAt H2 v rm r := by
  cases r with
  | none => exact h
  | some l =>
    obtain ⟨p, h1, h2, h3⟩ := h
    exact ⟨p, h1, h2, ls _ _ h3 (by rw [h2]; exact List.mem_singleton.mpr rfl)⟩
theorem tb_keep {C : Ca} {H H2 : Hp} {a C0 dx : Addr} {fs : List (Str × V)} (t : Tb C H) (ha : H a = some (.ins C0 dx fs)) (h3 : ∀ b o, H b = some o → b ≠ a → H2 b = some o) : Tb C H2 := by
  intro q hq
  obtain ⟨ps, t1, t2, t3⟩ := t q hq
  refine ⟨ps, h3 _ _ t1 (ne_of t1 ha (by intro z; cases z)), t2, fun pos cv hc => ?_⟩
  obtain ⟨c, e1, e2⟩ := t3 pos cv hc
  exact ⟨c, e1, h3 _ _ e2 (ne_of e2 ha (by intro z; unfold CodeO at z; cases z))⟩
/-- the list of what comes is another one, new -/
theorem com_put {C : Ca} {H H2 : Hp} {a p : Addr} {L : Lo} {e : Ed} {cq c2 : List Nat} (hE : EdAt C H a L e cq) (np : H p = none) (h1 : H2 a = some (.ins C.ed L.dx (nEd.zip ((edV e L).set 14 (.ref p))))) (h2 : H2 p = some (.lst (iL c2))) (h3 : ∀ b o, H b = some o → b ≠ a → H2 b = some o) :
    EdAt C H2 a { L with pq := p } e c2 ∧ Fr2 C a L H { L with pq := p } H2 := by
  have pM := hE.fresh np
  have pne : ∀ b, b ∈ edM C a L → p ≠ b := fun b hb z => pM (by rw [z]; exact hb)
  have fr : ExtN (vis (edM C a L) H) (vis (edM C a { L with pq := p }) H2) := vis_step fun b o hb hM hn => by
    refine ⟨h3 b o hb (fun z => hM (by rw [z]; exact a_in)), fun hm => ?_⟩
    have hm2 : b = a ∨ b = C.tP ∨ b = L.pu ∨ b = L.pr ∨ b = p ∨ b = L.pw ∨ b ∈ L.rm := by simpa [edM] using hm
    rcases hm2 with z | z | z | z | z | z | z
    · exact hM (by simp [edM, z])
    · exact hM (by simp [edM, z])
    · exact hM (by simp [edM, z])
    · exact hM (by simp [edM, z])
    · rw [z, np] at hb
      cases hb
    · exact hM (by simp [edM, z])
    · exact hM (by simp [edM, z])
  have ls : ∀ q xs, H q = some (.lst xs) → H2 q = some (.lst xs) := fun q xs hq => h3 _ _ hq (ne_of hq hE.obj (by intro z; cases z))
  refine ⟨⟨h1, tb_keep hE.tb hE.obj h3, ?_, hE.txt.ext fr, hE.sel.ext fr, hE.kept.ext fr, hE.pcs.ext fr, hE.srch.ext fr, (fun k w z => by
    obtain ⟨x1, p2, x2, x3⟩ := hE.prm k w z
    exact ⟨x1, p2, x2, x3.ext fr⟩), ls _ _ hE.und, pr_mono (fun _ _ z => z.ext fr) hE.undP, ls _ _ hE.red, pr_mono (fun _ _ z => z.ext fr) hE.redP, hE.last.ext fr, hE.mac.ext fr, hE.rec_.lists (fun q xs hq _ => ls q xs hq), h2, ls _ _ hE.way, (fun x z => by
    obtain ⟨p2, x1, x2⟩ := hE.bef x z
    exact ⟨p2, x1, x2.ext fr⟩), hE.emp⟩, fr⟩
  have n := hE.nd
  unfold edM at n ⊢
  simp only [List.nodup_cons, List.mem_cons, not_or] at n ⊢
  have q1 := pne a a_in
  have q2 := pne C.tP (by simp [edM])
  have q3 := pne L.pu pu_in
  have q4 := pne L.pr pr_in
  have q5 := pne L.pw pw_in
  have q6 : p ∉ L.rm := fun z => pM (rm_in z)
  obtain ⟨⟨a1, a2, a3, a4, a5, a6⟩, ⟨b2, b3, b4, b5, b6⟩, ⟨c3, c4, c5, c6⟩, ⟨d4, d5, d6⟩, ⟨e5, e6⟩, f6, g⟩ := n
  exact ⟨⟨a1, a2, a3, Ne.symm q1, a5, a6⟩, ⟨b2, b3, Ne.symm q2, b5, b6⟩, ⟨c3, Ne.symm q3, c5, c6⟩, ⟨Ne.symm q4, d5, d6⟩, ⟨q5, q6⟩, f6, g⟩
theorem again_add (w : List Nat) : ∀ i j : Nat, Ue15.again w (i + j) = Ue15.again w i ++ Ue15.again w j
  | 0, j => by rw [Nat.zero_add]; rfl
  | i + 1, j => by
    rw [Nat.add_right_comm]
    show w ++ Ue15.again w (i + j) = (w ++ Ue15.again w i) ++ Ue15.again w j
    rw [again_add w i j, List.append_assoc]
theorem again_succ (w : List Nat) (i : Nat) : Ue15.again w (i + 1) = Ue15.again w i ++ w := by
  rw [again_add]
  show _ ++ (w ++ []) = _
  rw [List.append_nil]
section
variable {P : Program} {w : World} {K : PySem.W.Frag} {mg : Str → Option Value} {base : Heap} {C : Ca}
def sp_let_come (C : Ca) : Sp := fun vs H Q _ => ∃ (a p : Addr) (L : Lo) (e : Ed) (cq wt : List Nat), vs = [.ref a, .ref p] ∧ EdAt C H a L e cq ∧ e.count ≤ 99 ∧ TxtAt H p wt ∧ wt.length ≤ 5000000 ∧ cq.length ≤ 500 ∧
  ∀ H2 L2, EdAt C H2 a L2 e ((Ue15.again wt (Ue15.times e) ++ cq).take 500) → Fr2 C a L H L2 H2 → Q .non H2
theorem k_let_come (G : Gs K mg C) : C8.Cal P w K mg base 2 "let_come" (sp_let_come C) [] := by
  have K_Editor_times := k_Editor_times (P := P) (w := w) (base := base) G
  refine cal_of G.d_let_come sc_let_come (fun _ _ _ _ _ _ us hl => match us, hl with | [_, _], _ => rfl) (fun vs H Q E h => ?_) (fun f cdv A outer s H vs Q E hr h => ?_)
  · obtain ⟨a, p, L, e, cq, wt, rfl, _⟩ := h; rfl
  · obtain ⟨a, p, L, e, cq, wt, rfl, hE, hcnt, hp, hwl, hcl, hQ⟩ := h
    refine ⟨_, (pss_cons (ps_set (i := 2) sc_let_come.nd rfl (Or.inl rfl) (pe_lst pa_nil)) (pss_cons (ps_for PassesOwn.never rfl (pi_range1 rfl G.b_range (pa_cons (C8.pe_mt0 K_Editor_times hr (by decide) (pv 0)) pa_nil)) (pg_name (i := 3) sc_let_come.nd rfl (Or.inl rfl)) (pss_one (ps_if (pt_cmpR op_lt (pe_callB call_len_seq (by rfl) G.b_len PySem.boot_len (pa_cons (pv 2) pa_nil)) (C8.pe_gc rfl G.c_MOST_KEYS_FOR_ONE) (nomark _)) (pss_one (ps_expr (pe_bm PySem.F.plainAttrs_list PySem.F.slot_list_extend PySem.F.type_list_extend mt_extend (pv 2) (pa_cons (pv 1) pa_nil)))) pss_nil))) (pss_cons (ps_expr (pe_bm PySem.F.plainAttrs_list PySem.F.slot_list_extend PySem.F.type_list_extend mt_extend (pv 2) (pa_cons (pe_fld (pv 0) rfl) pa_nil))) (pss_one (ps_fld (pv 0) (pe_slice sl_list (pv 2) po_none (po_some (C8.pe_gc rfl G.c_MOST_KEYS_FOR_ONE))) rfl))))), ?_⟩
    refine ⟨Nat.zero_le _, fun D nD => ?_⟩
    have s0 : Same H (upd H D (.lst [])) := same_new nD
    have hE0 := hE.same s0
    refine ⟨_, rfl, a, L.dx, _, rfl, hE0.obj, lk_no ne_times, a, L.dx, _, e.count, rfl, hE0.obj, rfl, _, rfl, by omega, by omega, ?_⟩
    rw [times_eq, Int.toNat_natCast]
    refine for_range (lo := 0) (n := Ue15.times e) (fun t σ H2 => Same H H2 ∧ ∃ j, j ≤ t ∧ H2 D = some (.lst (iL (Ue15.again wt j))) ∧ (Ue15.again wt j).length ≤ 500 + wt.length ∧ (j = t ∨ 500 ≤ (Ue15.again wt j).length) ∧ ∃ v, σ = [some (.ref a), some (.ref p), some (.ref D), v]) ⟨s0, 0, Nat.le_refl _, upd_same, Nat.zero_le _, .inl rfl, none, rfl⟩ ?_ ?_
    · rintro t σ H2 ht ⟨s2, j, hj, hD, hl, hor, v, rfl⟩
      refine ⟨_, rfl, _, _, rfl, .inl (SqL.of hD), _, _, rfl, rfl, _, rfl, ?_⟩
      rw [iL_len]
      refine dI (fun h1 => ?_) fun h1 => ?_
      · have h2 : (Ue15.again wt j).length < 500 := by omega
        have ej : j = t := by omega
        subst ej
        refine ⟨_, rfl, .inl ⟨rfl, _, SqL.of hD⟩, _, rfl, D, p, _, _, rfl, rfl, hD, hp.same s2, by rw [iL_len, iL_len, sizeLine_eq]; omega, same_put s2 nD, j + 1, Nat.le_refl _, ?_, ?_, .inl rfl, _, rfl⟩
        · rw [upd_same, again_succ, iL_app]
        · rw [again_succ, List.length_append]
          omega
      · exact ⟨s2, j, by omega, hD, hl, .inr (by omega), _, rfl⟩
    · rintro σ H2 ⟨s2, j, hj, hD, hl, hor, v, rfl⟩
      have hE2 := hE.same s2
      refine ⟨_, rfl, .inl ⟨rfl, _, SqL.of hD⟩, _, rfl, a, C.ed, L.dx, _, _, rfl, hE2.obj, G.k_Editor, G.n_Editor_coming, lk_zip fe_coming rfl, D, L.pq, _, _, rfl, rfl, hD, hE2.com, by rw [iL_len, iL_len, sizeLine_eq]; omega, ?_⟩
      rw [← iL_app]
      have s3 : Same H (upd H2 D (.lst (iL (Ue15.again wt j ++ cq)))) := same_put s2 nD
      have hD3 : TxtAt (upd H2 D (.lst (iL (Ue15.again wt j ++ cq)))) D (Ue15.again wt j ++ cq) := upd_same
      generalize upd H2 D (.lst (iL (Ue15.again wt j ++ cq))) = H3 at s3 hD3 ⊢
      have hE3 := hE.same s3
      refine ⟨_, rfl, _, rfl, D, _, rfl, SqL.of hD3, fun z nz => ?_⟩
      have ec : cutV (iL (Ue15.again wt j ++ cq)) none (some 500) = iL ((Ue15.again wt j ++ cq).take 500) := cut_to _ 500
      have et : (Ue15.again wt j ++ cq).take 500 = (Ue15.again wt (Ue15.times e) ++ cq).take 500 := by
        rcases hor with h | h
        · rw [h]
        · obtain ⟨i, hi⟩ : ∃ i, Ue15.times e = j + i := ⟨Ue15.times e - j, by omega⟩
          rw [hi, again_add, List.append_assoc, List.take_append_of_le_length h, List.take_append_of_le_length h]
      rw [ec, et]
      have nza : z ≠ a := fun y => by
        rw [y, hE3.obj] at nz
        cases nz
      refine ⟨_, rfl, a, C.ed, L.dx, _, rfl, by rw [upd_ne (Ne.symm nza)]; exact hE3.obj, G.k_Editor, G.n_Editor_coming, ed_few _, ?_⟩
      rw [put_ed fe_coming (edi (by decide))]
      obtain ⟨h5, f5⟩ := com_put (c2 := (Ue15.again wt (Ue15.times e) ++ cq).take 500) hE3 nz (H2 := upd (upd H3 z (.lst (iL ((Ue15.again wt (Ue15.times e) ++ cq).take 500)))) a (.ins C.ed L.dx (nEd.zip ((edV e L).set 14 (.ref z))))) upd_same (by rw [upd_ne nza, upd_same]) fun b o hb hn => by
        rw [upd_ne hn, upd_ne (ne_of_none hb nz)]
        exact hb
      exact hQ _ _ h5 ((vis_ext (ExtN.of s3)).trans f5)
def spPlay (C : Ca) (f : Ed → List Nat) : Sp := fun vs H Q _ => ∃ (a : Addr) (L : Lo) (e : Ed) (cq : List Nat), vs = [.ref a] ∧ EdAt C H a L e cq ∧ e.count ≤ 99 ∧ (f e).length ≤ 5000000 ∧ cq.length ≤ 500 ∧
  ∀ H2 L2, EdAt C H2 a L2 e ((Ue15.again (f e) (Ue15.times e) ++ cq).take 500) → Fr2 C a L H L2 H2 → Q .non H2
theorem k_play_last_change (G : Gs K mg C) : C8.Cal P w K mg base 3 "play_last_change" (spPlay C (fun e => e.last)) [] := by
  have K_let_come := k_let_come (P := P) (w := w) (base := base) G
  refine cal_of G.d_play_last_change sc_play_last_change (fun _ _ _ _ _ _ us hl => match us, hl with | [_], _ => rfl) (fun vs H Q E h => ?_) (fun f cdv A outer s H vs Q E hr h => ?_)
  · obtain ⟨a, L, e, cq, rfl, _⟩ := h; rfl
  · obtain ⟨a, L, e, cq, rfl, hE, hc, hl, hcl, hQ⟩ := h
    refine ⟨_, (pss_one (ps_expr (C8.pe_c K_let_come hr (by decide) rfl (pa_cons (pv 0) (pa_cons (pe_fld (pv 0) rfl) pa_nil))))), ?_⟩
    exact ⟨_, rfl, _, rfl, a, C.ed, L.dx, _, _, rfl, hE.obj, G.k_Editor, G.n_Editor_last_change, lk_zip fe_last_change rfl, a, L.pl, L, e, cq, e.last, rfl, hE, hc, hE.last.same (vis_sub _ _), hl, hcl, hQ⟩
theorem k_play_macro (G : Gs K mg C) : C8.Cal P w K mg base 3 "play_macro" (spPlay C (fun e => e.macro_)) [] := by
  have K_let_come := k_let_come (P := P) (w := w) (base := base) G
  refine cal_of G.d_play_macro sc_play_macro (fun _ _ _ _ _ _ us hl => match us, hl with | [_], _ => rfl) (fun vs H Q E h => ?_) (fun f cdv A outer s H vs Q E hr h => ?_)
  · obtain ⟨a, L, e, cq, rfl, _⟩ := h; rfl
  · obtain ⟨a, L, e, cq, rfl, hE, hc, hl, hcl, hQ⟩ := h
    refine ⟨_, (pss_one (ps_expr (C8.pe_c K_let_come hr (by decide) rfl (pa_cons (pv 0) (pa_cons (pe_fld (pv 0) rfl) pa_nil))))), ?_⟩
    exact ⟨_, rfl, _, rfl, a, C.ed, L.dx, _, _, rfl, hE.obj, G.k_Editor, G.n_Editor_macro, lk_zip fe_macro rfl, a, L.pm, L, e, cq, e.macro_, rfl, hE, hc, hE.mac.same (vis_sub _ _), hl, hcl, hQ⟩
def sp_is_digit_of_count (C : Ca) : Sp := fun vs H Q _ => ∃ (a : Addr) (L : Lo) (e : Ed) (cq : List Nat) (k : Nat), vs = [.ref a, .int (k : Nat)] ∧ EdAt C H a L e cq ∧ Q (.bl (decide ((49 ≤ k ∧ k ≤ 57) ∨ (k = 48 ∧ 0 < e.count)))) H
theorem k_is_digit_of_count (G : Gs K mg C) : C8.Cal P w K mg base 2 "is_digit_of_count" (sp_is_digit_of_count C) [] := by
  have K_is_digit := k_is_digit (P := P) (w := w) (base := base) G
  refine cal_of G.d_is_digit_of_count sc_is_digit_of_count (fun _ _ _ _ _ _ us hl => match us, hl with | [_, _], _ => rfl) (fun vs H Q E h => ?_) (fun f cdv A outer s H vs Q E hr h => ?_)
  · obtain ⟨a, L, e, cq, k, rfl, _⟩ := h; rfl
  · obtain ⟨a, L, e, cq, k, rfl, hE, hQ⟩ := h
    refine ⟨_, (pss_one (ps_ret (pe_and (C8.pe_c K_is_digit hr (by decide) rfl (pa_cons (pv 1) pa_nil)) (pe_one (pe_or (pe_cmpR op_ne (pv 1) (C8.pe_gc rfl G.c_DIGIT_0) (nomark _)) (pe_one (pe_cmpR op_ne (pe_fld (pv 0) rfl) pe_int (nomark _)))))))), ?_⟩
    refine ⟨_, rfl, k, rfl, _, rfl, dI (fun h1 => ?_) fun h1 => ?_⟩
    · refine ⟨_, rfl, rfl, _, rfl, dN (fun h2 => ?_) fun h2 => ?_⟩
      · have h3 : k ≠ 48 := int_ne h2
        rw [decide_eq_true (by omega)] at hQ
        exact hQ
      · have h3 : k = 48 := int_eq h2
        refine ⟨_, rfl, a, C.ed, L.dx, _, _, rfl, hE.obj, G.k_Editor, G.n_Editor_count, lk_zip fe_count rfl, rfl, ?_⟩
        have e1 : (!decide (V.int ((e.count : Nat) : Int) = V.int 0)) = decide ((49 ≤ k ∧ k ≤ 57) ∨ (k = 48 ∧ 0 < e.count)) := by
          by_cases h4 : e.count = 0
          · rw [h4, decide_eq_true (show V.int ((0 : Nat) : Int) = V.int 0 from rfl), decide_eq_false (by omega)]
            rfl
          · rw [decide_eq_false (show ¬ V.int ((e.count : Nat) : Int) = V.int 0 from fun z => h4 (int_eq (b := 0) z)), decide_eq_true (by omega)]
            rfl
        rw [e1]
        exact hQ
    · rw [decide_eq_false (by omega)] at hQ
      exact hQ
def sp_begin_longer_command (C : Ca) : Sp := fun vs H Q _ => ∃ (a : Addr) (L : Lo) (e : Ed) (cq : List Nat) (k : Nat), vs = [.ref a, .int (k : Nat)] ∧ EdAt C H a L e cq ∧ EInv e ∧
  (isBegin k → ∀ H2 L2, EdAt C H2 a L2 (begun k e) cq → Fr2 C a L H L2 H2 → Q (.bl true) H2) ∧ (¬ isBegin k → isAsk k → ∀ H2 L2, EdAt C H2 a L2 { e with mode := .prompt k [] } cq → Fr2 C a L H L2 H2 → Q (.bl true) H2) ∧ (¬ isBegin k → ¬ isAsk k → Q (.bl false) H)
theorem k_begin_longer_command (G : Gs K mg C) (TB : TabB base mg C.tc C.tP) : C8.Cal P w K mg base 12 "begin_longer_command" (sp_begin_longer_command C) [] := by
  have K_begin_edit := k_begin_edit (P := P) (w := w) (base := base) G TB
  have K_begin_prompt := k_begin_prompt (P := P) (w := w) (base := base) G TB
  refine cal_of G.d_begin_longer_command sc_begin_longer_command (fun _ _ _ _ _ _ us hl => match us, hl with | [_, _], _ => rfl) (fun vs H Q E h => ?_) (fun f cdv A outer s H vs Q E hr h => ?_)
  · obtain ⟨a, L, e, cq, k, rfl, _⟩ := h; rfl
  · obtain ⟨a, L, e, cq, k, rfl, hE, hI, hQ1, hQ2, hQ3⟩ := h
    refine ⟨_, (pss_one (ps_ret (pe_or (C8.pe_c K_begin_edit hr (by decide) rfl (pa_cons (pv 0) (pa_cons (pv 1) pa_nil))) (pe_one (C8.pe_c K_begin_prompt hr (by decide) rfl (pa_cons (pv 0) (pa_cons (pv 1) pa_nil))))))), ?_⟩
    refine ⟨_, rfl, _, rfl, a, L, e, cq, k, rfl, hE, hI, fun hb H2 L2 h2 f2 => ⟨_, rfl, hQ1 hb _ _ h2 f2⟩, fun hb => ⟨_, rfl, ?_⟩⟩
    exact ⟨_, rfl, _, rfl, a, L, e, cq, k, rfl, hE, hQ2 hb, hQ3 hb⟩
/-- what is recorded: another list, or none -/
theorem rec_none {H : Hp} {a p : Addr} {L : Lo} {e : Ed} {cq wt : List Nat} (hE : EdAt C H a L e cq) (hr : e.recording = some wt) (hp : L.rv = .ref p) (hrm : L.rm = [p]) (ht : TxtAt H p wt) :
    EdAt C (upd H a (.ins C.ed L.dx (nEd.zip (((edV e L).set 12 (.ref p)).set 13 .non)))) a { L with pm := p, rv := .non, rm := [] } { e with recording := none, macro_ := wt } cq ∧ Fr2 C a L H { L with pm := p, rv := .non, rm := [] } (upd H a (.ins C.ed L.dx (nEd.zip (((edV e L).set 12 (.ref p)).set 13 .non)))) := by
  have h3 : ∀ b o, H b = some o → b ≠ a → upd H a (.ins C.ed L.dx (nEd.zip (((edV e L).set 12 (.ref p)).set 13 .non))) b = some o := fun b o hb hn => by
    rw [upd_ne hn]
    exact hb
  have h1 : upd H a (.ins C.ed L.dx (nEd.zip (((edV e L).set 12 (.ref p)).set 13 .non))) a = some (.ins C.ed L.dx (nEd.zip (((edV e L).set 12 (.ref p)).set 13 .non))) := upd_same
  generalize upd H a (.ins C.ed L.dx (nEd.zip (((edV e L).set 12 (.ref p)).set 13 .non))) = H2 at h1 h3 ⊢
  have hsub : ∀ b, b ∈ edM C a { L with pm := p, rv := .non, rm := [] } → b ∈ edM C a L := fun b hb => by
    have : b = a ∨ b = C.tP ∨ b = L.pu ∨ b = L.pr ∨ b = L.pq ∨ b = L.pw := by simpa [edM] using hb
    rcases this with z | z | z | z | z | z <;> simp [edM, z]
  have fr : ExtN (vis (edM C a L) H) (vis (edM C a { L with pm := p, rv := .non, rm := [] }) H2) := vis_step fun b o hb hM hn =>
    ⟨h3 b o hb (fun z => hM (by rw [z]; exact a_in)), fun hm => hM (hsub b hm)⟩
  have ls : ∀ q xs, H q = some (.lst xs) → H2 q = some (.lst xs) := fun q xs hq => h3 _ _ hq (ne_of hq hE.obj (by intro z; cases z))
  have n := hE.nd
  unfold edM at n
  rw [hrm] at n
  simp only [List.nodup_cons, List.mem_cons, not_or, List.not_mem_nil, not_false_eq_true, List.nodup_nil, and_true] at n
  obtain ⟨⟨a1, a2, a3, a4, a5, a6⟩, ⟨b2, b3, b4, b5, b6⟩, ⟨c3, c4, c5, c6⟩, ⟨d4, d5, d6⟩, ⟨e5, e6⟩, f6⟩ := n
  have pM : p ∉ edM C a { L with pm := p, rv := .non, rm := [] } := fun hm => by
    have : p = a ∨ p = C.tP ∨ p = L.pu ∨ p = L.pr ∨ p = L.pq ∨ p = L.pw := by simpa [edM] using hm
    rcases this with z | z | z | z | z | z
    · exact a6 z.symm
    · exact b6 z.symm
    · exact c6 z.symm
    · exact d6 z.symm
    · exact e6 z.symm
    · exact f6 z.symm
  refine ⟨⟨h1, tb_keep hE.tb hE.obj h3, ?_, hE.txt.ext fr, hE.sel.ext fr, hE.kept.ext fr, hE.pcs.ext fr, hE.srch.ext fr, (fun k w z => by
    obtain ⟨x1, p2, x2, x3⟩ := hE.prm k w z
    exact ⟨x1, p2, x2, x3.ext fr⟩), ls _ _ hE.und, pr_mono (fun _ _ z => z.ext fr) hE.undP, ls _ _ hE.red, pr_mono (fun _ _ z => z.ext fr) hE.redP, hE.last.ext fr, vis_in (ls _ _ ht) pM, ⟨rfl, rfl⟩, ls _ _ hE.com, ls _ _ hE.way, (fun x z => by
    obtain ⟨p2, x1, x2⟩ := hE.bef x z
    exact ⟨p2, x1, x2.ext fr⟩), hE.emp⟩, fr⟩
  show (edM C a { L with pm := p, rv := .non, rm := [] }).Nodup
  unfold edM
  simp only [List.nodup_cons, List.mem_cons, not_or, List.not_mem_nil, not_false_eq_true, List.nodup_nil, and_true]
  exact ⟨⟨a1, a2, a3, a4, a5⟩, ⟨b2, b3, b4, b5⟩, ⟨c3, c4, c5⟩, ⟨d4, d5⟩, e5⟩
theorem rec_new {H H2 : Hp} {a p : Addr} {L : Lo} {e : Ed} {cq : List Nat} (hE : EdAt C H a L e cq) (hr : e.recording = none) (np : H p = none) (h1 : H2 a = some (.ins C.ed L.dx (nEd.zip ((edV e L).set 13 (.ref p))))) (h2 : H2 p = some (.lst [])) (h3 : ∀ b o, H b = some o → b ≠ a → H2 b = some o) :
    EdAt C H2 a { L with rv := .ref p, rm := [p] } { e with recording := some [] } cq ∧ Fr2 C a L H { L with rv := .ref p, rm := [p] } H2 := by
  have pM := hE.fresh np
  have pne : ∀ b, b ∈ edM C a L → p ≠ b := fun b hb z => pM (by rw [z]; exact hb)
  have r0 := hE.rec_
  rw [hr] at r0
  have hrm : L.rm = [] := r0.2
  have fr : ExtN (vis (edM C a L) H) (vis (edM C a { L with rv := .ref p, rm := [p] }) H2) := vis_step fun b o hb hM hn => by
    refine ⟨h3 b o hb (fun z => hM (by rw [z]; exact a_in)), fun hm => ?_⟩
    have hm2 : b = a ∨ b = C.tP ∨ b = L.pu ∨ b = L.pr ∨ b = L.pq ∨ b = L.pw ∨ b = p := by simpa [edM] using hm
    rcases hm2 with z | z | z | z | z | z | z
    · exact hM (by simp [edM, z])
    · exact hM (by simp [edM, z])
    · exact hM (by simp [edM, z])
    · exact hM (by simp [edM, z])
    · exact hM (by simp [edM, z])
    · exact hM (by simp [edM, z])
    · rw [z, np] at hb
      cases hb
  have ls : ∀ q xs, H q = some (.lst xs) → H2 q = some (.lst xs) := fun q xs hq => h3 _ _ hq (ne_of hq hE.obj (by intro z; cases z))
  refine ⟨⟨h1, tb_keep hE.tb hE.obj h3, ?_, hE.txt.ext fr, hE.sel.ext fr, hE.kept.ext fr, hE.pcs.ext fr, hE.srch.ext fr, (fun k w z => by
    obtain ⟨x1, p2, x2, x3⟩ := hE.prm k w z
    exact ⟨x1, p2, x2, x3.ext fr⟩), ls _ _ hE.und, pr_mono (fun _ _ z => z.ext fr) hE.undP, ls _ _ hE.red, pr_mono (fun _ _ z => z.ext fr) hE.redP, hE.last.ext fr, hE.mac.ext fr, ⟨p, rfl, rfl, h2⟩, ls _ _ hE.com, ls _ _ hE.way, (fun x z => by
    obtain ⟨p2, x1, x2⟩ := hE.bef x z
    exact ⟨p2, x1, x2.ext fr⟩), hE.emp⟩, fr⟩
  have n := hE.nd
  show (edM C a { L with rv := .ref p, rm := [p] }).Nodup
  unfold edM at n ⊢
  rw [hrm] at n
  simp only [List.nodup_cons, List.mem_cons, not_or, List.not_mem_nil, not_false_eq_true, List.nodup_nil, and_true] at n ⊢
  have q1 := pne a a_in
  have q2 := pne C.tP (by simp [edM])
  have q3 := pne L.pu pu_in
  have q4 := pne L.pr pr_in
  have q5 := pne L.pw pw_in
  have q6 := pne L.pq pq_in
  obtain ⟨⟨a1, a2, a3, a4, a5⟩, ⟨b2, b3, b4, b5⟩, ⟨c3, c4, c5⟩, ⟨d4, d5⟩, e5⟩ := n
  exact ⟨⟨a1, a2, a3, a4, a5, Ne.symm q1⟩, ⟨b2, b3, b4, b5, Ne.symm q2⟩, ⟨c3, c4, c5, Ne.symm q3⟩, ⟨d4, d5, Ne.symm q4⟩, ⟨e5, Ne.symm q6⟩, Ne.symm q5⟩
theorem rec_add {H : Hp} {a p : Addr} {L : Lo} {e : Ed} {cq wt w2 : List Nat} (hE : EdAt C H a L e cq) (hr : e.recording = some wt) (hp : L.rv = .ref p) (hrm : L.rm = [p]) (ht : TxtAt H p wt) :
    EdAt C (upd H p (.lst (iL w2))) a L { e with recording := some w2 } cq ∧ Fr2 C a L H L (upd H p (.lst (iL w2))) := by
  have pin : p ∈ L.rm := by rw [hrm]; exact List.mem_singleton.mpr rfl
  have hv : vis (edM C a L) (upd H p (.lst (iL w2))) = vis (edM C a L) H := vis_put (rm_in pin)
  obtain ⟨n1, n2, n3, n4, n5, n6, n7, n8, n9, n10, _⟩ := hE.nes
  have np : ∀ b, b ∉ L.rm → b ≠ p := fun b hb z => hb (by rw [z]; exact pin)
  refine ⟨⟨?_, tb_put hE.tb ⟨_, ht⟩, hE.nd, by rw [hv]; exact hE.txt, by rw [hv]; exact hE.sel, by rw [hv]; exact hE.kept, by rw [hv]; exact hE.pcs, by rw [hv]; exact hE.srch, by rw [hv]; exact hE.prm, ?_, by rw [hv]; exact hE.undP, ?_, by rw [hv]; exact hE.redP, by rw [hv]; exact hE.last, by rw [hv]; exact hE.mac, ⟨p, hp, hrm, upd_same⟩, ?_, ?_, by rw [hv]; exact hE.bef, hE.emp⟩, ?_⟩
  · rw [upd_ne (ne_of hE.obj ht (by intro z; cases z))]
    exact hE.obj
  · rw [upd_ne (np _ n7)]
    exact hE.und
  · rw [upd_ne (np _ n9)]
    exact hE.red
  · show upd _ _ _ _ = _
    rw [upd_ne (np _ n10)]
    exact hE.com
  · show upd _ _ _ _ = _
    rw [upd_ne (np _ n4)]
    exact hE.way
  · show ExtN _ (vis _ _)
    rw [hv]
    exact ExtN.refl _
def recE (e : Ed) : Ed := match e.recording with
  | none => { endE e with recording := some [] }
  | some w => { endE e with recording := none, macro_ := w }
theorem k_switch_recording (G : Gs K mg C) : C8.Cal P w K mg base 2 "switch_recording" (spEd C (fun _ => True) recE) [] := by
  have K_Editor_end_command := k_Editor_end_command (P := P) (w := w) (base := base) G
  refine cal_of G.d_switch_recording sc_switch_recording (fun _ _ _ _ _ _ us hl => match us, hl with | [_], _ => rfl) (fun vs H Q E h => ?_) (fun f cdv A outer s H vs Q E hr h => ?_)
  · obtain ⟨a, L, e, cq, rfl, _⟩ := h; rfl
  · obtain ⟨a, L, e, cq, rfl, hE, _, hQ⟩ := h
    refine ⟨_, (pss_cons (ps_expr (C8.pe_mt0 K_Editor_end_command hr (by decide) (pv 0))) (pss_one (ps_if (pt_cmpR op_isN (pe_fld (pv 0) rfl) pe_non (nomark _)) (pss_one (ps_fld (pv 0) (pe_lst pa_nil) rfl)) (pss_cons (ps_fld (pv 0) (pe_fld (pv 0) rfl) rfl) (pss_one (ps_fld (pv 0) pe_non rfl)))))), ?_⟩
    refine ⟨_, rfl, a, L.dx, _, rfl, hE.obj, lk_no ne_end_command, a, L.dx, _, rfl, hE.obj, rfl, fun H2 p np g1 g2 g3 => ?_⟩
    obtain ⟨h2, f2⟩ := end_put hE np g1 g2 g3
    refine ⟨_, rfl, a, C.ed, L.dx, _, _, rfl, h2.obj, G.k_Editor, G.n_Editor_recorded, lk_zip fe_recorded rfl, rfl, _, rfl, ?_⟩
    have hrec := h2.rec_
    have er : (endE e).recording = e.recording := rfl
    cases hr : e.recording with
    | none =>
      rw [er, hr] at hrec
      have e0 : L.rv = .non := hrec.1
      have hw : recE e = { endE e with recording := some [] } := by
        unfold recE
        rw [hr]
      rw [hw] at hQ
      show if decide (L.rv = V.non) = true then _ else _
      rw [e0]
      refine ⟨Nat.zero_le _, fun z nz => ?_⟩
      have nza : z ≠ a := fun y => by
        rw [y, h2.obj] at nz
        cases nz
      refine ⟨_, rfl, a, C.ed, L.dx, _, rfl, by rw [upd_ne (Ne.symm nza)]; exact h2.obj, G.k_Editor, G.n_Editor_recorded, ed_few _, ?_⟩
      rw [put_ed fe_recorded (edi (by decide))]
      obtain ⟨h5, f5⟩ := rec_new h2 (er.trans hr) nz (H2 := upd (upd H2 z (.lst [])) a (.ins C.ed L.dx (nEd.zip ((edV (endE e) { L with pw := p }).set 13 (.ref z))))) upd_same (by rw [upd_ne nza, upd_same]) fun b o hb hn => by
        rw [upd_ne hn, upd_ne (ne_of_none hb nz)]
        exact hb
      exact hQ _ _ h5 (f2.trans f5)
    | some wt =>
      rw [er, hr] at hrec
      obtain ⟨pr, e0, hrm, ht⟩ := hrec
      have e0' : L.rv = .ref pr := e0
      have hw : recE e = { endE e with recording := none, macro_ := wt } := by
        unfold recE
        rw [hr]
      rw [hw] at hQ
      show if decide (L.rv = V.non) = true then _ else _
      rw [e0']
      refine ⟨_, rfl, a, C.ed, L.dx, _, _, rfl, h2.obj, G.k_Editor, G.n_Editor_recorded, lk_zip fe_recorded rfl, _, rfl, a, C.ed, L.dx, _, rfl, h2.obj, G.k_Editor, G.n_Editor_macro, ed_few _, ?_⟩
      rw [put_ed fe_macro (edi (by decide))]
      refine ⟨_, rfl, a, C.ed, L.dx, _, rfl, upd_same, G.k_Editor, G.n_Editor_recorded, ed_few _, ?_⟩
      rw [put_ed fe_recorded (by simp [edV]), upd_upd]
      obtain ⟨h5, f5⟩ := rec_none h2 (er.trans hr) e0 hrm ht
      have fin := hQ _ _ h5 (f2.trans f5)
      rw [e0']
      exact fin
end
end Ke
end
section
set_option maxHeartbeats 4500000
namespace Ke
open PySem PySem.Spec L2 LamX PyProof.Rows
open Ue15 (Sel Told Ed)
def Tl (e : Ed) : Prop := ∃ s m, e.sels = told s m ∧ m < s.length
theorem EdAt.tl {C : Ca} {H : Hp} {a : Addr} {L : Lo} {e : Ed} {cq : List Nat} (h : EdAt C H a L e cq) : Tl e := by
  obtain ⟨s, m, _, _, _, e1, e2, _⟩ := h.each
  exact ⟨s, m, e1, e2⟩
theorem face_le {s : Sel} {a b n : Nat} (h1 : a ≤ n) (h2 : b ≤ n) : Ue15.hi (Ue15.facing s a b) ≤ n := by
  unfold Ue15.facing
  split <;> exact hi_le ⟨by assumption, by assumption⟩
theorem caret_le {p n : Nat} (h : p ≤ n) : Ue15.hi (Ue15.caret p) ≤ n := hi_le ⟨h, h⟩
theorem good_one {x : Told} {n : Nat} (h : x.1.anchor ≤ n ∧ x.1.hand ≤ n) : Good n [x] := ⟨trivial, fun y hy => by rw [List.mem_singleton.mp hy]; exact h, by show 1 ≤ 30; decide⟩
theorem choosing_inv {e : Ed} (k : Nat) (h : EInv e) (t : Tl e) : EInv (choosing k e) := by
  obtain ⟨s, m, es, hm⟩ := t
  have hsm : s[m]? = some s[m] := List.getElem?_eq_getElem hm
  obtain ⟨em, _⟩ := told_main hsm e es
  obtain ⟨hl, hin⟩ := h.hands es
  unfold choosing
  split
  · exact mapped_good h fun s _ h2 => caret_le (steps_le h2)
  split
  · exact mapped_good h fun s h1 h2 => hi_le ⟨h1, steps_le h2⟩
  split
  · refine mapped_good h fun s h1 h2 => face_le ?_ (Nat.min_le_left _ _)
    have : Ue15.lineStart e.text (Ue15.lo s) ≤ Ue15.lo s := back_le
    have := lo_hi s
    have := hi_le ⟨h1, h2⟩
    omega
  split
  · exact h.sels (good_one ⟨Nat.zero_le _, Nat.le_refl _⟩)
  split
  · exact mapped_good h fun s _ h2 => caret_le h2
  split
  · refine h.sels (good_one ?_)
    rw [em]
    exact hin _ (List.mem_of_getElem? hsm)
  split
  · refine h.sels ?_
    rw [es, told_next]
    obtain ⟨ha, hb⟩ := h.ap es
    refine ⟨by rw [told_fsts]; exact ha, fun x hx => ?_, by rw [told_len]; exact hl⟩
    have : x.1 ∈ s := by
      have := List.mem_map_of_mem (f := fun z : Told => z.1) hx
      rw [told_fsts] at this
      exact this
    exact hin _ this
  split
  · exact ⟨h.txt, h.sel, fun l hl => by cases hl; exact h.sel, h.und, h.red, h.ahd, h.pcs, h.cnt⟩
  split
  · unfold keptOut
    split
    · exact h
    · rename_i l hk
      exact h.sels (h.kept l hk)
  · exact h
theorem sels_ord {e : Ed} {W : Told → List Nat} (h : EInv e) (t : Tl e) : OrdF e.text.length 0 (e.sels.map fun x => ((Ue15.lo x.1, Ue15.hi x.1, W x) : Ex)) := by
  obtain ⟨s, m, es, hm⟩ := t
  obtain ⟨ha, hb⟩ := h.ap es
  have hp : Paired (fun (x : Sel) (e : Ex) => Ue15.lo x ≤ e.1 ∧ e.1 ≤ e.2.1 ∧ e.2.1 ≤ Ue15.hi x) s (e.sels.map fun x => ((Ue15.lo x.1, Ue15.hi x.1, W x) : Ex)) := by
    have hp2 : ∀ (l : List Told), Paired (fun (x : Sel) (e : Ex) => Ue15.lo x ≤ e.1 ∧ e.1 ≤ e.2.1 ∧ e.2.1 ≤ Ue15.hi x) (l.map fun x => x.1) (l.map fun x => ((Ue15.lo x.1, Ue15.hi x.1, W x) : Ex)) := by
      intro l
      induction l with
      | nil => exact .nil
      | cons x l ih => exact .cons ⟨Nat.le_refl _, lo_hi _, Nat.le_refl _⟩ ih
    have := hp2 e.sels
    rw [es, told_fsts] at this
    rw [es]
    exact this
  exact ord_of hp ha hb fun _ _ _ => Nat.zero_le _
theorem puts_inv {e : Ed} {f : Sel → Nat} (hf : ∀ x, Ue15.lo x ≤ f x ∧ f x ≤ Ue15.hi x) (h : EInv e) (t : Tl e) : EInv (putsE e (e.sels.map fun x => f x.1)) := by
  obtain ⟨s, m, es, hm⟩ := t
  obtain ⟨ha, hb⟩ := h.ap es
  unfold putsE
  split
  · exact h
  · refine edits_good es h ?_ face_hi
    rw [es, told_fst s m f]
    exact ord_pt hf ha hb fun _ _ _ => Nat.zero_le _
theorem taken_inv {e : Ed} (h : EInv e) (t : Tl e) : EInv (Ue15.taken e) := by
  obtain ⟨s, m, es, hm⟩ := t
  unfold Ue15.taken
  exact edits_good (e := Ue15.copied e) es h.copied (sels_ord (e := e) (W := fun _ => []) h ⟨s, m, es, hm⟩) fun _ p _ => caret_le (Nat.le_refl _)
theorem typed_inv {e : Ed} {w : List Nat} (h : EInv e) (t : Tl e) : EInv (Ue15.typed e w) := by
  obtain ⟨s, m, es, hm⟩ := t
  unfold Ue15.typed
  exact edits_good es h (sels_ord (W := fun _ => w) h ⟨s, m, es, hm⟩) fun _ p _ => caret_le (Nat.le_refl _)
theorem editing_inv {e : Ed} (k : Nat) (h : EInv e) (t : Tl e) : EInv (editing k e) := by
  unfold editing
  split
  · exact taken_inv h t
  split
  · exact h.copied
  split
  · rw [← puts_hi]
    exact puts_inv (f := Ue15.hi) (fun x => ⟨lo_hi x, Nat.le_refl _⟩) h t
  split
  · rw [← puts_lo]
    exact puts_inv (f := Ue15.lo) (fun x => ⟨Nat.le_refl _, lo_hi x⟩) h t
  split
  · obtain ⟨s, m, es, hm⟩ := t
    unfold swapE
    exact edits_good es h (sels_ord h ⟨s, m, es, hm⟩) face_hi
  · exact h
theorem ff_le {t w : List Nat} {p q : Nat} (h : Ue15.findFrom t w p = some q) : p ≤ q ∧ q + w.length ≤ t.length := by
  obtain ⟨h1, h2, h3⟩ := ff_is h
  exact ⟨h1, stands_len h3 h2⟩
theorem fa_le {t u : List Nat} {e : Nat} : ∀ {f p : Nat} {x : Nat}, x ∈ Ue15.findAll t u e f p → p ≤ x ∧ x + u.length ≤ e ∧ x + u.length ≤ t.length
  | 0, _, _, h => by cases h
  | f + 1, p, x, h => by
    cases hf : Ue15.findFrom (t.take e) u p with
    | none =>
      rw [fa_end hf] at h
      cases h
    | some q =>
      rw [fa_go hf] at h
      obtain ⟨l1, l2⟩ := ff_le hf
      rw [List.length_take] at l2
      rcases List.mem_cons.mp h with z | h
      · rw [z]
        omega
      · have := fa_le h
        omega
theorem bt_le {n b N : Nat} : ∀ {l : List Nat} {a : Nat} {y : Nat × Nat}, y ∈ Ue15.between n a b l → a ≤ N → b ≤ N → (∀ q ∈ l, q + n ≤ N) → y.1 ≤ N ∧ y.2 ≤ N
  | [], a, y, h, ha, hb, _ => by
    rw [List.mem_singleton.mp h]
    exact ⟨ha, hb⟩
  | q :: l, a, y, h, ha, hb, hq => by
    have h1 := hq q List.mem_cons_self
    rw [bt_go] at h
    rcases List.mem_cons.mp h with z | h
    · rw [z]
      exact ⟨ha, by dsimp only; omega⟩
    · exact bt_le h h1 hb fun x hx => hq x (List.mem_cons_of_mem _ hx)
theorem selects_inv {e : Ed} {l : List Sel} {k : Nat} (h : EInv e) (hl : ∀ x ∈ l, Ue15.hi x ≤ e.text.length) : EInv (Ue15.selects e l k) := by
  rw [selects_told]
  split
  · exact h
  · rename_i hn
    refine h.sels (tidy_good (fun x hx => ?_) ?_)
    · have : x.1 ∈ l := by
        have := List.mem_map_of_mem (f := fun z : Told => z.1) hx
        rw [told_fsts] at this
        exact this
      exact hl _ this
    · rw [told_len]
      omega
theorem next_le {e : Ed} {s : Sel} (h : Ue15.nextOf e = some s) : Ue15.hi s ≤ e.text.length := by
  by_cases hs : e.search = []
  · unfold Ue15.nextOf at h
    rw [if_pos hs] at h
    cases h
  · rw [next_eq hs] at h
    unfold nextAt at h
    cases hf : Ue15.findFrom e.text e.search (Ue15.hi (Ue15.mainOf e)) with
    | some p =>
      rw [hf] at h
      cases h
      have := (ff_le hf).2
      exact hi_le ⟨by show p ≤ _; omega, this⟩
    | none =>
      rw [hf] at h
      cases hf2 : Ue15.findFrom e.text e.search 0 with
      | none =>
        rw [hf2] at h
        cases h
      | some p =>
        rw [hf2] at h
        cases h
        have := (ff_le hf2).2
        exact hi_le ⟨by show p ≤ _; omega, this⟩
theorem found_inv {e : Ed} (h : EInv e) : EInv (foundE e) := by
  unfold foundE
  cases hn : Ue15.nextOf e with
  | none => exact h
  | some s => exact selects_inv h fun x hx => by rw [List.mem_singleton.mp hx]; exact next_le hn
theorem finding_inv {e : Ed} (k : Nat) (h : EInv e) : EInv (finding k e) := by
  unfold finding
  split
  · exact found_inv h
  split
  · unfold addE
    cases hn : Ue15.nextOf e with
    | none => exact h
    | some s =>
      dsimp only
      split
      · exact h
      · rename_i hs
        unfold Ue15.SELS at hs
        refine h.sels (tidy_good (fun x hx => ?_) ?_)
        · rcases (List.mem_append.mp hx) with hx | hx
          · obtain ⟨y, hy, rfl⟩ := List.mem_map.mp hx
            exact hi_le (h.sel.le y hy)
          · rw [List.mem_singleton.mp hx]
            exact next_le hn
        · rw [List.length_append, List.length_map]
          show e.sels.length + 1 ≤ 30
          omega
  · exact h
theorem mode_inv {e : Ed} (h : EInv e) (md : Ue15.Mode) : EInv { e with mode := md } := ⟨h.txt, h.sel, h.kept, h.und, h.red, h.ahd, h.pcs, h.cnt⟩
theorem answered_inv {e : Ed} {k : Nat} {w : List Nat} (h : EInv e) (ha : isAsk k) : EInv (Ue15.answered e k w) := by
  by_cases hw : w = []
  · unfold Ue15.answered
    rw [if_pos hw]
    exact h
  · rcases ha with rfl | rfl | rfl
    · rw [answered_m hw]
      refine selects_inv h fun x hx => ?_
      obtain ⟨y, hy, hx⟩ := List.mem_flatMap.mp hx
      obtain ⟨p, hp, rfl⟩ := List.mem_map.mp hx
      have := (fa_le hp).2.2
      exact hi_le ⟨by show p ≤ _; omega, this⟩
    · rw [answered_b hw]
      refine selects_inv h fun x hx => ?_
      obtain ⟨y, hy, hx⟩ := List.mem_flatMap.mp hx
      obtain ⟨p, hp, rfl⟩ := List.mem_map.mp hx
      have hy2 := hi_le (h.sel.le y hy)
      have := lo_hi y.1
      exact hi_le (bt_le hp (by omega) hy2 fun q hq => (fa_le hq).2.2)
    · rw [answered_s hw]
      exact found_inv ⟨h.txt, h.sel, h.kept, h.und, h.red, h.ahd, h.pcs, h.cnt⟩
theorem lenA_less : ∀ {r : List Ex} {n p : Nat} (x : Int), (∀ y ∈ r, y.2.2 = []) → OrdF n p r → lenA x r ≤ x
  | [], _, _, _, _, _ => Int.le_refl _
  | (a, b, w) :: r, n, p, x, h, ho => by
    obtain ⟨h1, h2, h3, h4⟩ := ho
    have hw : w = [] := h _ List.mem_cons_self
    dsimp only at h1 h2 h3 h4
    have ih := lenA_less (x + more1 (a, b, w)) (fun y hy => h y (List.mem_cons_of_mem _ hy)) h4
    show lenA (x + more1 (a, b, w)) r ≤ x
    have : more1 (a, b, w) ≤ 0 := by
      unfold more1
      rw [hw]
      show (0 : Int) - ((b : Int) - a) ≤ 0
      omega
    omega
theorem changed_less {t : List Nat} {r : List Ex} (h : ∀ y ∈ r, y.2.2 = []) (ho : OrdF t.length 0 r) : (Ue15.changed t 0 r).length ≤ t.length := by
  have h1 := changed_len ho (Nat.zero_le _)
  have h2 := lenA_less ((t.length : Int) - ((0 : Nat) : Int)) h ho
  omega
theorem edits_carets {e : Ed} {r : List Ex} (t : Tl e) (h : CaretsL e.sels ∨ ¬ 200 < (Ue15.changed e.text 0 r).length) : CaretsL (Ue15.edits e r fun _ x => Ue15.caret x.2).sels := by
  obtain ⟨s, m, es, hm⟩ := t
  by_cases hn : 200 < (Ue15.changed e.text 0 r).length
  · rw [edits_no hn]
    rcases h with h | h
    · exact h
    · exact absurd hn h
  · rw [edits_eq es hn]
    refine tidy_carets fun x hx => ?_
    have hx2 : x.1 ∈ s.zipWith (fun _ x => Ue15.caret x.2) (Ue15.places 0 0 r) := by
      have := List.mem_map_of_mem (f := fun z : Told => z.1) hx
      rw [told_fsts] at this
      exact this
    obtain ⟨_, _, p, _, ez⟩ := zip_mem hx2
    rw [ez]
    rfl
theorem taken_carets {e : Ed} (h : EInv e) (t : Tl e) : CaretsL (Ue15.taken e).sels := by
  have ho := sels_ord (W := fun _ => []) h t
  refine edits_carets (e := Ue15.copied e) t (.inr ?_)
  have h1 := changed_less (t := e.text) (fun y hy => by
    obtain ⟨z, _, rfl⟩ := List.mem_map.mp hy
    rfl) ho
  have h2 := h.txt
  show ¬ 200 < (Ue15.changed e.text 0 (e.sels.map fun x => ((Ue15.lo x.1, Ue15.hi x.1, []) : Ex))).length
  omega
theorem mapped_carets {e : Ed} (f : Sel → Nat) : CaretsL (Ue15.mapped e fun s => Ue15.caret (f s)).sels := tidy_carets fun x hx => by
  obtain ⟨y, _, rfl⟩ := List.mem_map.mp hx
  rfl
theorem tidy_told {s : List Sel} {m : Nat} {l : List Told} (h : Ue15.tidy (told s m) = l) (hl : Tl { Ue15.begin_ [] with sels := l }) : True := trivial
end Ke
end
section
set_option maxHeartbeats 4500000
namespace Ke
open PySem PySem.Spec L2 LamX PyProof.Rows
open Ue15 (Sel Told Ed)
/-! ### one of them is main -/
def mains (l : List Told) : Nat := l.countP fun x => x.2
theorem mains_cons (x : Told) (l : List Told) : mains (x :: l) = mains l + (if x.2 = true then 1 else 0) := by
  unfold mains
  rw [List.countP_cons]
theorem mains_told (s : List Sel) (m : Nat) (h : m < s.length) : mains (told s m) = 1 := by
  have key : ∀ (s : List Sel) (k m : Nat), (m < k → mains ((s.zipIdx k).map fun y => (y.1, y.2 == m)) = 0) ∧ (k ≤ m → m < k + s.length → mains ((s.zipIdx k).map fun y => (y.1, y.2 == m)) = 1) := by
    intro s
    induction s with
    | nil => intro k m; exact ⟨fun _ => rfl, fun h1 h2 => by simp at h2; omega⟩
    | cons x s ih =>
      intro k m
      obtain ⟨a, b⟩ := ih (k + 1) m
      rw [List.zipIdx_cons, List.map_cons, mains_cons]
      refine ⟨fun h => ?_, fun h1 h2 => ?_⟩
      · rw [a (by omega), if_neg (by simp; omega)]
      · by_cases e : k = m
        · rw [a (by omega), if_pos (by simp; exact e)]
        · rw [List.length_cons] at h2
          rw [b (by omega) (by omega), if_neg (by simp; exact e)]
  exact (key s 0 m).2 (Nat.zero_le _) (by omega)
theorem told_mains {l : List Told} (h : mains l = 1) : ∃ s m, l = told s m ∧ m < s.length := by
  have zero : ∀ (l : List Told) (k m : Nat), mains l = 0 → m < k → l = ((l.map (·.1)).zipIdx k).map fun y => (y.1, y.2 == m) := by
    intro l
    induction l with
    | nil => intros; rfl
    | cons x l ih =>
      intro k m h hk
      rw [mains_cons] at h
      have hx : x.2 = false := by
        cases hx : x.2 with
        | false => rfl
        | true =>
          rw [hx] at h
          simp at h
      have e1 : (k == m) = false := beq_eq_false_iff_ne.mpr (by omega)
      rw [List.map_cons, List.zipIdx_cons, List.map_cons, ← ih (k + 1) m (by omega) (by omega), e1, ← hx]
  have key : ∀ (l : List Told) (k : Nat), mains l = 1 → ∃ m, l = ((l.map (·.1)).zipIdx k).map (fun y => (y.1, y.2 == m)) ∧ k ≤ m ∧ m < k + l.length := by
    intro l
    induction l with
    | nil => intro k h; cases h
    | cons x l ih =>
      intro k h
      rw [mains_cons] at h
      cases hx : x.2 with
      | true =>
        rw [hx, if_pos rfl] at h
        refine ⟨k, ?_, Nat.le_refl _, by rw [List.length_cons]; omega⟩
        rw [List.map_cons, List.zipIdx_cons, List.map_cons, ← zero l (k + 1) k (by omega) (by omega), beq_self_eq_true, ← hx]
      | false =>
        rw [hx, if_neg Bool.false_ne_true] at h
        obtain ⟨m, h1, h2, h3⟩ := ih (k + 1) h
        refine ⟨m, ?_, by omega, by rw [List.length_cons]; omega⟩
        have e1 : (k == m) = false := beq_eq_false_iff_ne.mpr (by omega)
        rw [List.map_cons, List.zipIdx_cons, List.map_cons, ← h1, e1, ← hx]
  obtain ⟨m, h1, h2, h3⟩ := key l 0 h
  exact ⟨l.map (fun x : Told => x.1), m, h1, by rw [List.length_map]; omega⟩
theorem merge_mains : ∀ {l : List Told} {x : Told}, mains (x :: l) ≤ 1 → mains (Ue15.mergeFrom x l) = mains (x :: l)
  | [], _, _ => rfl
  | y :: l, x, h => by
    show mains (if Ue15.touch x.1 y.1 = true then Ue15.mergeFrom (Ue15.joined x y) l else x :: Ue15.mergeFrom y l) = _
    rw [mains_cons, mains_cons] at h
    have hj : mains (Ue15.joined x y :: l) = mains (x :: y :: l) := by
      rw [mains_cons, mains_cons, mains_cons]
      show mains l + (if (x.2 || y.2) = true then 1 else 0) = _
      cases hx : x.2 <;> cases hy : y.2 <;> simp
      rw [hx, hy] at h
      simp at h
    split
    · rw [merge_mains (by rw [hj, mains_cons, mains_cons]; exact h), hj]
    · rw [mains_cons, merge_mains (by rw [mains_cons]; omega), ← mains_cons]
theorem tidy_mains {l : List Told} (h : mains l = 1) : mains (Ue15.tidy l) = 1 := by
  have h2 := (fold_srt l).2.perm
  have h3 : mains (l.foldr Ue15.insertBy []) = 1 := by
    unfold mains at h ⊢
    rw [h2.countP_eq]
    exact h
  unfold Ue15.tidy
  generalize l.foldr Ue15.insertBy [] = o at *
  cases o with
  | nil => exact h3
  | cons x o =>
    show mains (Ue15.mergeFrom x o) = 1
    rw [merge_mains (Nat.le_of_eq h3)]
    exact h3
theorem tl_iff {e : Ed} : Tl e ↔ mains e.sels = 1 := ⟨fun ⟨s, m, h1, h2⟩ => by rw [h1]; exact mains_told s m h2, fun h => told_mains h⟩
theorem mains_map (l : List Told) (f : Told → Sel) : mains (l.map fun x => (f x, x.2)) = mains l := by
  unfold mains
  rw [List.countP_map]
  rfl
theorem mapped_tl {e : Ed} {f : Sel → Sel} (t : Tl e) : Tl (Ue15.mapped e f) := tl_iff.mpr (tidy_mains (by rw [mains_map e.sels fun x => f x.1]; exact tl_iff.mp t))
/-! ### the whole of what always holds -/
structure FInv (N : Nat) (e : Ed) : Prop where
  inv : EInv e
  ins : e.mode = .insert → CaretsL e.sels
  prm : ∀ k w, e.mode = .prompt k w → isAsk k ∧ w.length ≤ N
  nrm : e.mode = .normal → ∀ x, e.ahead = some x → x.1 = e.text
  keys : e.keys.length ≤ N
  last : e.last.length ≤ N
  mac : e.macro_.length ≤ N
  rec_ : ∀ w, e.recording = some w → w.length ≤ N
  srch : e.search.length ≤ N
  stp : e.undo.length + e.redo.length ≤ N
/-- all but the text, the selections, the pieces and what is kept or searched -/
structure Keeps (e e2 : Ed) : Prop where
  mode : e2.mode = e.mode
  keys : e2.keys = e.keys
  last : e2.last = e.last
  ahead : e2.ahead = e.ahead
  mac : e2.macro_ = e.macro_
  rec_ : e2.recording = e.recording
  undo : e2.undo = e.undo
  redo : e2.redo = e.redo
theorem Keeps.refl (e : Ed) : Keeps e e := ⟨rfl, rfl, rfl, rfl, rfl, rfl, rfl, rfl⟩
theorem Keeps.trans {a b c : Ed} (h : Keeps a b) (k : Keeps b c) : Keeps a c := ⟨k.mode.trans h.mode, k.keys.trans h.keys, k.last.trans h.last, k.ahead.trans h.ahead, k.mac.trans h.mac, k.rec_.trans h.rec_, k.undo.trans h.undo, k.redo.trans h.redo⟩
theorem edits_keeps {e : Ed} {r : List Ex} {f : Sel → Nat × Nat → Sel} : Keeps e (Ue15.edits e r f) ∧ (Ue15.edits e r f).search = e.search := by
  unfold Ue15.edits
  dsimp only
  split <;> exact ⟨⟨rfl, rfl, rfl, rfl, rfl, rfl, rfl, rfl⟩, rfl⟩
theorem selects_keeps {e : Ed} {l : List Sel} {k : Nat} : Keeps e (Ue15.selects e l k) ∧ (Ue15.selects e l k).search = e.search := by
  unfold Ue15.selects
  split <;> exact ⟨⟨rfl, rfl, rfl, rfl, rfl, rfl, rfl, rfl⟩, rfl⟩
theorem choosing_keeps (k : Nat) (e : Ed) : Keeps e (choosing k e) ∧ (choosing k e).search = e.search ∧ (choosing k e).text = e.text := by
  unfold choosing keptOut Ue15.mapped
  repeat' split
  all_goals exact ⟨⟨rfl, rfl, rfl, rfl, rfl, rfl, rfl, rfl⟩, rfl, rfl⟩
theorem puts_keeps (e : Ed) (ps : List Nat) : Keeps e (putsE e ps) ∧ (putsE e ps).search = e.search := by
  unfold putsE
  split
  · exact ⟨Keeps.refl e, rfl⟩
  · exact edits_keeps
theorem taken_keeps (e : Ed) : Keeps e (Ue15.taken e) ∧ (Ue15.taken e).search = e.search := by
  unfold Ue15.taken
  have h := edits_keeps (e := Ue15.copied e) (r := e.sels.map fun x => (Ue15.lo x.1, Ue15.hi x.1, [])) (f := fun _ x => Ue15.caret x.2)
  exact ⟨Keeps.trans (b := Ue15.copied e) ⟨rfl, rfl, rfl, rfl, rfl, rfl, rfl, rfl⟩ h.1, h.2⟩
theorem editing_keeps (k : Nat) (e : Ed) : Keeps e (editing k e) ∧ (editing k e).search = e.search := by
  unfold editing
  split
  · exact taken_keeps e
  split
  · exact ⟨⟨rfl, rfl, rfl, rfl, rfl, rfl, rfl, rfl⟩, rfl⟩
  split
  · rw [← puts_hi]
    exact puts_keeps e _
  split
  · rw [← puts_lo]
    exact puts_keeps e _
  split
  · exact edits_keeps
  · exact ⟨Keeps.refl e, rfl⟩
theorem found_keeps (e : Ed) : Keeps e (foundE e) ∧ (foundE e).search = e.search := by
  unfold foundE
  split
  · exact ⟨Keeps.refl e, rfl⟩
  · exact selects_keeps
theorem finding_keeps (k : Nat) (e : Ed) : Keeps e (finding k e) ∧ (finding k e).search = e.search := by
  unfold finding
  split
  · exact found_keeps e
  split
  · unfold addE
    split
    · exact ⟨Keeps.refl e, rfl⟩
    · split <;> exact ⟨⟨rfl, rfl, rfl, rfl, rfl, rfl, rfl, rfl⟩, rfl⟩
  · exact ⟨Keeps.refl e, rfl⟩
/-! ### a command is through -/
theorem through_inv {N : Nat} {e : Ed} (h : EInv e) (hk : e.keys.length ≤ N) (hl : e.last.length ≤ N) (hm : e.macro_.length ≤ N) (hr : ∀ w, e.recording = some w → w.length ≤ N) (hs : e.search.length ≤ N) (hu : e.undo.length + e.redo.length + 1 ≤ N) : FInv N (Ue15.through e) := by
  unfold Ue15.through
  dsimp only
  split
  · exact ⟨⟨h.txt, h.sel, h.kept, h.und, h.red, (fun x z => by cases z), h.pcs, Nat.zero_le _⟩, (fun z => by cases z), (fun k w z => by cases z), (fun _ x z => by cases z), Nat.zero_le _, hl, hm, hr, hs, by show e.undo.length + e.redo.length ≤ N; omega⟩
  · rename_i x hx
    split
    · exact ⟨⟨h.txt, h.sel, h.kept, h.und, h.red, (fun x z => by cases z), h.pcs, Nat.zero_le _⟩, (fun z => by cases z), (fun k w z => by cases z), (fun _ x z => by cases z), Nat.zero_le _, hl, hm, hr, hs, by show e.undo.length + e.redo.length ≤ N; omega⟩
    · refine ⟨⟨h.txt, h.sel, h.kept, fun y hy => ?_, (fun y hy => by cases hy), (fun x z => by cases z), h.pcs, Nat.zero_le _⟩, (fun z => by cases z), (fun k w z => by cases z), (fun _ x z => by cases z), Nat.zero_le _, hk, hm, hr, hs, by show _ + 1 + 0 ≤ N; omega⟩
      rcases List.mem_cons.mp hy with z | hy
      · rw [z]
        exact h.ahd x hx
      · exact h.und y hy
end Ke
end
section
set_option maxHeartbeats 4500000
namespace Ke
open PySem PySem.Spec L2 LamX PyProof.Rows
open Ue15 (Sel Told Ed)
def wholeE (k : Nat) (e : Ed) : Ed := finding k (editing k (choosing k e))
def isDigit (k : Nat) (e : Ed) : Prop := (49 ≤ k ∧ k ≤ 57) ∨ (k = 48 ∧ 0 < e.count)
def isNever (k : Nat) : Prop := k = 117 ∨ k = 85 ∨ k = 46 ∨ k = 64
theorem cmd_digit {e : Ed} {k : Nat} (h : isDigit k e) : Ue15.command e k = ({ e with count := min 99 (10 * e.count + (k - 48)) }, []) := by
  unfold Ue15.command
  unfold isDigit at h
  dsimp only
  rw [if_pos h]
theorem cmd_begin {e : Ed} {k : Nat} (h : isBegin k) : Ue15.command e k = (begun k e, []) := by
  rcases h with rfl | rfl | rfl | rfl | rfl <;> rfl
theorem cmd_ask {e : Ed} {k : Nat} (h : isAsk k) : Ue15.command e k = ({ e with mode := .prompt k [] }, []) := by
  rcases h with rfl | rfl | rfl <;> rfl
theorem through_none (e : Ed) : Ue15.through { e with ahead := none } = endE e := rfl
theorem cmd_u (e : Ed) : Ue15.command e 117 = (endE (Ue15.undone (Ue15.times e) e), []) := rfl
theorem cmd_U (e : Ed) : Ue15.command e 85 = (endE (Ue15.redone (Ue15.times e) e), []) := rfl
theorem cmd_dot (e : Ed) : Ue15.command e 46 = (endE e, Ue15.again e.last (Ue15.times e)) := rfl
theorem cmd_at (e : Ed) : Ue15.command e 64 = (endE e, Ue15.again e.macro_ (Ue15.times e)) := rfl
theorem cmd_else {e : Ed} {k : Nat} (h1 : ¬ isDigit k e) (h2 : ¬ isNever k) (h3 : ¬ isBegin k) (h4 : ¬ isAsk k) : Ue15.command e k = (Ue15.through (wholeE k e), []) := by
  by_cases hk : k = 104 ∨ k = 108 ∨ k = 106 ∨ k = 107 ∨ k = 119 ∨ k = 98 ∨ k = 72 ∨ k = 76 ∨ k = 74 ∨ k = 75 ∨ k = 87 ∨ k = 66
  · rcases hk with rfl | rfl | rfl | rfl | rfl | rfl | rfl | rfl | rfl | rfl | rfl | rfl <;> rfl
  by_cases hk2 : k = 120 ∨ k = 37 ∨ k = 59 ∨ k = 44 ∨ k = 41 ∨ k = 122 ∨ k = 90 ∨ k = 100 ∨ k = 121 ∨ k = 112 ∨ k = 80 ∨ k = 126 ∨ k = 110 ∨ k = 78
  · rcases hk2 with rfl | rfl | rfl | rfl | rfl | rfl | rfl | rfl | rfl | rfl | rfl | rfl | rfl | rfl <;> rfl
  unfold isNever at h2
  unfold isDigit at h1
  unfold isBegin at h3
  unfold isAsk at h4
  have e1 : wholeE k e = e := by
    unfold wholeE finding editing choosing
    iterate 9 rw [if_neg (by omega)]
    iterate 5 rw [if_neg (by omega)]
    iterate 2 rw [if_neg (by omega)]
  rw [e1]
  unfold Ue15.command
  dsimp only
  rw [if_neg h1]
  iterate 26 rw [if_neg (by omega)]
end Ke
end
section
set_option maxHeartbeats 4500000
namespace Ke
open PySem PySem.Spec L2 LamX PyProof.Rows
open Ue15 (Sel Told Ed)
theorem in_never (k : Nat) : (rows_NEVER_STEPS.lookup (k : Int)).isSome = true ↔ isNever k := by
  rw [lk_in]
  unfold isNever rows_NEVER_STEPS
  simp
  omega
theorem whole_keeps (k : Nat) (e : Ed) : Keeps e (wholeE k e) ∧ (wholeE k e).search = e.search := by
  have h1 := choosing_keeps k e
  have h2 := editing_keeps k (choosing k e)
  have h3 := finding_keeps k (editing k (choosing k e))
  exact ⟨(h1.1.trans h2.1).trans h3.1, h3.2.trans (h2.2.trans h1.2.1)⟩
section
variable {P : Program} {w : World} {K : PySem.W.Frag} {mg : Str → Option Value} {base : Heap} {C : Ca}
theorem k_do_whole_command (G : Gs K mg C) (TB : TabB base mg C.tc C.tP) : C8.Cal P w K mg base 12 "do_whole_command" (spEdK C (fun _ e => EInv e ∧ SOk e) wholeE) [] := by
  have K_do_choosing := k_do_choosing (P := P) (w := w) (base := base) G TB
  have K_do_editing := k_do_editing (P := P) (w := w) (base := base) G TB
  have K_do_finding := k_do_finding (P := P) (w := w) (base := base) G TB
  refine cal_of G.d_do_whole_command sc_do_whole_command (fun _ _ _ _ _ _ us hl => match us, hl with | [_, _], _ => rfl) (fun vs H Q E h => ?_) (fun f cdv A outer s H vs Q E hr h => ?_)
  · obtain ⟨a, L, e, cq, k, rfl, _⟩ := h; rfl
  · obtain ⟨a, L, e, cq, k, rfl, hE, ⟨hI, hS⟩, hQ⟩ := h
    refine ⟨_, (pss_cons (ps_expr (C8.pe_c K_do_choosing hr (by decide) rfl (pa_cons (pv 0) (pa_cons (pv 1) pa_nil)))) (pss_cons (ps_expr (C8.pe_c K_do_editing hr (by decide) rfl (pa_cons (pv 0) (pa_cons (pv 1) pa_nil)))) (pss_one (ps_expr (C8.pe_c K_do_finding hr (by decide) rfl (pa_cons (pv 0) (pa_cons (pv 1) pa_nil))))))), ?_⟩
    have i1 := choosing_inv k hI hE.tl
    refine ⟨_, rfl, _, rfl, a, L, e, cq, k, rfl, hE, hI, fun H1 L1 h1 f1 => ?_⟩
    have i2 := editing_inv k i1 h1.tl
    refine ⟨_, rfl, _, rfl, a, L1, _, cq, k, rfl, h1, i1, fun H2 L2 h2 f2 => ?_⟩
    have s2 : SOk (editing k (choosing k e)) := ⟨by
      rw [(editing_keeps k (choosing k e)).2, (choosing_keeps k e).2.1]
      exact hS.sr⟩
    exact ⟨_, rfl, _, rfl, a, L2, _, cq, k, rfl, h2, ⟨i2, s2⟩, fun H3 L3 h3 f3 => hQ _ _ h3 ((f1.trans f2).trans f3)⟩
structure NOk (e : Ed) (cq : List Nat) : Prop where
  inv : EInv e
  ah : e.ahead ≠ none
  st : e.undo.length + e.redo.length ≤ 5000000
  la : e.last.length ≤ 5000000
  ma : e.macro_.length ≤ 5000000
  sr : e.search.length ≤ 10000000
  cq : cq.length ≤ 500
/-- what the steps that are never steps do: the editor, and what comes -/
def spNever (C : Ca) (f : Ed → Ed) (g : Ed → List Nat) : Sp := fun vs H Q _ => ∃ (a : Addr) (L : Lo) (e : Ed) (cq : List Nat), vs = [.ref a] ∧ EdAt C H a L e cq ∧ NOk e cq ∧ ∀ H2 L2, EdAt C H2 a L2 (f e) ((g e ++ cq).take 500) → Fr2 C a L H L2 H2 → Q .non H2
theorem nevers (G : Gs K mg C) (TB : TabB base mg C.tc C.tP) {k : Nat} (h : isNever k) :
    ∃ n, rows_NEVER_STEPS.lookup (k : Int) = some n ∧ ∀ f, mg n = some (.ref f) → ∃ (sp : Sp), HeldM P w K mg base 12 f sp ∧
      ∀ (a : Addr) (L : Lo) (e : Ed) (cq : List Nat) (H : Hp) (Q : VK) (E : XK), EdAt C H a L e cq → NOk e cq → (∀ H2 L2 e2, EdAt C H2 a L2 e2 (((Ue15.command e k).2 ++ cq).take 500) → endE e2 = (Ue15.command e k).1 → Fr2 C a L H L2 H2 → Q .non H2) → sp [.ref a] H Q E := by
  rcases h with rfl | rfl | rfl | rfl
  · refine ⟨_, rfl, fun f g => ⟨_, held_m (k_undo G TB) (by decide) g, fun a L e cq H Q E hE hN hQ => ⟨a, L, e, cq, rfl, hE, ⟨hN.inv, hN.st⟩, fun H2 L2 h2 f2 => hQ H2 L2 (Ue15.undone (Ue15.times e) e) ?_ rfl f2⟩⟩⟩
    rw [cmd_u, List.nil_append, List.take_of_length_le hN.cq]
    exact h2
  · refine ⟨_, rfl, fun f g => ⟨_, held_m (k_redo G TB) (by decide) g, fun a L e cq H Q E hE hN hQ => ⟨a, L, e, cq, rfl, hE, ⟨hN.inv, hN.st⟩, fun H2 L2 h2 f2 => hQ H2 L2 (Ue15.redone (Ue15.times e) e) ?_ rfl f2⟩⟩⟩
    rw [cmd_U, List.nil_append, List.take_of_length_le hN.cq]
    exact h2
  · exact ⟨_, rfl, fun f g => ⟨_, held_m (k_play_last_change G) (by decide) g, fun a L e cq H Q E hE hN hQ => ⟨a, L, e, cq, rfl, hE, hN.inv.cnt, hN.la, hN.cq, fun H2 L2 h2 f2 => hQ H2 L2 _ h2 rfl f2⟩⟩⟩
  · exact ⟨_, rfl, fun f g => ⟨_, held_m (k_play_macro G) (by decide) g, fun a L e cq H Q E hE hN hQ => ⟨a, L, e, cq, rfl, hE, hN.inv.cnt, hN.ma, hN.cq, fun H2 L2 h2 f2 => hQ H2 L2 _ h2 rfl f2⟩⟩⟩
def sp_do_normal_key (C : Ca) : Sp := fun vs H Q _ => ∃ (a : Addr) (L : Lo) (e : Ed) (cq : List Nat) (k : Nat), vs = [.ref a, .int (k : Nat)] ∧ EdAt C H a L e cq ∧ NOk e cq ∧
  ∀ H2 L2, EdAt C H2 a L2 (Ue15.command e k).1 (((Ue15.command e k).2 ++ cq).take 500) → Fr2 C a L H L2 H2 → Q .non H2
theorem k_do_normal_key (G : Gs K mg C) (TB : TabB base mg C.tc C.tP) : C8.Cal P w K mg base 13 "do_normal_key" (sp_do_normal_key C) [] := by
  have K_Editor_end_command := k_Editor_end_command (P := P) (w := w) (base := base) G
  have K_Editor_end_command_as_step := k_Editor_end_command_as_step (P := P) (w := w) (base := base) G
  have K_begin_longer_command := k_begin_longer_command (P := P) (w := w) (base := base) G TB
  have K_do_whole_command := k_do_whole_command (P := P) (w := w) (base := base) G TB
  have K_is_digit_of_count := k_is_digit_of_count (P := P) (w := w) (base := base) G
  refine cal_of G.d_do_normal_key sc_do_normal_key (fun _ _ _ _ _ _ us hl => match us, hl with | [_, _], _ => rfl) (fun vs H Q E h => ?_) (fun f cdv A outer s H vs Q E hr h => ?_)
  · obtain ⟨a, L, e, cq, k, rfl, _⟩ := h; rfl
  · obtain ⟨a, L, e, cq, k, rfl, hE, hN, hQ⟩ := h
    refine ⟨_, (pss_one (ps_if (pt_val (C8.pe_c K_is_digit_of_count hr (by decide) rfl (pa_cons (pv 0) (pa_cons (pv 1) pa_nil)))) (pss_one (ps_fld (pv 0) (pe_callB (call_min2 rfl) (by rfl) G.b_min (by decide +kernel) (pa_cons (pe_op op_sub (pe_op op_add (pe_op op_mul (pe_fld (pv 0) rfl) pe_int) (pv 1)) (C8.pe_gc rfl G.c_DIGIT_0)) (pa_cons (C8.pe_gc rfl G.c_GREATEST_COUNT) pa_nil))) rfl)) (pss_one (ps_if (pt_cmpR (op_inW G.t_NEVER_STEPS) (pv 1) (C8.pe_gc rfl G.g_NEVER_STEPS) rfl) (pss_cons (ps_set (i := 2) sc_do_normal_key.nd rfl (Or.inl rfl) (pe_ix (ix_W G.t_NEVER_STEPS) (C8.pe_gc rfl G.g_NEVER_STEPS) (pv 1) (fun _ _ => rfl))) (pss_cons (ps_expr (pe_callM (k := 12) (i := 2) (hr.mono (by decide)) rfl (Or.inl rfl) (pa_cons (pv 0) pa_nil))) (pss_one (ps_expr (C8.pe_mt0 K_Editor_end_command hr (by decide) (pv 0)))))) (pss_one (ps_if (pt_not (pt_val (C8.pe_c K_begin_longer_command hr (by decide) rfl (pa_cons (pv 0) (pa_cons (pv 1) pa_nil))))) (pss_cons (ps_expr (C8.pe_c K_do_whole_command hr (by decide) rfl (pa_cons (pv 0) (pa_cons (pv 1) pa_nil)))) (pss_one (ps_expr (C8.pe_mt0 K_Editor_end_command_as_step hr (by decide) (pv 0))))) pss_nil)))))), ?_⟩
    have hst := hN.st
    have hcq : ([] ++ cq).take 500 = cq := List.take_of_length_le hN.cq
    refine ⟨_, rfl, _, rfl, a, L, e, cq, k, rfl, hE, _, rfl, dI (fun h1 => ?_) fun h1 => ?_⟩
    · rw [cmd_digit h1, hcq] at hQ
      refine ⟨_, rfl, a, C.ed, L.dx, _, _, rfl, hE.obj, G.k_Editor, G.n_Editor_count, lk_zip fe_count rfl, _, _, rfl, rfl, .inr ⟨by decide, by decide⟩, _, rfl, _, _, rfl, rfl, _, _, rfl, rfl, _, _, rfl, ?_⟩
      have e1 : (if (99 : Int) < ((e.count : Nat) : Int) * 10 + ((k : Nat) : Int) - 48 then (99 : Int) else ((e.count : Nat) : Int) * 10 + ((k : Nat) : Int) - 48) = ((min 99 (10 * e.count + (k - 48)) : Nat) : Int) := by
        split <;> omega
      rw [e1]
      refine ⟨_, rfl, a, C.ed, L.dx, _, rfl, hE.obj, G.k_Editor, G.n_Editor_count, ed_few _, ?_⟩
      rw [put_ed fe_count (edi (by decide))]
      obtain ⟨h2, f2⟩ := hE.put (L2 := L) (e2 := { e with count := min 99 (10 * e.count + (k - 48)) }) ⟨rfl, rfl, rfl, rfl, rfl, rfl, rfl, rfl, rfl, rfl, rfl, rfl, rfl, rfl, rfl, rfl, rfl⟩ hE.txt hE.sel hE.kept hE.pcs hE.srch hE.prm hE.last hE.mac
      exact hQ _ _ h2 f2
    have hd : ¬ isDigit k e := h1
    refine ⟨_, rfl, (k : Int), rfl, rfl, _, rfl, bI (fun h2 => ?_) fun h2 => ?_⟩
    · have hk := (in_never k).mp h2
      obtain ⟨n, hn, hf⟩ := nevers (P := P) (w := w) G TB hk
      refine ⟨_, rfl, (k : Int), n, rfl, rfl, hn, fun f2 g2 => ?_⟩
      obtain ⟨sp, hh, hsp⟩ := hf f2 g2
      refine ⟨f2, sp, rfl, hh, _, rfl, hsp a L e cq _ _ _ hE hN fun H2 L2 e2 h2 he f2 => ?_⟩
      refine ⟨_, rfl, a, L2.dx, _, rfl, h2.obj, lk_no ne_end_command, a, L2.dx, _, rfl, h2.obj, rfl, fun H3 p np g1 g2 g3 => ?_⟩
      obtain ⟨h4, f4⟩ := end_put h2 np g1 g2 g3
      rw [he] at h4
      exact hQ _ _ h4 (f2.trans f4)
    have hk : ¬ isNever k := fun z => by
      rw [(in_never k).mpr z] at h2
      cases h2
    refine ⟨_, rfl, _, rfl, a, L, e, cq, k, rfl, hE, hN.inv, fun hb H2 L2 h2 f2 => ⟨_, rfl, ?_⟩, fun hb ha H2 L2 h2 f2 => ⟨_, rfl, ?_⟩, fun hb ha => ⟨_, rfl, ?_⟩⟩
    · rw [cmd_begin hb, hcq] at hQ
      exact hQ _ _ h2 f2
    · rw [cmd_ask ha, hcq] at hQ
      exact hQ _ _ h2 f2
    · rw [cmd_else hd hk hb ha, hcq] at hQ
      obtain ⟨x, hx⟩ : ∃ x, e.ahead = some x := Option.ne_none_iff_exists'.mp hN.ah
      have hkp := (whole_keeps k e).1
      refine ⟨_, rfl, _, rfl, a, L, e, cq, k, rfl, hE, ⟨hN.inv, ⟨hN.sr⟩⟩, fun H2 L2 h2 f2 => ?_⟩
      exact ⟨_, rfl, a, L2.dx, _, rfl, h2.obj, lk_no ne_end_command_as_step, a, L2, _, cq, x, rfl, h2, hkp.ahead.trans hx, by rw [hkp.undo]; omega, fun H3 L3 h3 f3 => hQ _ _ h3 (f2.trans f3)⟩
end
end Ke
end
section
set_option maxHeartbeats 4500000
namespace Ke
open PySem PySem.Spec L2 LamX PyProof.Rows
open Ue15 (Sel Told Ed)
theorem one_tl {e : Ed} {s : Sel} : Tl { e with sels := [(s, true)] } := ⟨[s], 0, rfl, Nat.zero_lt_one⟩
theorem told_tl {e : Ed} {s : List Sel} {m : Nat} (h : m < s.length) : Tl { e with sels := told s m } := ⟨s, m, rfl, h⟩
/-- kept selections have a main one too -/
def KTl (e : Ed) : Prop := ∀ l, e.kept = some l → mains l = 1
theorem choosing_tl {e : Ed} (k : Nat) (t : Tl e) (hk : KTl e) : Tl (choosing k e) := by
  obtain ⟨s, m, es, hm⟩ := t
  have t : Tl e := ⟨s, m, es, hm⟩
  unfold choosing
  split
  · exact mapped_tl t
  split
  · exact mapped_tl t
  split
  · exact mapped_tl t
  split
  · exact one_tl
  split
  · exact mapped_tl t
  split
  · exact one_tl
  split
  · refine tl_iff.mpr ?_
    show mains (e.sels.zipIdx.map fun x => (x.1.1, x.2 == (Ue15.mainPlace e + Ue15.times e) % e.sels.length)) = 1
    rw [es, told_next, told_len]
    exact mains_told _ _ (Nat.mod_lt _ (by omega))
  split
  · exact t
  split
  · unfold keptOut
    split
    · exact t
    · rename_i l hl
      exact tl_iff.mpr (hk l hl)
  · exact t
theorem edits_tl {e : Ed} {r : List Ex} {f : Sel → Nat × Nat → Sel} (t : Tl e) (hr : r.length = e.sels.length) : Tl (Ue15.edits e r f) := by
  obtain ⟨s, m, es, hm⟩ := t
  by_cases hn : 200 < (Ue15.changed e.text 0 r).length
  · rw [edits_no hn]
    exact ⟨s, m, es, hm⟩
  · rw [edits_eq es hn]
    refine tl_iff.mpr (tidy_mains (mains_told _ _ ?_))
    rw [List.length_zipWith, places_len, hr, es, told_len, Nat.min_self]
    exact hm
/-! ### undoing -/
structure UOk (e e2 : Ed) : Prop where
  inv : EInv e2
  mode : e2.mode = e.mode
  keys : e2.keys = e.keys
  last : e2.last = e.last
  mac : e2.macro_ = e.macro_
  rec_ : e2.recording = e.recording
  srch : e2.search = e.search
  stp : e2.undo.length + e2.redo.length = e.undo.length + e.redo.length
theorem UOk.trans {a b c : Ed} (h : UOk a b) (k : UOk b c) : UOk a c := ⟨k.inv, k.mode.trans h.mode, k.keys.trans h.keys, k.last.trans h.last, k.mac.trans h.mac, k.rec_.trans h.rec_, k.srch.trans h.srch, k.stp.trans h.stp⟩
theorem undone_ok : ∀ (n : Nat) {e : Ed}, EInv e → UOk e (Ue15.undone n e)
  | 0, e, h => ⟨h, rfl, rfl, rfl, rfl, rfl, rfl, rfl⟩
  | n + 1, e, h => by
    unfold Ue15.undone
    split
    · exact ⟨h, rfl, rfl, rfl, rfl, rfl, rfl, rfl⟩
    · rename_i x l hu
      have gx := h.und x (by rw [hu]; exact List.mem_cons_self)
      have iv := h.text gx.1 gx.2
      refine UOk.trans (b := { Ue15.withText e x.1 with sels := x.2, undo := l, redo := (e.text, e.sels) :: e.redo }) ⟨⟨iv.txt, iv.sel, iv.kept, fun z hz => h.und z (by rw [hu]; exact List.mem_cons_of_mem _ hz), fun z hz => ?_, iv.ahd, iv.pcs, iv.cnt⟩, rfl, rfl, rfl, rfl, rfl, rfl, ?_⟩ (undone_ok n ?_)
      · rcases List.mem_cons.mp hz with z1 | z1
        · rw [z1]
          exact ⟨h.txt, h.sel⟩
        · exact h.red z z1
      · rw [hu]
        show l.length + (e.redo.length + 1) = (l.length + 1) + e.redo.length
        omega
      · refine ⟨iv.txt, iv.sel, iv.kept, fun z hz => h.und z (by rw [hu]; exact List.mem_cons_of_mem _ hz), fun z hz => ?_, iv.ahd, iv.pcs, iv.cnt⟩
        rcases List.mem_cons.mp hz with z1 | z1
        · rw [z1]
          exact ⟨h.txt, h.sel⟩
        · exact h.red z z1
theorem redone_ok : ∀ (n : Nat) {e : Ed}, EInv e → UOk e (Ue15.redone n e)
  | 0, e, h => ⟨h, rfl, rfl, rfl, rfl, rfl, rfl, rfl⟩
  | n + 1, e, h => by
    unfold Ue15.redone
    split
    · exact ⟨h, rfl, rfl, rfl, rfl, rfl, rfl, rfl⟩
    · rename_i x l hu
      have gx := h.red x (by rw [hu]; exact List.mem_cons_self)
      have iv := h.text gx.1 gx.2
      have fin : EInv { Ue15.withText e x.1 with sels := x.2, redo := l, undo := (e.text, e.sels) :: e.undo } := by
        refine ⟨iv.txt, iv.sel, iv.kept, fun z hz => ?_, fun z hz => h.red z (by rw [hu]; exact List.mem_cons_of_mem _ hz), iv.ahd, iv.pcs, iv.cnt⟩
        rcases List.mem_cons.mp hz with z1 | z1
        · rw [z1]
          exact ⟨h.txt, h.sel⟩
        · exact h.und z z1
      refine UOk.trans (b := { Ue15.withText e x.1 with sels := x.2, redo := l, undo := (e.text, e.sels) :: e.undo }) ⟨fin, rfl, rfl, rfl, rfl, rfl, rfl, ?_⟩ (redone_ok n fin)
      rw [hu]
      show (e.undo.length + 1) + l.length = e.undo.length + (l.length + 1)
      omega
/-! ### the first key of a command -/
theorem opened_ok {N : Nat} {e : Ed} (k : Nat) (h : FInv N e) : EInv (Ue15.opened e k) ∧ (Ue15.opened e k).ahead ≠ none ∧ (e.mode = .normal → ∀ x, (Ue15.opened e k).ahead = some x → x.1 = e.text) := by
  have ha : ∀ x, (Ue15.opened e k).ahead = some x → MGood x ∧ (e.mode = .normal → x.1 = e.text) := fun x hx => by
    have hx2 : (match e.ahead with
      | none => some (e.text, e.sels)
      | x => x) = some x := hx
    cases hq : e.ahead with
    | none =>
      rw [hq] at hx2
      cases hx2
      exact ⟨⟨h.inv.txt, h.inv.sel⟩, fun _ => rfl⟩
    | some y =>
      rw [hq] at hx2
      cases hx2
      exact ⟨h.inv.ahd _ hq, fun hm => h.nrm hm _ hq⟩
  refine ⟨⟨h.inv.txt, h.inv.sel, h.inv.kept, h.inv.und, h.inv.red, fun x hx => (ha x hx).1, h.inv.pcs, h.inv.cnt⟩, ?_, fun hm x hx => (ha x hx).2 hm⟩
  show (match e.ahead with
      | none => some (e.text, e.sels)
      | x => x) ≠ none
  cases e.ahead <;> simp
theorem endE_inv {N : Nat} {e : Ed} (h : EInv e) (hl : e.last.length ≤ N) (hm : e.macro_.length ≤ N) (hr : ∀ w, e.recording = some w → w.length ≤ N) (hs : e.search.length ≤ N) (hu : e.undo.length + e.redo.length ≤ N) : FInv N (endE e) :=
  ⟨⟨h.txt, h.sel, h.kept, h.und, h.red, (fun x z => by cases z), h.pcs, Nat.zero_le _⟩, (fun z => by cases z), (fun k w z => by cases z), (fun _ x z => by cases z), Nat.zero_le _, hl, hm, hr, hs, hu⟩
theorem Keeps.through {N : Nat} {d d2 : Ed} (k : Keeps d d2) (h : EInv d2) (hk : d.keys.length ≤ N) (hl : d.last.length ≤ N) (hm : d.macro_.length ≤ N) (hr : ∀ w, d.recording = some w → w.length ≤ N) (hs : d2.search.length ≤ N) (hu : d.undo.length + d.redo.length + 1 ≤ N) : FInv N (Ue15.through d2) :=
  through_inv h (by rw [k.keys]; exact hk) (by rw [k.last]; exact hl) (by rw [k.mac]; exact hm) (fun w hw => hr w (k.rec_ ▸ hw)) hs (by rw [k.undo, k.redo]; exact hu)
theorem Keeps.still {N : Nat} {d d2 : Ed} (k : Keeps d d2) (md : Ue15.Mode) (h : EInv d2) (h1 : md = .insert → CaretsL d2.sels) (h2 : ∀ k w, md = .prompt k w → isAsk k ∧ w.length ≤ N) (h3 : md ≠ .normal) (hk : d.keys.length ≤ N) (hl : d.last.length ≤ N) (hm : d.macro_.length ≤ N) (hr : ∀ w, d.recording = some w → w.length ≤ N) (hs : d2.search.length ≤ N) (hu : d.undo.length + d.redo.length ≤ N) : FInv N { d2 with mode := md } :=
  ⟨⟨h.txt, h.sel, h.kept, h.und, h.red, h.ahd, h.pcs, h.cnt⟩, h1, h2, (fun z => absurd z h3), by show d2.keys.length ≤ N; rw [k.keys]; exact hk, by show d2.last.length ≤ N; rw [k.last]; exact hl, by show d2.macro_.length ≤ N; rw [k.mac]; exact hm, (fun w hw => hr w (k.rec_ ▸ hw)), hs, by show d2.undo.length + d2.redo.length ≤ N; rw [k.undo, k.redo]; exact hu⟩
end Ke
end
section
set_option maxHeartbeats 4500000
namespace Ke
open PySem PySem.Spec L2 LamX PyProof.Rows
open Ue15 (Sel Told Ed)
theorem EdAt.ktl {C : Ca} {H : Hp} {a : Addr} {L : Lo} {e : Ed} {cq : List Nat} (h : EdAt C H a L e cq) : KTl e := fun l hl => by
  have hk := h.kept
  rw [hl] at hk
  obtain ⟨p, _, s, m, _, _, _, _, e1, e2⟩ := hk
  rw [e1]
  exact mains_told s m e2
theorem answered_keeps {e : Ed} {k : Nat} {w : List Nat} : Keeps e (Ue15.answered e k w) ∧ ((Ue15.answered e k w).search = e.search ∨ (Ue15.answered e k w).search = w) := by
  unfold Ue15.answered
  split
  · exact ⟨Keeps.refl e, .inl rfl⟩
  split
  · exact ⟨selects_keeps.1, .inl selects_keeps.2⟩
  split
  · exact ⟨selects_keeps.1, .inl selects_keeps.2⟩
  dsimp only
  have h0 : Keeps e { e with search := w } := ⟨rfl, rfl, rfl, rfl, rfl, rfl, rfl, rfl⟩
  split
  · exact ⟨h0.trans selects_keeps.1, .inr selects_keeps.2⟩
  split
  · exact ⟨h0.trans selects_keeps.1, .inr selects_keeps.2⟩
  · exact ⟨h0, .inr rfl⟩
theorem mapped_keeps {e : Ed} {f : Sel → Sel} : Keeps e (Ue15.mapped e f) ∧ (Ue15.mapped e f).search = e.search := ⟨⟨rfl, rfl, rfl, rfl, rfl, rfl, rfl, rfl⟩, rfl⟩
theorem same_mode {N : Nat} {d2 : Ed} {md : Ue15.Mode} (h : FInv N { d2 with mode := md }) (e : d2.mode = md) : FInv N d2 := by
  subst e
  exact h
theorem rub_ok {d : Ed} (h : EInv d) (t : Tl d) (hc : CaretsL d.sels) : EInv (rubE d) ∧ CaretsL (rubE d).sels := by
  obtain ⟨s, m, es, hm⟩ := t
  obtain ⟨ha, hb⟩ := h.ap es
  obtain ⟨_, hin⟩ := h.hands es
  have hcs : ∀ x ∈ s, x.anchor = x.hand ∧ x.hand ≤ d.text.length := fun x hx => by
    obtain ⟨b, hb⟩ := told_mem (m := m) hx
    rw [← es] at hb
    exact ⟨hc _ hb, (hin x hx).2⟩
  have ho : OrdF d.text.length 0 (d.sels.map fun x => ((x.1.hand - 1, x.1.hand, []) : Ex)) := by
    rw [es, told_fst s m fun x => ((x.hand - 1, x.hand, []) : Ex)]
    exact ord_rub ha hcs fun _ _ _ => Nat.zero_le _
  exact ⟨edits_good es h ho fun _ p _ => caret_le (Nat.le_refl _), edits_carets ⟨s, m, es, hm⟩ (.inl hc)⟩
theorem key_inv {N : Nat} {e : Ed} (k : Nat) (h : FInv N e) (t : Tl e) (kt : KTl e) : FInv (N + 1) (Ue15.key e k).1 := by
  obtain ⟨iO, aO, nO⟩ := opened_ok k h
  have hkeys := h.keys
  have hstp := h.stp
  have hlast := h.last
  have hmac := h.mac
  have hsrch := h.srch
  have tO : Tl (Ue15.opened e k) := t
  have k1 : (Ue15.opened e k).keys.length ≤ N + 1 := by
    show (e.keys ++ [k]).length ≤ N + 1
    rw [List.length_append]
    show e.keys.length + 1 ≤ N + 1
    omega
  have k2 : (Ue15.opened e k).last.length ≤ N + 1 := Nat.le_succ_of_le hlast
  have k3 : (Ue15.opened e k).macro_.length ≤ N + 1 := Nat.le_succ_of_le hmac
  have k4 : ∀ w, (Ue15.opened e k).recording = some w → w.length ≤ N + 1 := fun w hw => Nat.le_succ_of_le (h.rec_ w hw)
  have k5 : (Ue15.opened e k).search.length ≤ N + 1 := Nat.le_succ_of_le hsrch
  have k6 : (Ue15.opened e k).undo.length + (Ue15.opened e k).redo.length + 1 ≤ N + 1 := Nat.succ_le_succ hstp
  have k7 : (Ue15.opened e k).undo.length + (Ue15.opened e k).redo.length ≤ N + 1 := Nat.le_of_succ_le k6
  have mO : (Ue15.opened e k).mode = e.mode := rfl
  have kO : KTl (Ue15.opened e k) := kt
  have xO : (Ue15.opened e k).text = e.text := rfl
  have cO : CaretsL e.sels → CaretsL (Ue15.opened e k).sels := fun z => z
  unfold Ue15.key
  cases hmd : e.mode with
  | normal =>
    dsimp only
    split
    · exact endE_inv (e := e) h.inv (Nat.le_succ_of_le hlast) (Nat.le_succ_of_le hmac) (fun w hw => Nat.le_succ_of_le (h.rec_ w hw)) (Nat.le_succ_of_le hsrch) (Nat.le_succ_of_le hstp)
    · rw [hmd] at mO
      have nO := nO hmd
      generalize Ue15.opened e k = d at *
      by_cases c1 : isDigit k d
      · rw [cmd_digit c1]
        exact ⟨⟨iO.txt, iO.sel, iO.kept, iO.und, iO.red, iO.ahd, iO.pcs, Nat.min_le_left _ _⟩, (fun z => by rw [show d.mode = _ from z] at mO; cases mO), (fun k w z => by rw [show d.mode = _ from z] at mO; cases mO), (fun _ x hx => (nO x hx).trans xO.symm), k1, k2, k3, k4, k5, k7⟩
      by_cases c2 : isNever k
      · rcases c2 with rfl | rfl | rfl | rfl
        · rw [cmd_u]
          have u := undone_ok (Ue15.times d) iO
          exact endE_inv u.inv (by rw [u.last]; exact k2) (by rw [u.mac]; exact k3) (fun w hw => k4 w (u.rec_ ▸ hw)) (by rw [u.srch]; exact k5) (by rw [u.stp]; exact k7)
        · rw [cmd_U]
          have u := redone_ok (Ue15.times d) iO
          exact endE_inv u.inv (by rw [u.last]; exact k2) (by rw [u.mac]; exact k3) (fun w hw => k4 w (u.rec_ ▸ hw)) (by rw [u.srch]; exact k5) (by rw [u.stp]; exact k7)
        · rw [cmd_dot]
          exact endE_inv iO k2 k3 k4 k5 k7
        · rw [cmd_at]
          exact endE_inv iO k2 k3 k4 k5 k7
      by_cases c3 : isBegin k
      · rw [cmd_begin c3]
        rcases c3 with rfl | rfl | rfl | rfl | rfl
        · exact (mapped_keeps (e := d) (f := fun s => Ue15.caret (Ue15.lo s))).1.still .insert (mapped_good iO fun s h1 h2 => caret_le (Nat.le_trans (lo_hi s) (hi_le ⟨h1, h2⟩))) (fun _ => mapped_carets Ue15.lo) (fun k w z => by cases z) (fun z => by cases z) k1 k2 k3 k4 k5 k7
        · exact (mapped_keeps (e := d) (f := fun s => Ue15.caret (Ue15.hi s))).1.still .insert (mapped_good iO fun s h1 h2 => caret_le (hi_le ⟨h1, h2⟩)) (fun _ => mapped_carets Ue15.hi) (fun k w z => by cases z) (fun z => by cases z) k1 k2 k3 k4 k5 k7
        · exact (taken_keeps d).1.still .insert (taken_inv iO tO) (fun _ => taken_carets iO tO) (fun k w z => by cases z) (fun z => by cases z) k1 k2 k3 k4 (by rw [(taken_keeps d).2]; exact k5) k7
        · have im : EInv (Ue15.mapped d fun s => Ue15.caret (Ue15.lineEnd d.text (Ue15.hi s))) := mapped_good iO fun s h1 h2 => caret_le (on_le (hi_le ⟨h1, h2⟩))
          have tm : Tl (Ue15.mapped d fun s => Ue15.caret (Ue15.lineEnd d.text (Ue15.hi s))) := mapped_tl tO
          have ke := edits_keeps (e := Ue15.mapped d fun s => Ue15.caret (Ue15.lineEnd d.text (Ue15.hi s))) (r := (Ue15.mapped d fun s => Ue15.caret (Ue15.lineEnd d.text (Ue15.hi s))).sels.map fun x => (Ue15.lo x.1, Ue15.hi x.1, [10])) (f := fun _ x => Ue15.caret x.2)
          exact (mapped_keeps.1.trans ke.1).still .insert (typed_inv im tm) (fun _ => edits_carets tm (.inl (mapped_carets _))) (fun k w z => by cases z) (fun z => by cases z) k1 k2 k3 k4 (by rw [ke.2]; exact k5) k7
        · exact (Keeps.refl d).still .byte iO (fun z => by cases z) (fun k w z => by cases z) (fun z => by cases z) k1 k2 k3 k4 k5 k7
      by_cases c4 : isAsk k
      · rw [cmd_ask c4]
        exact (Keeps.refl d).still (.prompt k []) iO (fun z => by cases z) (fun k2 w z => by cases z; exact ⟨c4, Nat.zero_le _⟩) (fun z => by cases z) k1 k2 k3 k4 k5 k7
      · rw [cmd_else c1 c2 c3 c4]
        have hw := whole_keeps k d
        have i1 := choosing_inv k iO tO
        have i2 := editing_inv k i1 (choosing_tl k tO kO)
        exact hw.1.through (finding_inv k i2) k1 k2 k3 k4 (by rw [hw.2]; exact k5) k6
  | insert =>
    dsimp only
    have hc := cO (h.ins hmd)
    rw [hmd] at mO
    generalize Ue15.opened e k = d at *
    split
    · exact (Keeps.refl d).through iO k1 k2 k3 k4 k5 k6
    split
    · obtain ⟨r1, r2⟩ := rub_ok iO tO hc
      have ke := edits_keeps (e := d) (r := d.sels.map fun x => (x.1.hand - 1, x.1.hand, [])) (f := fun _ x => Ue15.caret x.2)
      have := ke.1.still (N := N + 1) .insert r1 (fun _ => r2) (fun k w z => by cases z) (fun z => by cases z) k1 k2 k3 k4 (by rw [ke.2]; exact k5) k7
      exact same_mode this (ke.1.mode.trans mO)
    · have ke := edits_keeps (e := d) (r := d.sels.map fun x => (Ue15.lo x.1, Ue15.hi x.1, [k])) (f := fun _ x => Ue15.caret x.2)
      have := ke.1.still (N := N + 1) .insert (typed_inv (w := [k]) iO tO) (fun _ => edits_carets tO (.inl hc)) (fun k w z => by cases z) (fun z => by cases z) k1 k2 k3 k4 (by rw [ke.2]; exact k5) k7
      exact same_mode this (ke.1.mode.trans mO)
  | prompt c w =>
    dsimp only
    obtain ⟨ha, hw⟩ := h.prm c w hmd
    generalize Ue15.opened e k = d at *
    split
    · exact (Keeps.refl d).through iO k1 k2 k3 k4 k5 k6
    split
    · have ka := answered_keeps (e := d) (k := c) (w := w)
      refine ka.1.through (answered_inv iO ha) k1 k2 k3 k4 ?_ k6
      rcases ka.2 with z | z
      · rw [z]
        exact k5
      · rw [z]
        exact Nat.le_succ_of_le hw
    split
    · exact (Keeps.refl d).still (.prompt c w.dropLast) iO (fun z => by cases z) (fun k2 w2 z => by cases z; exact ⟨ha, by rw [List.length_dropLast]; omega⟩) (fun z => by cases z) k1 k2 k3 k4 k5 k7
    · exact (Keeps.refl d).still (.prompt c (w ++ [k])) iO (fun z => by cases z) (fun k2 w2 z => by cases z; exact ⟨ha, by rw [List.length_append]; show w.length + 1 ≤ N + 1; omega⟩) (fun z => by cases z) k1 k2 k3 k4 k5 k7
  | byte =>
    dsimp only
    generalize Ue15.opened e k = d at *
    split
    · exact (Keeps.refl d).through iO k1 k2 k3 k4 k5 k6
    · obtain ⟨s, m, es, hm⟩ := tO
      have ke := edits_keeps (e := d) (r := d.sels.map fun x => (Ue15.lo x.1, Ue15.hi x.1, (Ue15.slice d.text (Ue15.lo x.1) (Ue15.hi x.1)).map fun b => if b = 10 then 10 else k)) (f := fun s x => Ue15.facing s x.1 x.2)
      exact ke.1.through (edits_good es iO (sels_ord iO ⟨s, m, es, hm⟩) face_hi) k1 k2 k3 k4 (by rw [ke.2]; exact k5) k6
end Ke
end
section
set_option maxHeartbeats 4500000
namespace Ke
open PySem PySem.Spec L2 LamX PyProof.Rows
open Ue15 (Sel Told Ed)
section
variable {P : Program} {w : World} {K : PySem.W.Frag} {mg : Str → Option Value} {base : Heap} {C : Ca}
def sp_do_key (C : Ca) : Sp := fun vs H Q _ => ∃ (N : Nat) (a : Addr) (L : Lo) (e : Ed) (cq : List Nat) (k : Nat), vs = [.ref a, .int (k : Nat)] ∧ EdAt C H a L e cq ∧ FInv N e ∧ N ≤ 4000000 ∧ cq.length ≤ 500 ∧
  ∀ H2 L2, EdAt C H2 a L2 (Ue15.key e k).1 (((Ue15.key e k).2 ++ cq).take 500) → Fr2 C a L H L2 H2 → Q .non H2
theorem key_27 {N : Nat} {e : Ed} (h : FInv N e) (hm : e.mode = .normal) : Ue15.through (Ue15.opened e 27) = endE e := by
  obtain ⟨_, h2, h3⟩ := opened_ok 27 h
  obtain ⟨x, hx⟩ : ∃ x, (Ue15.opened e 27).ahead = some x := Option.ne_none_iff_exists'.mp h2
  rw [thr_eq hx (h3 hm x hx)]
  rfl
theorem k_do_key (G : Gs K mg C) (TB : TabB base mg C.tc C.tP) : C8.Cal P w K mg base 14 "do_key" (sp_do_key C) [] := by
  have K_Editor_add_to_command := k_Editor_add_to_command (P := P) (w := w) (base := base) G
  have K_do_byte_of_r := k_do_byte_of_r (P := P) (w := w) (base := base) G TB
  have K_do_insert_key := k_do_insert_key (P := P) (w := w) (base := base) G TB
  have K_do_normal_key := k_do_normal_key (P := P) (w := w) (base := base) G TB
  have K_do_prompt_key := k_do_prompt_key (P := P) (w := w) (base := base) G TB
  refine cal_of G.d_do_key sc_do_key (fun _ _ _ _ _ _ us hl => match us, hl with | [_, _], _ => rfl) (fun vs H Q E h => ?_) (fun f cdv A outer s H vs Q E hr h => ?_)
  · obtain ⟨N, a, L, e, cq, k, rfl, _⟩ := h; rfl
  · obtain ⟨N, a, L, e, cq, k, rfl, hE, hF, hN, hcl, hQ⟩ := h
    refine ⟨_, (pss_cons (ps_expr (C8.pe_mt K_Editor_add_to_command hr (by decide) (pv 0) (pa_cons (pv 1) pa_nil))) (pss_one (ps_if (pt_cmpR op_eq (pe_fld (pv 0) rfl) (C8.pe_gc rfl G.c_INSERT) (nomark _)) (pss_one (ps_expr (C8.pe_c K_do_insert_key hr (by decide) rfl (pa_cons (pv 0) (pa_cons (pv 1) pa_nil))))) (pss_one (ps_if (pt_cmpR op_eq (pe_fld (pv 0) rfl) (C8.pe_gc rfl G.c_PROMPT) (nomark _)) (pss_one (ps_expr (C8.pe_c K_do_prompt_key hr (by decide) rfl (pa_cons (pv 0) (pa_cons (pv 1) pa_nil))))) (pss_one (ps_if (pt_cmpR op_eq (pe_fld (pv 0) rfl) (C8.pe_gc rfl G.c_BYTE_OF_R) (nomark _)) (pss_one (ps_expr (C8.pe_c K_do_byte_of_r hr (by decide) rfl (pa_cons (pv 0) (pa_cons (pv 1) pa_nil))))) (pss_one (ps_expr (C8.pe_c K_do_normal_key hr (by decide) rfl (pa_cons (pv 0) (pa_cons (pv 1) pa_nil)))))))))))), ?_⟩
    have hkl := hF.keys
    have hst := hF.stp
    obtain ⟨iO, aO, nO⟩ := opened_ok k hF
    have hcq : ([] ++ cq).take 500 = cq := List.take_of_length_le hcl
    refine ⟨_, rfl, a, L.dx, _, rfl, hE.obj, lk_no ne_add_to_command, _, rfl, a, L, e, cq, k, rfl, hE, by omega, fun H1 L1 h1 f1 => ?_⟩
    have uO : Under (Ue15.opened e k) := ⟨aO, by show e.undo.length ≤ 5000000; omega⟩
    have nOk : NOk (Ue15.opened e k) cq := ⟨iO, aO, by show e.undo.length + e.redo.length ≤ 5000000; omega, Nat.le_trans hF.last (by omega), Nat.le_trans hF.mac (by omega), Nat.le_trans hF.srch (by omega), hcl⟩
    have mO : (Ue15.opened e k).mode = e.mode := rfl
    refine ⟨_, rfl, a, C.ed, L1.dx, _, _, rfl, h1.obj, G.k_Editor, G.n_Editor_mode, lk_zip fe_mode rfl, rfl, _, rfl, dI (fun z => ?_) fun z => ?_⟩
    · have z2 : Ue15.modeOf e.mode = 1 := int_eq z
      have hmd : e.mode = .insert := by
        cases hm : e.mode <;> rw [hm] at z2 <;> first | rfl | cases z2
      have ek : Ue15.key e k = (insertKey k (Ue15.opened e k), []) := by
        unfold Ue15.key insertKey
        rw [hmd]
        dsimp only
        split
        · rfl
        split <;> rfl
      rw [ek, hcq] at hQ
      exact ⟨_, rfl, _, rfl, a, L1, _, cq, k, rfl, h1, ⟨iO, uO, hF.ins hmd⟩, fun H2 L2 h2 f2 => hQ _ _ h2 (f1.trans f2)⟩
    have z1 : Ue15.modeOf e.mode ≠ 1 := int_ne z
    refine ⟨_, rfl, a, C.ed, L1.dx, _, _, rfl, h1.obj, G.k_Editor, G.n_Editor_mode, lk_zip fe_mode rfl, rfl, _, rfl, dI (fun y => ?_) fun y => ?_⟩
    · have y2 : Ue15.modeOf e.mode = 2 := int_eq y
      obtain ⟨c, wt, hmd⟩ : ∃ c wt, e.mode = .prompt c wt := by
        cases hm : e.mode <;> rw [hm] at y2 <;> first | exact ⟨_, _, rfl⟩ | cases y2
      obtain ⟨ha, hw⟩ := hF.prm c wt hmd
      have ek : Ue15.key e k = (promptKey c wt k (Ue15.opened e k), []) := by
        unfold Ue15.key promptKey
        rw [hmd]
        dsimp only
        split
        · rfl
        split
        · rfl
        split <;> rfl
      rw [ek, hcq] at hQ
      exact ⟨_, rfl, _, rfl, a, L1, _, cq, k, c, wt, rfl, h1, iO, uO, hmd, ha, by omega, fun H2 L2 h2 f2 => hQ _ _ h2 (f1.trans f2)⟩
    have y1 : Ue15.modeOf e.mode ≠ 2 := int_ne y
    refine ⟨_, rfl, a, C.ed, L1.dx, _, _, rfl, h1.obj, G.k_Editor, G.n_Editor_mode, lk_zip fe_mode rfl, rfl, _, rfl, dI (fun x => ?_) fun x => ?_⟩
    · have x2 : Ue15.modeOf e.mode = 3 := int_eq x
      have hmd : e.mode = .byte := by
        cases hm : e.mode <;> rw [hm] at x2 <;> first | rfl | cases x2
      have ek : Ue15.key e k = (if k = 27 then Ue15.through (Ue15.opened e k) else Ue15.through (byteE k (Ue15.opened e k)), []) := by
        unfold Ue15.key byteE
        rw [hmd]
        dsimp only
        split <;> rfl
      rw [ek, hcq] at hQ
      exact ⟨_, rfl, _, rfl, a, L1, _, cq, k, rfl, h1, ⟨iO, uO⟩, fun H2 L2 h2 f2 => hQ _ _ h2 (f1.trans f2)⟩
    · have x1 : Ue15.modeOf e.mode ≠ 3 := int_ne x
      have hmd : e.mode = .normal := by
        cases hm : e.mode <;> rw [hm] at z1 y1 x1 <;> first | rfl | exact absurd rfl z1 | exact absurd rfl y1 | exact absurd rfl x1
      refine ⟨_, rfl, _, rfl, a, L1, _, cq, k, rfl, h1, nOk, fun H2 L2 h2 f2 => hQ _ _ ?_ (f1.trans f2)⟩
      have ek : Ue15.key e k = Ue15.command (Ue15.opened e k) k := by
        unfold Ue15.key
        rw [hmd]
        dsimp only
        split
        · rename_i hk
          subst hk
          have e1 : Ue15.command (Ue15.opened e 27) 27 = (Ue15.through (Ue15.opened e 27), []) := rfl
          rw [e1, key_27 hF hmd]
          rfl
        · rfl
      rw [ek]
      exact h2
theorem runs_take : ∀ (f : Nat) (e : Ed) (l : List Nat) (m : Nat), f ≤ m → Ue15.runs f e (l.take m) = Ue15.runs f e l
  | 0, _, _, _, _ => rfl
  | f + 1, e, [], m, _ => by rw [List.take_nil]
  | f + 1, e, k :: l, m, h => by
    obtain ⟨m, rfl⟩ : ∃ n, m = n + 1 := ⟨m - 1, by omega⟩
    show Ue15.runs f (Ue15.key e k).1 ((Ue15.key e k).2 ++ l.take m) = Ue15.runs f (Ue15.key e k).1 ((Ue15.key e k).2 ++ l)
    rw [← runs_take f _ ((Ue15.key e k).2 ++ l.take m) f (Nat.le_refl _), ← runs_take f _ ((Ue15.key e k).2 ++ l) f (Nat.le_refl _)]
    congr 1
    rw [List.take_append, List.take_append, List.take_take]
    congr 2
    omega
theorem runs_nil (f : Nat) (e : Ed) : Ue15.runs f e [] = e := by
  cases f <;> rfl
theorem pop_at {x : Nat} {l : List Nat} : seqIndex? 0 (iL (x :: l)).length = some 0 := by
  unfold seqIndex?
  simp
def sp_do_with_what_comes (C : Ca) : Sp := fun vs H Q _ => ∃ (N : Nat) (a : Addr) (L : Lo) (e : Ed) (cq : List Nat) (k : Nat), vs = [.ref a, .int (k : Nat)] ∧ EdAt C H a L e cq ∧ FInv N e ∧ N ≤ 3000000 ∧
  ∀ H2 L2, EdAt C H2 a L2 (Ue15.runs Ue15.MOST e [k]) [] → FInv (N + 500) (Ue15.runs Ue15.MOST e [k]) → Fr2 C a L H L2 H2 → Q .non H2
/-- the list of what comes loses its first -/
theorem com_pop {H : Hp} {a : Addr} {L : Lo} {e : Ed} {cq c2 : List Nat} (hE : EdAt C H a L e cq) : EdAt C (upd H L.pq (.lst (iL c2))) a L e c2 ∧ Fr2 C a L H L (upd H L.pq (.lst (iL c2))) := by
  have hv : vis (edM C a L) (upd H L.pq (.lst (iL c2))) = vis (edM C a L) H := vis_put pq_in
  obtain ⟨n1, n2, n3, n4, n5, n6, n7, n8, n9, n10, _⟩ := hE.nes
  refine ⟨⟨?_, tb_put hE.tb ⟨_, hE.com⟩, hE.nd, by rw [hv]; exact hE.txt, by rw [hv]; exact hE.sel, by rw [hv]; exact hE.kept, by rw [hv]; exact hE.pcs, by rw [hv]; exact hE.srch, by rw [hv]; exact hE.prm, ?_, by rw [hv]; exact hE.undP, ?_, by rw [hv]; exact hE.redP, by rw [hv]; exact hE.last, by rw [hv]; exact hE.mac, hE.rec_.other n10, upd_same, ?_, by rw [hv]; exact hE.bef, hE.emp⟩, ?_⟩
  · rw [upd_ne (ne_of hE.obj hE.com (by intro z; cases z))]
    exact hE.obj
  · rw [upd_ne n6]
    exact hE.und
  · rw [upd_ne n8]
    exact hE.red
  · show upd _ _ _ _ = _
    rw [upd_ne n3]
    exact hE.way
  · show ExtN _ (vis _ _)
    rw [hv]
    exact ExtN.refl _
theorem FInv.mono {N M : Nat} {e : Ed} (h : FInv N e) (hm : N ≤ M) : FInv M e := ⟨h.inv, h.ins, fun k w z => ⟨(h.prm k w z).1, Nat.le_trans (h.prm k w z).2 hm⟩, h.nrm, Nat.le_trans h.keys hm, Nat.le_trans h.last hm, Nat.le_trans h.mac hm, fun w z => Nat.le_trans (h.rec_ w z) hm, Nat.le_trans h.srch hm, Nat.le_trans h.stp hm⟩
theorem k_do_with_what_comes (G : Gs K mg C) (TB : TabB base mg C.tc C.tP) : C8.Cal P w K mg base 15 "do_with_what_comes" (sp_do_with_what_comes C) [] := by
  have K_do_key := k_do_key (P := P) (w := w) (base := base) G TB
  refine cal_of G.d_do_with_what_comes sc_do_with_what_comes (fun _ _ _ _ _ _ us hl => match us, hl with | [_, _], _ => rfl) (fun vs H Q E h => ?_) (fun f cdv A outer s H vs Q E hr h => ?_)
  · obtain ⟨N, a, L, e, cq, k, rfl, _⟩ := h; rfl
  · obtain ⟨N, a, L, e, cq, k, rfl, hE, hF, hN, hQ⟩ := h
    refine ⟨_, (pss_cons (ps_fld (pv 0) (pe_lst (pa_cons (pv 1) pa_nil)) rfl) (pss_cons (ps_set (i := 2) sc_do_with_what_comes.nd rfl (Or.inl rfl) (C8.pe_gc rfl G.c_MOST_KEYS_FOR_ONE)) (C8.pss_cut (ps_while PassesOwn.never (PW.pt (pw_and (pt_truth (pe_fld (pv 0) rfl) (by intro _; rfl)) (pw_and1 (pt_cmpR op_gt (pv 2) pe_int (nomark _))))) (pss_cons (ps_aug (i := 2) sc_do_with_what_comes.nd rfl (Or.inl rfl) pe_int ip_sub) (pss_one (ps_expr (C8.pe_c K_do_key hr (by decide) rfl (pa_cons (pv 0) (pa_cons (pe_bm PySem.F.plainAttrs_list PySem.F.slot_list_pop PySem.F.type_list_pop mt_popAt (pe_fld (pv 0) rfl) (pa_cons pe_int pa_nil)) pa_nil))))))) (pss_one (ps_fld (pv 0) (pe_lst pa_nil) rfl))))), ?_⟩
    refine ⟨_, rfl, Nat.le_of_lt (szl (by show 1 ≤ 10000000; decide)), fun z nz => ?_⟩
    have nza : z ≠ a := fun y => by
      rw [y, hE.obj] at nz
      cases nz
    refine ⟨_, rfl, a, C.ed, L.dx, _, rfl, by rw [upd_ne (Ne.symm nza)]; exact hE.obj, G.k_Editor, G.n_Editor_coming, ed_few _, ?_⟩
    rw [put_ed fe_coming (edi (by decide))]
    obtain ⟨h1, f1⟩ := com_put (c2 := [k]) hE nz (H2 := upd (upd H z (.lst [V.int (k : Nat)])) a (.ins C.ed L.dx (nEd.zip ((edV e L).set 14 (.ref z))))) upd_same (by rw [upd_ne nza, upd_same]; rfl) fun b o hb hn => by
      rw [upd_ne hn, upd_ne (ne_of_none hb nz)]
      exact hb
    refine ⟨fun σ H2 => (∃ v, σ = [some (.ref a), some (.int (k : Nat)), v]) ∧ ∃ L2 e2 c2, EdAt C H2 a L2 e2 c2 ∧ Fr2 C a L H L2 H2 ∧ FInv (N + 500) e2 ∧ e2 = Ue15.runs 500 e [k], ?_, ?_⟩
    · refine ⟨fun m σ H2 => m ≤ 500 ∧ σ = [some (.ref a), some (.int (k : Nat)), some (.int (m : Nat))] ∧ ∃ L2 e2 c2, EdAt C H2 a L2 e2 c2 ∧ Fr2 C a L H L2 H2 ∧ FInv (N + (500 - m)) e2 ∧ c2.length ≤ 500 ∧ Ue15.runs m e2 c2 = Ue15.runs 500 e [k], ⟨500, Nat.le_refl _, rfl, _, e, [k], h1, f1, hF.mono (by omega), by show 1 ≤ 500; decide, rfl⟩, ?_⟩
      rintro m σ H2 ⟨hm, rfl, L2, e2, c2, h2, f2, hF2, hc2, er⟩
      refine ⟨_, rfl, a, C.ed, L2.dx, _, _, rfl, h2.obj, G.k_Editor, G.n_Editor_coming, lk_zip fe_coming rfl, _, .inl ⟨_, SqL.of h2.com, rfl⟩, ?_⟩
      cases c2 with
      | nil =>
        have e1 : (!(iL []).isEmpty) = false := rfl
        rw [e1]
        exact ⟨⟨_, rfl⟩, L2, e2, [], h2, f2, hF2.mono (by omega), by rw [← er, runs_nil]⟩
      | cons k0 c3 =>
        have e1 : (!(iL (k0 :: c3)).isEmpty) = true := rfl
        rw [e1]
        refine ⟨_, rfl, _, _, rfl, rfl, _, rfl, dI (fun h0 => ?_) fun h0 => ?_⟩
        · obtain ⟨j, rfl⟩ : ∃ j, m = j + 1 := ⟨m - 1, by omega⟩
          refine ⟨fun σ3 H3 => j ≤ 500 ∧ σ3 = [some (.ref a), some (.int (k : Nat)), some (.int (j : Nat))] ∧ ∃ L2 e2 c2, EdAt C H3 a L2 e2 c2 ∧ Fr2 C a L H L2 H3 ∧ FInv (N + (500 - j)) e2 ∧ c2.length ≤ 500 ∧ Ue15.runs j e2 c2 = Ue15.runs 500 e [k], fun σ3 H3 h => ⟨j, Nat.lt_succ_self j, h⟩, ?_⟩
          have ej : (((j + 1 : Nat) : Int) - 1) = (j : Nat) := by omega
          obtain ⟨h3, f3⟩ := com_pop (c2 := c3) h2
          rw [List.length_cons] at hc2
          refine (⟨_, rfl, _, _, rfl, rfl, ?_⟩)
          refine ⟨_, rfl, _, rfl, a, C.ed, L2.dx, _, _, rfl, h2.obj, G.k_Editor, G.n_Editor_coming, lk_zip fe_coming rfl, .inl ⟨rfl, _, SqL.of h2.com⟩, L2.pq, _, 0, 0, _, rfl, rfl, h2.com, by decide, by decide, pop_at, rfl, ?_⟩
          refine ⟨N + (500 - (j + 1)), a, L2, e2, c3, k0, rfl, h3, hF2, by omega, by omega, fun H4 L4 h4 f4 => ⟨by omega, ?_, L4, _, _, h4, (f2.trans f3).trans f4, ?_, ?_, ?_⟩⟩
          · show [some (V.ref a), some (V.int (k : Nat)), some (V.int (((j + 1 : Nat) : Int) - 1))] = _
            rw [ej]
          · exact (key_inv k0 hF2 h2.tl h2.ktl).mono (by omega)
          · rw [List.length_take]
            omega
          · rw [runs_take j _ _ 500 (by omega), ← er]
            rfl
        · have e0 : m = 0 := by omega
          subst e0
          exact ⟨⟨_, rfl⟩, L2, e2, _, h2, f2, hF2.mono (by omega), er⟩
    · rintro σ H2 ⟨⟨v, rfl⟩, L2, e2, c2, h2, f2, hF2, er⟩
      subst er
      refine ⟨Nat.zero_le _, fun y ny => ?_⟩
      have nya : y ≠ a := fun z => by
        rw [z, h2.obj] at ny
        cases ny
      refine ⟨_, rfl, a, C.ed, L2.dx, _, rfl, by rw [upd_ne (Ne.symm nya)]; exact h2.obj, G.k_Editor, G.n_Editor_coming, ed_few _, ?_⟩
      rw [put_ed fe_coming (edi (by decide))]
      obtain ⟨h5, f5⟩ := com_put (c2 := []) h2 ny (H2 := upd (upd H2 y (.lst [])) a (.ins C.ed L2.dx (nEd.zip ((edV (Ue15.runs 500 e [k]) L2).set 14 (.ref y))))) upd_same (by rw [upd_ne nya, upd_same]; rfl) fun b o hb hn => by
        rw [upd_ne hn, upd_ne (ne_of_none hb ny)]
        exact hb
      exact hQ _ _ h5 hF2 (f2.trans f5)
end
end Ke
end
section
set_option maxHeartbeats 4500000
namespace Ke
open PySem PySem.Spec L2 LamX PyProof.Rows
open Ue15 (Sel Told Ed)
def noted (e : Ed) (k : Nat) : Ed := match e.recording with
  | none => e
  | some w => { e with recording := some (w ++ [k]) }
theorem noted_inv {N : Nat} {e : Ed} {k : Nat} (h : FInv N e) : FInv (N + 1) (noted e k) := by
  unfold noted
  split
  · exact h.mono (Nat.le_succ N)
  · rename_i wt hw
    have h1 := h.rec_ wt hw
    have h2 := h.mono (Nat.le_succ N)
    exact ⟨⟨h.inv.txt, h.inv.sel, h.inv.kept, h.inv.und, h.inv.red, h.inv.ahd, h.inv.pcs, h.inv.cnt⟩, h.ins, h2.prm, h.nrm, h2.keys, h2.last, h2.mac, (fun v hv => by
      cases hv
      rw [List.length_append]
      show wt.length + 1 ≤ N + 1
      omega), h2.srch, h2.stp⟩
theorem recE_inv {N : Nat} {e : Ed} (h : FInv N e) : FInv N (recE e) := by
  have h1 := endE_inv (e := e) h.inv h.last h.mac h.rec_ h.srch h.stp
  unfold recE
  split
  · exact ⟨⟨h1.inv.txt, h1.inv.sel, h1.inv.kept, h1.inv.und, h1.inv.red, h1.inv.ahd, h1.inv.pcs, h1.inv.cnt⟩, h1.ins, h1.prm, h1.nrm, h1.keys, h1.last, h1.mac, (fun v hv => by cases hv; exact Nat.zero_le _), h1.srch, h1.stp⟩
  · rename_i wt hw
    exact ⟨⟨h1.inv.txt, h1.inv.sel, h1.inv.kept, h1.inv.und, h1.inv.red, h1.inv.ahd, h1.inv.pcs, h1.inv.cnt⟩, h1.ins, h1.prm, h1.nrm, h1.keys, h1.last, h.rec_ wt hw, (fun v hv => by cases hv), h1.srch, h1.stp⟩
theorem press_q {e : Ed} {k : Nat} (h : k = 113 ∧ e.mode = .normal) : Ue15.press e k = recE e := by
  unfold Ue15.press recE
  rw [if_pos h]
  cases e.recording <;> rfl
theorem press_k {e : Ed} {k : Nat} (h : ¬ (k = 113 ∧ e.mode = .normal)) : Ue15.press e k = Ue15.runs Ue15.MOST (noted e k) [k] := by
  unfold Ue15.press noted
  rw [if_neg h]
  cases e.recording <;> rfl
section
variable {P : Program} {w : World} {K : PySem.W.Frag} {mg : Str → Option Value} {base : Heap} {C : Ca}
def sp_press (C : Ca) : Sp := fun vs H Q _ => ∃ (N : Nat) (a : Addr) (L : Lo) (e : Ed) (k : Nat), vs = [.ref a, .int (k : Nat)] ∧ EdAt C H a L e [] ∧ FInv N e ∧ N ≤ 2900000 ∧
  ∀ H2 L2, EdAt C H2 a L2 (Ue15.press e k) [] → FInv (N + 501) (Ue15.press e k) → Fr2 C a L H L2 H2 → Q .non H2
theorem k_press (G : Gs K mg C) (TB : TabB base mg C.tc C.tP) : C8.Cal P w K mg base 16 "press" (sp_press C) [] := by
  have K_do_with_what_comes := k_do_with_what_comes (P := P) (w := w) (base := base) G TB
  have K_switch_recording := k_switch_recording (P := P) (w := w) (base := base) G
  refine cal_of G.d_press sc_press (fun _ _ _ _ _ _ us hl => match us, hl with | [_, _], _ => rfl) (fun vs H Q E h => ?_) (fun f cdv A outer s H vs Q E hr h => ?_)
  · obtain ⟨N, a, L, e, k, rfl, _⟩ := h; rfl
  · obtain ⟨N, a, L, e, k, rfl, hE, hF, hN, hQ⟩ := h
    refine ⟨_, (C8.pss_cut (ps_if (PW.pt (pw_and (pt_cmpR op_eq (pv 1) (C8.pe_gc rfl G.c_KEY_Q) (nomark _)) (pw_and1 (pt_cmpR op_eq (pe_fld (pv 0) rfl) (C8.pe_gc rfl G.c_NORMAL) (nomark _))))) (pss_cons (ps_expr (C8.pe_c K_switch_recording hr (by decide) rfl (pa_cons (pv 0) pa_nil))) (pss_one ps_retN)) pss_nil) (C8.pss_cut (ps_if (pt_cmpR op_notN (pe_fld (pv 0) rfl) pe_non (nomark _)) (pss_one (ps_expr (pe_bm PySem.F.plainAttrs_list PySem.F.slot_list_append PySem.F.type_list_append mt_append (pe_fld (pv 0) rfl) (pa_cons (pv 1) pa_nil)))) pss_nil) (pss_one (ps_expr (C8.pe_c K_do_with_what_comes hr (by decide) rfl (pa_cons (pv 0) (pa_cons (pv 1) pa_nil))))))), ?_⟩
    refine ⟨fun σ H2 => σ = [some (.ref a), some (.int (k : Nat))] ∧ H2 = H ∧ ¬ (k = 113 ∧ e.mode = .normal), ?_, ?_⟩
    · refine ⟨_, rfl, rfl, _, rfl, dI (fun h1 => ?_) fun h1 => ?_⟩
      · have hk : k = 113 := int_eq h1
        refine ⟨_, rfl, a, C.ed, L.dx, _, _, rfl, hE.obj, G.k_Editor, G.n_Editor_mode, lk_zip fe_mode rfl, rfl, _, rfl, dI (fun h2 => ?_) fun h2 => ?_⟩
        · have h3 : Ue15.modeOf e.mode = 0 := int_eq h2
          have hmd : e.mode = .normal := by
            cases hm : e.mode <;> rw [hm] at h3 <;> first | rfl | cases h3
          rw [press_q ⟨hk, hmd⟩] at hQ
          exact ⟨_, rfl, a, L, e, [], rfl, hE, trivial, fun H2 L2 h2 f2 => hQ _ _ h2 ((recE_inv hF).mono (by omega)) f2⟩
        · have h3 : Ue15.modeOf e.mode ≠ 0 := int_ne h2
          exact ⟨rfl, rfl, fun z => h3 (by rw [z.2]; rfl)⟩
      · have hk : k ≠ 113 := int_ne h1
        exact ⟨rfl, rfl, fun z => hk z.1⟩
    · rintro σ H2 ⟨rfl, rfl, hnq⟩
      rw [press_k hnq] at hQ
      refine ⟨fun σ H3 => σ = [some (.ref a), some (.int (k : Nat))] ∧ ∃ L3, EdAt C H3 a L3 (noted e k) [] ∧ Fr2 C a L H2 L3 H3, ?_, ?_⟩
      · refine ⟨_, rfl, a, C.ed, L.dx, _, _, rfl, hE.obj, G.k_Editor, G.n_Editor_recorded, lk_zip fe_recorded rfl, rfl, _, rfl, ?_⟩
        have hrec := hE.rec_
        cases hr : e.recording with
        | none =>
          rw [hr] at hrec
          have e0 : L.rv = .non := hrec.1
          rw [e0]
          have hw : noted e k = e := by
            unfold noted
            rw [hr]
          rw [hw]
          exact ⟨rfl, L, hE, ExtN.refl _⟩
        | some wt =>
          rw [hr] at hrec
          obtain ⟨pr, e0, hrm, ht⟩ := hrec
          have hwl := hF.rec_ wt hr
          have hw : noted e k = { e with recording := some (wt ++ [k]) } := by
            unfold noted
            rw [hr]
          rw [e0, hw]
          refine ⟨_, rfl, a, C.ed, L.dx, _, _, rfl, hE.obj, G.k_Editor, G.n_Editor_recorded, lk_zip fe_recorded rfl, ?_⟩
          rw [e0]
          obtain ⟨h5, f5⟩ := rec_add (w2 := wt ++ [k]) hE hr e0 hrm ht
          rw [iL_app] at h5 f5
          exact ⟨.inl ⟨rfl, _, SqL.of ht⟩, _, rfl, pr, _, _, rfl, rfl, ht, szl (by rw [iL_len]; omega), rfl, L, h5, f5⟩
      · rintro σ H3 ⟨rfl, L3, h3, f3⟩
        exact ⟨_, rfl, _, rfl, N + 1, a, L3, _, [], k, rfl, h3, noted_inv hF, by omega, fun H4 L4 h4 hF4 f4 => hQ _ _ h4 (hF4.mono (by omega)) (f3.trans f4)⟩
end
end Ke
end
section
set_option maxHeartbeats 4500000
namespace Ke
open PySem PySem.Spec L2 LamX PyProof.Rows
open PySem.W (OpenSpec Codec WData WellAll Well ReadsAllW ReadsW)
/-! ### a call of the row's def where one table of code objects grows -/
theorem sqL_more {K : PySem.W.Frag} {H H2 : Hp} {a : Addr} {xs : List V} (q : SqL K H a xs) (s : Same H H2) : SqL K H2 a xs := by
  rcases q with (q | ⟨o, q⟩) | q
  · exact .inl (.inl (s _ _ q))
  · exact .inl (.inr ⟨o, s _ _ q⟩)
  · exact .inr q
theorem sqT_more {K : PySem.W.Frag} {H H2 : Hp} {a : Addr} {xs : List V} (q : SqT K H a xs) (s : Same H H2) : SqT K H2 a xs := by
  rcases q with (q | ⟨o, q⟩) | q
  · exact .inl (.inl (s _ _ q))
  · exact .inl (.inr ⟨o, s _ _ q⟩)
  · exact .inr q
mutual
theorem dw_more {K : PySem.W.Frag} {H H2 : Hp} (s : Same H H2) : ∀ {d : WData} {v : V}, Dw K H v d → Dw K H2 v d
  | _, _, .non => .non
  | _, _, .bl b => .bl b
  | _, _, .int i => .int i
  | _, _, .str x => .str x
  | _, _, .byt b => .byt b
  | _, _, .lst q r => .lst (sqL_more q s) (dws_more s r)
  | _, _, .tup q r => .tup (sqT_more q s) (dws_more s r)
theorem dws_more {K : PySem.W.Frag} {H H2 : Hp} (s : Same H H2) : ∀ {ds : List WData} {vs : List V}, DwAll K H vs ds → DwAll K H2 vs ds
  | _, _, .nil => .nil
  | _, _, .cons q r => .cons (dw_more s q) (dws_more s r)
end
abbrev noTab : Obj := { cls := .none, data := .fields #[] }
theorem call_tab {P : Program} {w : World} {K : PySem.W.Frag} {mg mb : Str → Option Value} {CX : CXT} {k : Nat} {fa tc tP : Addr} {fd : FuncData} {ps : List Str} {sp : Sp} {s1 : Shared} {vals : List Value} {ds : List WData} {R : PySem.W.WRecords} {cl : Str → Option Addr} {d0 : WData}
    (KX : K.In s1.heap) (gns : s1.heap.Ns mainGlobals mg) (bns : s1.heap.Ns builtinsNs mb) (bbs : ∀ x : Str, x ≠ "__name__" → mb x = bootBuiltins x) (nol : s1.heap.NoLimit) (gens : s1.gens = #[])
    (tab : s1.heap.get? tP = some noTab) (tabK : K.lookup tP = none) (code : PySem.W.CodeHd s1.heap tc tP)
    (bmod : ∃ (bm : Addr) (ob : Obj), mg "__builtins__" = some (.ref bm) ∧ bm ≠ builtinsNs ∧ s1.heap.get? bm = some ob ∧ ob.cls = .type "module" ∧ ob.dict = some builtinsNs ∧ ob.data = .plain)
    (wel : WellAll w.params s1.heap vals ds) (pln : plWs ds = true) (wgt : ∀ d ∈ ds, d.weight ≤ 1048576) (rm : Room k callerA)
    (F : ∀ base : Heap, K.In base → base.Ns mainGlobals mg → TabB base mg tc tP → FnOk P w K mg base CX k fa fd ps sp) (bnd : ∀ (s : Shared) (us : List Value), us.length = ps.length → BindsTo s fd ⟨us, []⟩ (ps.zip us)) (len : ds.length = ps.length)
    (hsp : ∀ (H : Hp) (xs : List V), H tP = some (.tbl #[]) → (∀ b, H b = none ∨ b = tP ∨ ∃ o u, H b = some (.frz o u)) → DwAll K H xs ds → sp xs H (fun v H' => Dw K H' v d0) fun _ _ _ => False)
    (hCX : ∀ H e s', CX [] H s1 (fun _ _ _ => False) e s' → False) :
    codeAny (model P w) callerA (.call (.ref fa) ⟨vals, []⟩) (fun r s' => ∃ u as, r = .ok (.ret u) ∧ ReadsW R cl s'.heap u d0 as ∧ OldK s1.heap s'.heap ∧ s'.os = s1.os ∧ AllBare s'.gens) s1 := by
  obtain ⟨A, ho, ar⟩ := area_all ds vals wel pln wgt
  have only0 : OnlyF (argH K s1.heap A) := argH_only ar
  have ok0 : HOk P w (argH K s1.heap A) s1.heap := argH_ok ar
  have dw0 := dw_all KX ar ds vals wel pln ho
  have hV := vals_toV ho
  have isA : ∀ b u, argH K s1.heap A b = some u → K.lookup b = none ∧ ∀ o, s1.heap.get? b = some o → ∃ vs n, o.data = .seq vs n := fun b u q => by
    obtain ⟨z, vs, _, _, ⟨e2, _⟩ | ⟨e2, _⟩⟩ := argH_is ar q
    · refine ⟨z, fun o ho => ?_⟩
      rw [e2] at ho
      cases ho
      exact ⟨_, _, rfl⟩
    · refine ⟨z, fun o ho => ?_⟩
      rw [e2] at ho
      cases ho
      exact ⟨_, _, rfl⟩
  generalize argH K s1.heap A = H0 at only0 ok0 dw0 isA
  have noP : H0 tP = none := by
    cases q : H0 tP with
    | none => rfl
    | some u =>
      obtain ⟨vs, n, z⟩ := (isA _ _ q).2 _ tab
      cases z
  let H : Hp := upd H0 tP (.tbl #[])
  have s0 : Same H0 H := same_new noP
  have HP : H tP = some (.tbl #[]) := upd_same
  have Hne : ∀ b, b ≠ tP → H b = H0 b := fun b hb => upd_ne hb
  have okH : HOk P w H s1.heap := ok0.laidN (fun _ _ e => e) noP tab
  have seqs : ∀ {b : Addr} {o : Obj}, s1.heap.get? b = some o → (∀ vs n, o.data ≠ .seq vs n) → o ≠ noTab → H b = none := fun {b o} e n1 n2 => by
    by_cases hb : b = tP
    · subst hb
      rw [tab] at e
      exact absurd (Option.some.inj e).symm n2
    · rw [Hne b hb]
      cases q : H0 b with
      | none => rfl
      | some u =>
        obtain ⟨vs, n, z⟩ := (isA _ _ q).2 _ e
        exact absurd z (n1 vs n)
  have dicts : ∀ {b : Addr} {o : Obj} {es : Array DictEntry} {ep : Nat}, s1.heap.get? b = some o → o.data = .dict es ep → H b = none := fun {b o es ep} e d => seqs e (fun vs n z => by rw [d] at z; cases z) fun z => by
    rw [z] at d
    cases d
  have lift : ∀ {b : Addr} {o : Obj}, s1.heap.get? b = some o → H b = none → (hidT s1.heap H).get? b = some o := fun e n => hidT_get e n
  have nsL : ∀ {b : Addr} {m : Str → Option Value}, s1.heap.Ns b m → (hidT s1.heap H).Ns b m := fun {b m} ⟨o, es, ep, e, d, r⟩ => ⟨o, es, ep, lift e (dicts e d), d, r⟩
  have notK : ∀ b o, K.lookup b = some o → H b = none := fun b o e => by
    by_cases hb : b = tP
    · subst hb
      rw [tabK] at e
      cases e
    · rw [Hne b hb]
      cases q : H0 b with
      | none => rfl
      | some u =>
        rw [(isA _ _ q).1] at e
        cases e
  have KB : K.In (hidT s1.heap H) := fun b o e => lift (KX b o e) (notK b o e)
  have MD : L2.Mod K mg (hidT s1.heap H) := ⟨KB, nsL gns, ⟨mb, nsL bns, bbs⟩, let ⟨mc, h1, h2⟩ := nol; ⟨mc, nsL h1, h2⟩⟩
  have TB : TabB (hidT s1.heap H) mg tc tP := by
    refine ⟨?_, ?_, fun z => ?_⟩
    · obtain ⟨o, us, file, tf, flags, tg, inF, text, tt, e1, r1, r2, r3, r4, r5, r6, r7, r8, hne⟩ := code
      refine ⟨o, us, file, tf, flags, tg, inF, text, tt, lift e1 (seqs e1 (fun vs n z => by rw [r2] at z; cases z) fun z => ?_), r1, r2, r3, r4, r5, r6, r7, r8, hne⟩
      rw [z] at r2
      cases r2
      simp at r3
    · obtain ⟨bm, ob, b1, b2, b3, b4, b5, b6⟩ := bmod
      have n1 : bm ≠ mainGlobals := fun q => by
        obtain ⟨o, es, ep, e, d, _⟩ := gns
        rw [q, e] at b3
        cases b3
        rw [d] at b6
        cases b6
      have n2 : bm ≠ tP := fun q => by
        rw [q, tab] at b3
        cases b3
        cases b6
      exact ⟨bm, ob, b1, b2, n1, n2, lift b3 (seqs b3 (fun vs n z => by rw [b6] at z; cases z) fun z => by rw [z] at b6; cases b6), b4, b5, b6⟩
    · obtain ⟨o, es, ep, e, d, _⟩ := gns
      rw [z, tab] at e
      cases e
      cases d
  have E0 : Env0 P w K mg (hidT s1.heap H) callerA [] s1 H := ⟨rfl, MD, fun b o e => of_hidT e, Nat.le_of_eq (hidT_size _ _), trivial, fun b hb => absurd (show b ∈ ([] : List Addr) from hb) (by simp), okH, .of_eq gens⟩
  have lv : vals.length = ps.length := by
    rw [wellAll_len wel]
    exact len
  have onlyH : ∀ b, H b = none ∨ b = tP ∨ ∃ o u, H b = some (.frz o u) := fun b => by
    by_cases hb : b = tP
    · exact .inr (.inl hb)
    · rw [Hne b hb]
      exact (only0 b).imp id .inr
  refine codeAny_mono ((F _ KB (nsL gns) TB).run callerA [] s1 H ⟨vals, []⟩ vals (vals.map toV) _ _ rm E0 (bnd s1 vals lv) hV (hsp H _ HP onlyH (dws_more s0 dw0))) fun r s' x => ?_
  cases r with
  | error e => exact absurd (hCX H e s' x) not_false
  | ok fl =>
    cases fl with
    | next => exact False.elim x
    | brk => exact False.elim x
    | cont => exact False.elim x
    | ret u =>
      obtain ⟨v, H', os, bare, un, ok', r', q⟩ := x
      have stay : ∀ b o, b ≠ tP → s1.heap.get? b = some o → s'.heap.get? b = some o := fun b o hb e => by
        cases q2 : H b with
        | none => exact un.keep b o e q2 (fun z => absurd (show b ∈ ([] : List Addr) from z) (by simp)) (by simp)
        | some u2 =>
          rcases onlyH b with z | z | ⟨ob, u3, z⟩
          · rw [q2] at z
            cases z
          · exact absurd z hb
          · have z2 := un.frzs b ob _ z
            obtain ⟨e1, _⟩ := okH b _ z
            obtain ⟨e2, _⟩ := ok' b _ z2
            rw [e] at e1
            cases e1
            exact e2
      have nP : ∀ b o, K.lookup b = some o → b ≠ tP := fun b o e z => by
        rw [z, tabK] at e
        cases e
      have KX2 : K.In s'.heap := fun b o e => stay b o (nP b o e) (KX b o e)
      obtain ⟨as, rd⟩ := Dw.reads (R := R) (cl := cl) ok' KX2 d0 v u q r'
      obtain ⟨more, z⟩ := un.tbls tP #[] HP
      have grown : s'.heap.get? tP = some { cls := .none, data := .fields (#[] ++ more) } := ok' tP _ z
      refine ⟨u, as, rfl, rd, ⟨fun b o e => ?_, fun b o e => ?_⟩, os, bare⟩
      · by_cases hb : b = tP
        · subst hb
          rw [tab] at e
          cases e
          exact .inr (.inl ⟨(code.tab tab).isCodeTable, rfl, #[], more, rfl, grown⟩)
        · exact .inl (stay b o hb e)
      · by_cases hb : b = tP
        · subst hb
          exact ⟨_, grown⟩
        · exact ⟨o, stay b o hb e⟩
end Ke
end
section
set_option maxHeartbeats 4500000
namespace Ke
open PySem PySem.Spec L2 LamX PyProof.Rows
open PySem.W (OpenSpec Codec WData WellAll Well ReadsAllW ReadsW)
/-- what is known of the row's def at the head's heap -/
structure AtHead (r : OpenSpec) (w : World) (mg : Str → Option Value) (fa : Addr) (h : Heap) (CX : CXT) (k : Nat) (ps : List Str) (K : PySem.W.Frag) (tc tP : Addr) (fd : FuncData) (sp : Sp) : Prop where
  inn : K.In h
  tab : h.get? tP = some noTab
  out : K.lookup tP = none
  code : PySem.W.CodeHd h tc tP
  bnd : ∀ (s : Shared) (us : List Value), us.length = ps.length → BindsTo s fd ⟨us, []⟩ (ps.zip us)
  fn : ∀ base : Heap, K.In base → base.Ns mainGlobals mg → TabB base mg tc tP → FnOk r.prog w K mg base CX k fa fd ps sp
  pro : ∀ (H : Hp) (xs : List V) (a : Codec.denoteAll r.args), H tP = some (.tbl #[]) → (∀ b, H b = none ∨ b = tP ∨ ∃ o u, H b = some (.frz o u)) → Codec.withinAll r.args a = true → Codec.app r.args r.asked a = true → DwAll K H xs (Codec.encAll r.args a) →
    sp xs H (fun v H' => Dw K H' v (r.ret.enc (Codec.app r.args r.f a))) fun _ _ _ => False
theorem walk_tab {r : OpenSpec} {k : Nat} {q : Program} {loose : List Str} {XP : (Str → Option Value) → Heap → Prop} {YP : World → Heap → Prop} {d : DefRec} {CX : World → CXT} {ps : List Str}
    (said : r.wellSaid = true) (len : r.args.length = ps.length) (rm : Room k callerA)
    (F : ∀ (w : World) (mg : Str → Option Value) (fa : Addr) (h : Heap), YP w h → h.Ns mainGlobals mg → mg d.name = some (.ref fa) → ∃ K tc tP fd sp, AtHead r w mg fa h (CX w) k ps K tc tP fd sp)
    (hCX : ∀ (w : World) (H : Hp) (s : Shared) (e : Value) (s2 : Shared), CX w [] H s (fun _ _ _ => False) e s2 → False) :
    PySem.W.WalkOS q loose XP YP r d [] (fun g us => PySem.call g us) := by
  intro w s0 s1 mg mb G Y fa o pm cd doc dV kV ho hd hcd hD hmg hg args vals as hpre hlay hrd hwl hlo
  obtain ⟨a, e1, e2⟩ := (PySem.W.os_pre_some hpre)
  obtain ⟨e3, hwi⟩ := (Codec.encAll_of_decAll r.args args a e1)
  subst e3
  obtain ⟨K, tc, tP, fd, sp, T⟩ := F w mg fa _ Y G.T.g hmg
  refine PySem.W.enter_call (codeAny_mono (call_tab (R := []) (cl := classAt s0.heap) (d0 := r.ret.enc (Codec.app r.args r.f a)) T.inn G.T.g G.T.b G.T.builtins G.T.nolimit hg T.tab T.out T.code G.T.bmain hwl (pl_encAll _ _) (layable_weight hlay) rm T.fn T.bnd (by rw [encAll_len]; exact len)
    (fun H xs hP hO hS => T.pro H xs a hP hO hwi e2 hS) fun H e s' => hCX w H s1 e s') fun r' s' z => ?_)
  obtain ⟨u, as', rfl, h1, h2, h3, h4⟩ := z
  exact ⟨.inl ⟨u, _, as', rfl, fun _ => rfl, h1, (OpenSpec.post_iff said hwi _ _).mpr rfl, fun z => Bool.noConfusion (show false = true from z)⟩, h2, h3, h4⟩
end Ke
end
section
set_option maxHeartbeats 4500000
namespace Ke
open PySem PySem.Spec L2 LamX PyProof.Rows
open Ue15 (Sel Told Ed)
def pairsL (l : List Told) : List Nat := l.flatMap fun x => [x.1.anchor, x.1.hand]
def pairsS (s : List Sel) : List Nat := s.flatMap fun x => [x.anchor, x.hand]
theorem pairs_told (s : List Sel) (m : Nat) : pairsL (told s m) = pairsS s := by
  unfold pairsL pairsS
  rw [← List.flatMap_map (f := fun x : Told => x.1) (g := fun x : Sel => [x.anchor, x.hand]), told_fsts]
theorem pairs_len (s : List Sel) : (pairsS s).length = 2 * s.length := by
  unfold pairsS
  induction s with
  | nil => rfl
  | cons x s ih =>
    rw [List.flatMap_cons, List.length_append, ih]
    show 2 + 2 * s.length = 2 * (s.length + 1)
    omega
section
variable {P : Program} {w : World} {K : PySem.W.Frag} {mg : Str → Option Value} {base : Heap} {C : Ca}
def sp_places_of (C : Ca) : Sp := fun vs H Q _ => ∃ (p : Addr) (l : List Told), vs = [.ref p] ∧ SelsAt C H p l ∧ l.length ≤ 1000 ∧ ∀ H2 y, Same H H2 → H y = none → TxtAt H2 y (pairsL l) → Q (.ref y) H2
theorem k_places_of (G : Gs K mg C) : C8.Cal P w K mg base 1 "places_of" (sp_places_of C) [] := by
  refine cal_of G.d_places_of sc_places_of (fun _ _ _ _ _ _ us hl => match us, hl with | [_], _ => rfl) (fun vs H Q E h => ?_) (fun f cdv A outer s H vs Q E hr h => ?_)
  · obtain ⟨p, l, rfl, _⟩ := h; rfl
  · obtain ⟨p, l, rfl, ⟨sl, m, dp, q, hp, ⟨bs, hq, hpr⟩, rfl, hm⟩, hl, hQ⟩ := h
    refine ⟨_, (pss_cons (ps_set (i := 1) sc_places_of.nd rfl (Or.inl rfl) (pe_lst pa_nil)) (pss_cons (ps_for PassesOwn.never rfl (pi_list (pe_fld (pv 0) rfl)) (pg_name (i := 2) sc_places_of.nd rfl (Or.inl rfl)) (pss_cons (ps_expr (pe_bm PySem.F.plainAttrs_list PySem.F.slot_list_append PySem.F.type_list_append mt_append (pv 1) (pa_cons (pe_fld (pv 2) rfl) pa_nil))) (pss_one (ps_expr (pe_bm PySem.F.plainAttrs_list PySem.F.slot_list_append PySem.F.type_list_append mt_append (pv 1) (pa_cons (pe_fld (pv 2) rfl) pa_nil)))))) (pss_one (ps_ret (pv 1))))), ?_⟩
    rw [pairs_told] at hQ
    rw [told_len] at hl
    have lb := pr_len hpr
    refine ⟨Nat.zero_le _, fun y ny => ?_⟩
    have s0 : Same H (upd H y (.lst [])) := same_new ny
    refine ⟨_, rfl, p, C.sels, dp, _, _, rfl, s0 _ _ hp, G.k_Selections, G.n_Selections_each, lk_zip fa_each rfl, q, rfl, ⟨_, SqL.of (s0 _ _ hq)⟩, ?_⟩
    refine for_list (a := q) (xs := bs.map V.ref) (fun i σ H2 => Same H H2 ∧ TxtAt H2 y (pairsS (sl.take i)) ∧ ∃ v, σ = [some (.ref p), some (.ref y), v]) ⟨s0, upd_same, none, rfl⟩ (fun i σ H2 _ ⟨e, _⟩ => SqL.of (e _ _ hq)) ?_ ?_
    · rintro i v σ H2 hi ⟨s2, hy, v2, rfl⟩
      obtain ⟨c, hc, rfl⟩ := ref_at hi
      obtain ⟨sc, hsc, dc, hcs⟩ := pr_get hpr hc
      have hc2 := s2 _ _ hcs
      have ln := pairs_len (sl.take i)
      rw [List.length_take] at ln
      have hcy : c ≠ y := ne_of_none hcs ny
      refine ⟨_, rfl, .inl ⟨rfl, _, SqL.of hy⟩, _, rfl, c, C.sel, dc, _, _, rfl, hc2, G.k_Selection, G.n_Selection_anchor, lk_zip fa_anchor rfl, y, _, _, rfl, rfl, hy, szl (by rw [iL_len]; omega), ?_⟩
      have hc3 : upd H2 y (.lst (iL (pairsS (sl.take i)) ++ [V.int (sc.anchor : Nat)])) c = some (.ins C.sel dc (nSel.zip [.int (sc.anchor : Nat), .int (sc.hand : Nat)])) := by
        rw [upd_ne hcy]
        exact hc2
      refine ⟨_, rfl, .inl ⟨rfl, _, SqL.of upd_same⟩, _, rfl, c, C.sel, dc, _, _, rfl, hc3, G.k_Selection, G.n_Selection_hand, lk_zip fa_hand rfl, y, _, _, rfl, rfl, upd_same, szl (by rw [List.length_append, iL_len]; show _ + 1 ≤ _; omega), same_put (same_put s2 ny) ny, ?_, _, rfl⟩
      show upd _ _ _ _ = _
      rw [upd_same, take_at hsc]
      unfold pairsS
      rw [List.flatMap_append, iL_app, List.append_assoc]
      simp
    · rintro σ H2 ⟨s2, hy, v2, rfl⟩
      rw [List.length_map, lb, List.take_length] at hy
      exact ⟨_, rfl, hQ _ _ s2 ny hy⟩
def spTold (C : Ca) (f : Ed → List Nat) : Sp := fun vs H Q _ => ∃ (a : Addr) (L : Lo) (e : Ed) (cq : List Nat), vs = [.ref a] ∧ EdAt C H a L e cq ∧ EInv e ∧ ∀ H2 y, Same H H2 → H y = none → TxtAt H2 y (f e) → Q (.ref y) H2
theorem k_answer_of_selected (G : Gs K mg C) : C8.Cal P w K mg base 2 "answer_of_selected" (spTold C Ue15.selsRow) [] := by
  have K_places_of := k_places_of (P := P) (w := w) (base := base) G
  refine cal_of G.d_answer_of_selected sc_answer_of_selected (fun _ _ _ _ _ _ us hl => match us, hl with | [_], _ => rfl) (fun vs H Q E h => ?_) (fun f cdv A outer s H vs Q E hr h => ?_)
  · obtain ⟨a, L, e, cq, rfl, _⟩ := h; rfl
  · obtain ⟨a, L, e, cq, rfl, hE, hI, hQ⟩ := h
    refine ⟨_, (pss_one (ps_ret (pe_op op_cat (pe_lst (pa_cons (pe_fld (pe_fld (pv 0) rfl) rfl) (pa_cons (pe_callB call_len_seq (by rfl) G.b_len PySem.boot_len (pa_cons (pe_fld (pe_fld (pv 0) rfl) rfl) pa_nil)) pa_nil))) (C8.pe_c K_places_of hr (by decide) rfl (pa_cons (pe_fld (pv 0) rfl) pa_nil))))), ?_⟩
    obtain ⟨sl, m, dp, q, bs, es, hm, hps, hq, hpr, _⟩ := hE.each
    obtain ⟨hlen, hin⟩ := hI.hands es
    have hsm : sl[m]? = some sl[m] := List.getElem?_eq_getElem hm
    obtain ⟨_, em⟩ := told_main hsm e es
    have lb := pr_len hpr
    have er : Ue15.selsRow e = [m, sl.length] ++ pairsL e.sels := by
      unfold Ue15.selsRow pairsL
      rw [em, es, told_len]
    refine ⟨_, rfl, a, C.ed, L.dx, _, _, rfl, hE.obj, G.k_Editor, G.n_Editor_selected, lk_zip fe_selected rfl, L.ps, C.sels, dp, _, _, rfl, hps, G.k_Selections, G.n_Selections_main, lk_zip fa_main rfl, _, rfl, a, C.ed, L.dx, _, _, rfl, hE.obj, G.k_Editor, G.n_Editor_selected, lk_zip fe_selected rfl, L.ps, C.sels, dp, _, _, rfl, hps, G.k_Selections, G.n_Selections_each, lk_zip fa_each rfl, q, _, rfl, .inl (SqL.of hq), ?_⟩
    rw [List.length_map, lb]
    refine ⟨Nat.le_of_lt (szl (by show 2 ≤ 10000000; decide)), fun x nx => ?_⟩
    have s1 : Same H (upd H x (.lst [V.int (m : Nat), V.int (sl.length : Nat)])) := same_new nx
    have hx : TxtAt (upd H x (.lst [V.int (m : Nat), V.int (sl.length : Nat)])) x [m, sl.length] := upd_same
    have hE1 := hE.same s1
    refine ⟨_, rfl, a, C.ed, L.dx, _, _, rfl, hE1.obj, G.k_Editor, G.n_Editor_selected, lk_zip fe_selected rfl, L.ps, e.sels, rfl, hE1.sel.same (vis_sub _ _), by rw [es, told_len]; omega, fun H2 y s2 ny hy => ?_⟩
    have lp : (pairsL e.sels).length = 2 * sl.length := by rw [es, pairs_told, pairs_len]
    refine ⟨x, y, _, _, rfl, rfl, hx.same s2, hy, by rw [iL_len, iL_len, lp, sizeLine_eq]; show 2 + _ ≤ _; omega, fun z nz => hQ _ _ ((s1.trans s2).trans (same_new nz)) (none_of (s1.trans s2) nz) ?_⟩
    show upd _ _ _ _ = _
    rw [upd_same, er, iL_app]
def sp_counted (C : Ca) : Sp := fun vs H Q _ => ∃ (p : Addr) (l : List Nat), vs = [.ref p] ∧ TxtAt H p l ∧ l.length ≤ 10000000 ∧ ∀ H2 y, Same H H2 → H y = none → TxtAt H2 y (l.length :: l) → Q (.ref y) H2
theorem k_counted (G : Gs K mg C) : C8.Cal P w K mg base 1 "counted" (sp_counted C) [] := by
  refine cal_of G.d_counted sc_counted (fun _ _ _ _ _ _ us hl => match us, hl with | [_], _ => rfl) (fun vs H Q E h => ?_) (fun f cdv A outer s H vs Q E hr h => ?_)
  · obtain ⟨p, l, rfl, _⟩ := h; rfl
  · obtain ⟨p, l, rfl, hp, hl, hQ⟩ := h
    refine ⟨_, (pss_one (ps_ret (pe_op op_cat (pe_lst (pa_cons (pe_callB call_len_seq (by rfl) G.b_len PySem.boot_len (pa_cons (pv 0) pa_nil)) pa_nil)) (pv 0)))), ?_⟩
    refine ⟨_, rfl, _, _, rfl, .inl (SqL.of hp), ?_⟩
    rw [iL_len]
    refine ⟨Nat.le_of_lt (szl (by show 1 ≤ 10000000; decide)), fun x nx => ?_⟩
    have s1 : Same H (upd H x (.lst [V.int (l.length : Nat)])) := same_new nx
    refine ⟨_, rfl, x, p, _, _, rfl, rfl, upd_same, hp.same s1, by rw [iL_len, sizeLine_eq]; show 1 + _ ≤ _; omega, fun z nz => hQ _ _ (s1.trans (same_new nz)) (none_of s1 nz) ?_⟩
    show upd _ _ _ _ = _
    rw [upd_same]
    rfl
theorem k_answer_of_shows (G : Gs K mg C) : C8.Cal P w K mg base 2 "answer_of_shows" (spTold C (fun e => e.text.length :: e.text)) [] := by
  have K_counted := k_counted (P := P) (w := w) (base := base) G
  refine cal_of G.d_answer_of_shows sc_answer_of_shows (fun _ _ _ _ _ _ us hl => match us, hl with | [_], _ => rfl) (fun vs H Q E h => ?_) (fun f cdv A outer s H vs Q E hr h => ?_)
  · obtain ⟨a, L, e, cq, rfl, _⟩ := h; rfl
  · obtain ⟨a, L, e, cq, rfl, hE, hI, hQ⟩ := h
    refine ⟨_, (pss_one (ps_ret (C8.pe_c K_counted hr (by decide) rfl (pa_cons (pe_fld (pv 0) rfl) pa_nil)))), ?_⟩
    have txt : TxtAt H L.pt e.text := hE.txt.same (vis_sub _ _)
    have htx := hI.txt
    exact ⟨_, rfl, a, C.ed, L.dx, _, _, rfl, hE.obj, G.k_Editor, G.n_Editor_text, lk_zip fe_text rfl, L.pt, e.text, rfl, txt, by omega, hQ⟩
def keptRow (e : Ed) : List Nat := Ue15.selsRow e ++ (match e.kept with
  | none => [0]
  | some l => (l.length + 1) :: l.flatMap fun x => [x.1.anchor, x.1.hand])
theorem k_answer_of_selections (G : Gs K mg C) : C8.Cal P w K mg base 3 "answer_of_selections" (spTold C keptRow) [] := by
  have K_answer_of_selected := k_answer_of_selected (P := P) (w := w) (base := base) G
  have K_places_of := k_places_of (P := P) (w := w) (base := base) G
  refine cal_of G.d_answer_of_selections sc_answer_of_selections (fun _ _ _ _ _ _ us hl => match us, hl with | [_], _ => rfl) (fun vs H Q E h => ?_) (fun f cdv A outer s H vs Q E hr h => ?_)
  · obtain ⟨a, L, e, cq, rfl, _⟩ := h; rfl
  · obtain ⟨a, L, e, cq, rfl, hE, hI, hQ⟩ := h
    refine ⟨_, (pss_cons (ps_if (pt_cmpR op_isN (pe_fld (pv 0) rfl) pe_non (nomark _)) (pss_one (ps_ret (pe_op op_cat (C8.pe_c K_answer_of_selected hr (by decide) rfl (pa_cons (pv 0) pa_nil)) (pe_lst (pa_cons pe_int pa_nil))))) pss_nil) (pss_one (ps_ret (pe_op op_cat (pe_op op_cat (C8.pe_c K_answer_of_selected hr (by decide) rfl (pa_cons (pv 0) pa_nil)) (pe_lst (pa_cons (pe_op op_add (pe_callB call_len_seq (by rfl) G.b_len PySem.boot_len (pa_cons (pe_fld (pe_fld (pv 0) rfl) rfl) pa_nil)) pe_int) pa_nil))) (C8.pe_c K_places_of hr (by decide) rfl (pa_cons (pe_fld (pv 0) rfl) pa_nil)))))), ?_⟩
    obtain ⟨sl, m, dp, q, bs, es, hm, hps, hq, hpr, _⟩ := hE.each
    obtain ⟨hlen, hin⟩ := hI.hands es
    have lr : (Ue15.selsRow e).length ≤ 100 := by
      have : Ue15.selsRow e = [Ue15.mainPlace e, e.sels.length] ++ pairsL e.sels := rfl
      rw [this, List.length_append, es, pairs_told, pairs_len]
      show 2 + _ ≤ 100
      omega
    refine ⟨_, rfl, a, C.ed, L.dx, _, _, rfl, hE.obj, G.k_Editor, G.n_Editor_kept, lk_zip fe_kept rfl, rfl, _, rfl, ?_⟩
    have hkept := hE.kept
    cases hke : e.kept with
    | none =>
      rw [hke] at hkept
      have e0 : L.kv = .non := hkept
      have er : keptRow e = Ue15.selsRow e ++ [0] := by
        unfold keptRow
        rw [hke]
      show if decide (L.kv = V.non) = true then _ else _
      rw [e0]
      refine ⟨_, rfl, a, L, e, cq, rfl, hE, hI, fun H1 x s1 nx hx => ?_⟩
      refine ⟨Nat.le_of_lt (szl (by show 1 ≤ 10000000; decide)), fun y ny => ?_⟩
      have s2 : Same H1 (upd H1 y (.lst [V.int 0])) := same_new ny
      refine ⟨x, y, _, _, rfl, rfl, hx.same s2, upd_same, by rw [iL_len, sizeLine_eq]; show _ + 1 ≤ _; omega, fun z nz => hQ _ _ ((s1.trans s2).trans (same_new nz)) (none_of (s1.trans s2) nz) ?_⟩
      show upd _ _ _ _ = _
      rw [upd_same, er, iL_app]
      rfl
    | some l =>
      rw [hke] at hkept
      obtain ⟨pk, ek, hpk⟩ := hkept
      have hl := (hI.kept l hke).few
      have er : keptRow e = (Ue15.selsRow e ++ [l.length + 1]) ++ pairsL l := by
        unfold keptRow pairsL
        rw [hke]
        simp
      show if decide (L.kv = V.non) = true then _ else _
      rw [ek]
      obtain ⟨s2, m2, dp2, q2, hp2, ⟨bs2, hq2, hpr2⟩, el, hm2⟩ := id hpk
      have ll : l.length = s2.length := by rw [el, told_len]
      have lb2 := pr_len hpr2
      refine ⟨_, rfl, a, L, e, cq, rfl, hE, hI, fun H1 x s1 nx hx => ?_⟩
      have hE1 := hE.same s1
      refine ⟨_, rfl, a, C.ed, L.dx, _, _, rfl, hE1.obj, G.k_Editor, G.n_Editor_kept, lk_zip fe_kept rfl, pk, C.sels, dp2, _, _, ek, s1 _ _ (vis_of hp2).1, G.k_Selections, G.n_Selections_each, lk_zip fa_each rfl, q2, _, rfl, .inl (SqL.of (s1 _ _ (vis_of hq2).1)), _, _, rfl, rfl, ?_⟩
      rw [List.length_map, lb2, ← ll]
      refine ⟨Nat.le_of_lt (szl (by show 1 ≤ 10000000; decide)), fun y ny => ?_⟩
      have t2 : Same H1 (upd H1 y (.lst [V.int ((l.length : Int) + 1)])) := same_new ny
      refine ⟨x, y, _, _, rfl, rfl, hx.same t2, upd_same, by rw [iL_len, sizeLine_eq]; show _ + 1 ≤ _; omega, fun z nz => ?_⟩
      have hz0 : iL (Ue15.selsRow e) ++ [V.int ((l.length : Int) + 1)] = iL (Ue15.selsRow e ++ [l.length + 1]) := by
        rw [iL_app]
        rfl
      dsimp only
      rw [hz0]
      have t3 : Same (upd H1 y (.lst [V.int ((l.length : Int) + 1)])) (upd (upd H1 y (.lst [V.int ((l.length : Int) + 1)])) z (.lst (iL (Ue15.selsRow e ++ [l.length + 1])))) := same_new nz
      have hz : TxtAt (upd (upd H1 y (.lst [V.int ((l.length : Int) + 1)])) z (.lst (iL (Ue15.selsRow e ++ [l.length + 1])))) z (Ue15.selsRow e ++ [l.length + 1]) := upd_same
      have t4 := (s1.trans t2).trans t3
      have hE4 := hE.same t4
      refine ⟨_, rfl, a, C.ed, L.dx, _, _, rfl, hE4.obj, G.k_Editor, G.n_Editor_kept, lk_zip fe_kept rfl, pk, l, by rw [ek]; rfl, (hpk.same (vis_sub _ _)).same t4, by omega, fun H5 y5 s5 ny5 hy5 => ?_⟩
      have lp : (pairsL l).length = 2 * l.length := by rw [el, pairs_told, pairs_len, told_len]
      refine ⟨z, y5, _, _, rfl, rfl, hz.same s5, hy5, by rw [iL_len, iL_len, lp, List.length_append, sizeLine_eq]; show _ + 1 + _ ≤ _; omega, fun z6 n6 => hQ _ _ ((t4.trans s5).trans (same_new n6)) (none_of (t4.trans s5) n6) ?_⟩
      show upd _ _ _ _ = _
      rw [upd_same, er, iL_app (Ue15.selsRow e ++ [l.length + 1])]
end
end Ke
end
section
set_option maxHeartbeats 4500000
namespace Ke
open PySem PySem.Spec L2 LamX PyProof.Rows
open Ue15 (Sel Told Ed)
def keysRow (d : Ed) : List Nat := [Ue15.modeOf d.mode, d.text.length] ++ Ue15.selsRow d
section
variable {P : Program} {w : World} {K : PySem.W.Frag} {mg : Str → Option Value} {base : Heap} {C : Ca}
def sp_answer_of_keys (C : Ca) : Sp := fun vs H Q _ => ∃ (N : Nat) (a p : Addr) (L : Lo) (e : Ed) (ks : List Nat), vs = [.ref a, .ref p] ∧ EdAt C H a L e [] ∧ FInv N e ∧ N + 501 * ks.length ≤ 2900000 ∧ TxtAt (vis (edM C a L) H) p ks ∧
  ∀ H2 L2 y, EdAt C H2 a L2 (ks.foldl Ue15.press e) [] → FInv (N + 501 * ks.length) (ks.foldl Ue15.press e) → Fr2 C a L H L2 H2 → TxtAt H2 y (keysRow (ks.foldl Ue15.press e)) → Q (.ref y) H2
theorem k_answer_of_keys (G : Gs K mg C) (TB : TabB base mg C.tc C.tP) : C8.Cal P w K mg base 17 "answer_of_keys" (sp_answer_of_keys C) [] := by
  have K_answer_of_selected := k_answer_of_selected (P := P) (w := w) (base := base) G
  have K_press := k_press (P := P) (w := w) (base := base) G TB
  refine cal_of G.d_answer_of_keys sc_answer_of_keys (fun _ _ _ _ _ _ us hl => match us, hl with | [_, _], _ => rfl) (fun vs H Q E h => ?_) (fun f cdv A outer s H vs Q E hr h => ?_)
  · obtain ⟨N, a, p, L, e, ks, rfl, _⟩ := h; rfl
  · obtain ⟨N, a, p, L, e, ks, rfl, hE, hF, hN, hp, hQ⟩ := h
    refine ⟨_, (pss_cons (ps_for PassesOwn.never rfl (pi_list (pv 1)) (pg_name (i := 2) sc_answer_of_keys.nd rfl (Or.inl rfl)) (pss_one (ps_expr (C8.pe_c K_press hr (by decide) rfl (pa_cons (pv 0) (pa_cons (pv 2) pa_nil)))))) (pss_one (ps_ret (pe_op op_cat (pe_lst (pa_cons (pe_fld (pv 0) rfl) (pa_cons (pe_callB call_len_seq (by rfl) G.b_len PySem.boot_len (pa_cons (pe_fld (pv 0) rfl) pa_nil)) pa_nil))) (C8.pe_c K_answer_of_selected hr (by decide) rfl (pa_cons (pv 0) pa_nil)))))), ?_⟩
    have hpH := (vis_of hp).1
    refine ⟨_, rfl, p, rfl, ⟨_, SqL.of hpH⟩, ?_⟩
    refine for_list (a := p) (xs := iL ks) (fun i σ H2 => ∃ L2, EdAt C H2 a L2 ((ks.take i).foldl Ue15.press e) [] ∧ FInv (N + 501 * i) ((ks.take i).foldl Ue15.press e) ∧ Fr2 C a L H L2 H2 ∧ ∃ v, σ = [some (.ref a), some (.ref p), v]) ⟨L, hE, hF, ExtN.refl _, none, rfl⟩ (fun i σ H2 _ ⟨L2, _, _, f2, _⟩ => SqL.of ((hp.ext f2).same (vis_sub _ _))) ?_ ?_
    · rintro i v σ H2 hi ⟨L2, h2, hF2, f2, v2, rfl⟩
      obtain ⟨k, hk, rfl⟩ := iL_at hi
      have hlt := (List.getElem?_eq_some_iff.mp hk).1
      have ef : (ks.take (i + 1)).foldl Ue15.press e = Ue15.press ((ks.take i).foldl Ue15.press e) k := by
        rw [take_at hk, List.foldl_append]
        rfl
      refine ⟨_, rfl, _, rfl, N + 501 * i, a, L2, _, k, rfl, h2, hF2, by omega, fun H3 L3 h3 hF3 f3 => ⟨L3, ?_, ?_, f2.trans f3, _, rfl⟩⟩
      · rw [ef]
        exact h3
      · rw [ef]
        exact hF3.mono (by omega)
    · rintro σ H2 ⟨L2, h2, hF2, f2, v2, rfl⟩
      rw [iL_len, List.take_length] at h2 hF2
      generalize ks.foldl Ue15.press e = d at *
      have txt : TxtAt H2 L2.pt d.text := h2.txt.same (vis_sub _ _)
      refine ⟨_, rfl, a, C.ed, L2.dx, _, _, rfl, h2.obj, G.k_Editor, G.n_Editor_mode, lk_zip fe_mode rfl, _, rfl, a, C.ed, L2.dx, _, _, rfl, h2.obj, G.k_Editor, G.n_Editor_text, lk_zip fe_text rfl, _, _, rfl, .inl (SqL.of txt), ?_⟩
      rw [iL_len]
      refine ⟨Nat.le_of_lt (szl (by show 2 ≤ 10000000; decide)), fun x nx => ?_⟩
      have s1 : Same H2 (upd H2 x (.lst [V.int (Ue15.modeOf d.mode : Nat), V.int (d.text.length : Nat)])) := same_new nx
      have hx : TxtAt (upd H2 x (.lst [V.int (Ue15.modeOf d.mode : Nat), V.int (d.text.length : Nat)])) x [Ue15.modeOf d.mode, d.text.length] := upd_same
      have h3 := h2.same s1
      refine ⟨_, rfl, a, L2, d, [], rfl, h3, hF2.inv, fun H4 y s4 ny hy => ?_⟩
      obtain ⟨sl, m, _, _, _, es, _⟩ := h2.each
      have hlen := (hF2.inv.hands es).1
      have lr : (Ue15.selsRow d).length ≤ 100 := by
        have : Ue15.selsRow d = [Ue15.mainPlace d, d.sels.length] ++ pairsL d.sels := rfl
        rw [this, List.length_append, es, pairs_told, pairs_len]
        show 2 + _ ≤ 100
        omega
      refine ⟨x, y, _, _, rfl, rfl, hx.same s4, hy, by rw [iL_len, iL_len, sizeLine_eq]; show 2 + _ ≤ _; omega, fun z nz => ?_⟩
      have s5 := (s1.trans s4).trans (same_new (o := .lst (iL [Ue15.modeOf d.mode, d.text.length] ++ iL (Ue15.selsRow d))) nz)
      refine hQ _ _ _ (h2.same s5) hF2 (f2.trans (vis_ext (ExtN.of s5))) ?_
      show upd _ _ _ _ = _
      rw [upd_same]
      unfold keysRow
      rw [iL_app]
end
end Ke
end
section
set_option maxHeartbeats 4500000
namespace Ke
open PySem PySem.Spec L2 LamX PyProof.Rows
open Ue15 (Sel Told Ed)
def refusedB (c : Nat) (ks : List Nat) : Bool := decide ((if c = 1 then 60 else 200) < ks.length) || ks.any fun b => decide (255 < b)
def FB (H : Hp) (v : V) (b : Bool) : Prop := v = .bl b
theorem FB.mono {D : Addr} (H1 H2 : Hp) (v : V) (b : Bool) (h : FB H1 v b) (_ : But D H1 H2) : FB H2 v b := h
theorem FB.all {H : Hp} : ∀ {ys : List V} {bs : List Bool}, Paired (FB H) ys bs → ys = bs.map V.bl
  | _, _, .nil => rfl
  | _, _, .cons h t => by
    cases h
    rw [FB.all t]
    rfl
section
variable {P : Program} {w : World} {K : PySem.W.Frag} {mg : Str → Option Value} {base : Heap} {C : Ca}
def sp_is_refused (C : Ca) : Sp := fun vs H Q _ => ∃ (c : Nat) (p : Addr) (ks : List Nat), vs = [.int (c : Nat), .ref p] ∧ TxtAt H p ks ∧ ks.length ≤ 1000 ∧ ∀ H2, Same H H2 → Q (.bl (refusedB c ks)) H2
theorem k_is_refused (G : Gs K mg C) : C8.Cal P w K mg base 1 "is_refused" (sp_is_refused C) [] := by
  refine cal_of G.d_is_refused sc_is_refused (fun _ _ _ _ _ _ us hl => match us, hl with | [_, _], _ => rfl) (fun vs H Q E h => ?_) (fun f cdv A outer s H vs Q E hr h => ?_)
  · obtain ⟨c, p, ks, rfl, _⟩ := h; rfl
  · obtain ⟨c, p, ks, rfl, hp, hl, hQ⟩ := h
    refine ⟨_, (C8.pss_cut (ps_set (i := 2) sc_is_refused.nd rfl (Or.inl rfl) (pe_ifExp (pt_cmpR op_eq (pv 0) (C8.pe_gc rfl G.c_KEYS) (nomark _)) (C8.pe_gc rfl G.c_MOST_KEYS) (C8.pe_gc rfl G.c_MOST_BYTES))) (pss_one (ps_ret (pe_or (pe_cmpR op_gt (pe_callB call_len_seq (by rfl) G.b_len PySem.boot_len (pa_cons (pv 1) pa_nil)) (pv 2) (nomark _)) (pe_one (pe_callB (cr_any rfl) (by rfl) G.b_any (by decide +kernel) (pa_cons (pe_lc (own := [("number", 3)]) (g := gName 3) (tt := tYes) (te := (tOp (rI0 fun i j => V.bl (decide (j < i))) (tVar 3) (tC (.int 255)))) rfl sc_is_refused.nd (pi_list (pv 1)) (blkOk_by (own := [("number", 3)]) (N := N_is_refused) (sc := defScope s_is_refused) (by decide +kernel)) (fun _ _ _ _ _ => (pg_name (i := 3) sc_is_refused.nd rfl (Or.inl rfl))) (fun _ _ _ _ _ => pts_nil) (fun _ _ _ _ _ => (pe_cmpR op_gt (pv 3) (C8.pe_gc rfl G.c_GREATEST_BYTE) (nomark _)))) pa_nil))))))), ?_⟩
    refine ⟨fun σ H2 => H2 = H ∧ σ = [some (.int (c : Nat)), some (.ref p), some (.int ((if c = 1 then 60 else 200 : Nat) : Int)), none], ?_, ?_⟩
    · refine ⟨_, rfl, rfl, _, rfl, dI (fun h1 => ?_) fun h1 => ?_⟩
      · have h2 : c = 1 := int_eq h1
        refine ⟨rfl, ?_⟩
        rw [if_pos h2]
        rfl
      · have h2 : c ≠ 1 := int_ne h1
        refine ⟨rfl, ?_⟩
        rw [if_neg h2]
        rfl
    · rintro σ H2 ⟨rfl, rfl⟩
      refine ⟨_, rfl, _, _, rfl, .inl (SqL.of hp), _, rfl, _, _, rfl, rfl, _, rfl, ?_⟩
      rw [iL_len]
      refine dI (fun h1 => ?_) fun h1 => ?_
      · have e : refusedB c ks = true := by
          unfold refusedB
          rw [(decide_eq_true (by omega))]
          rfl
        rw [e] at hQ
        exact hQ _ (Same.refl _)
      · have e : refusedB c ks = ks.any fun b => decide (255 < b) := by
          unfold refusedB
          rw [(decide_eq_false (by omega))]
          rfl
        rw [e] at hQ
        refine ⟨_, rfl, p, rfl, ⟨_, SqL.of hp⟩, fun D nD => ?_⟩
        refine lc_map FB (bs := ks.map fun b => decide (255 < b)) nD hp (by rw [iL_len, List.length_map]) (by rw [List.length_map]; exact hl) FB.mono (fun _ => rfl) ?_ ?_
        · intro i x b H3 Q2 hx hb s3 hD h3
          obtain ⟨n, hn, rfl⟩ := iL_at hx
          have eb := map_at hn hb
          subst eb
          refine ⟨_, rfl, _, _, rfl, rfl, h3 _ _ (Same.refl _) ?_⟩
          show V.bl (decide ((255 : Int) < ((n : Nat) : Int))) = V.bl (decide (255 < n))
          congr 1
          exact (decide_eq_decide.mpr (by omega))
        · intro H3 ys s3 hD hpr
          rw [FB.all hpr] at hD
          refine ⟨D, _, rfl, SqL.of hD, ?_⟩
          have ea : (ks.map fun b => decide (255 < b)).any id = ks.any fun b => decide (255 < b) := by
            rw [List.any_map]
            rfl
          rw [ea]
          exact hQ _ s3
end
end Ke
end
section
set_option maxHeartbeats 4500000
namespace Ke
open Ue15 (Sel Told Ed)
/-! ### the calls in a list of numbers -/
abbrev nInts (l : List Nat) : List Int := l.map fun n : Nat => (n : Int)
inductive Parsed : List Int → List (Nat × List Nat) → Prop
  | nil : Parsed [] []
  | row {c : Nat} {ks : List Nat} {rest : List Int} {cs : List (Nat × List Nat)} : (c = 0 ∨ c = 1) → ks.length ≤ 220 → Parsed rest cs → Parsed ((c : Int) :: (ks.length : Int) :: (nInts ks ++ rest)) ((c, ks) :: cs)
  | no {c : Nat} {rest : List Int} {cs : List (Nat × List Nat)} : 2 ≤ c → c ≤ 6 → Parsed rest cs → Parsed ((c : Int) :: rest) ((c, []) :: cs)
def callC (x : Nat × List Nat) : Ue15.Call := if x.1 = 0 then .text x.2 else if x.1 = 1 then .keys x.2 else if x.1 = 2 then .shows else if x.1 = 3 then .sels else if x.1 = 4 then .registers else if x.1 = 5 then .macro_ else .steps
def playC : Ed → List (Nat × List Nat) → List (List Int)
  | _, [] => []
  | e, x :: r => (Ue15.step e (callC x)).2 :: playC (Ue15.step e (callC x)).1 r
theorem shape_is (p : Int) : PyUe15.shape p = if p = 0 ∨ p = 1 then some (0, 1) else if 2 ≤ p ∧ p ≤ 6 then some (0, 0) else none := by
  unfold PyUe15.shape
  repeat' split
  all_goals first | rfl | omega
theorem nats_of {r : List Int} (h : r.all (PyInside.within 0 4294967295) = true) : ∃ ks : List Nat, r = nInts ks ∧ (nInts ks).all Ue15Neutral.nat = true := by
  refine ⟨r.map Int.toNat, ?_, ?_⟩
  · unfold nInts
    rw [List.map_map]
    conv => lhs; rw [← List.map_id r]
    refine List.map_congr_left fun x hx => ?_
    have := List.all_eq_true.mp h x hx
    unfold PyInside.within at this
    simp at this
    show x = ((x.toNat : Nat) : Int)
    omega
  · rw [List.all_eq_true]
    intro x hx
    obtain ⟨n, hn, rfl⟩ := List.mem_map.mp hx
    obtain ⟨y, hy, rfl⟩ := List.mem_map.mp hn
    have := List.all_eq_true.mp h y hy
    unfold PyInside.within at this
    unfold Ue15Neutral.nat
    simp at this ⊢
    omega
def rawC (x : Nat × List Nat) : List (List Int) := if x.1 ≤ 1 then [[(x.1 : Int)], nInts x.2] else [[(x.1 : Int)]]
theorem calls_parsed : ∀ (f : Nat) (l : List Int) (raw : List (List (List Int))), PyFlat.calls PyUe15.shape f l = some raw → PyInside.calls PyUe15.bound raw = true →
    ∃ cs, Parsed l cs ∧ raw = cs.map rawC ∧ ∀ x ∈ cs, (nInts x.2).all Ue15Neutral.nat = true
  | f, [], raw, h, _ => by
    have : raw = [] := by
      cases f <;> (unfold PyFlat.calls at h; exact (Option.some.inj h).symm)
    exact ⟨[], .nil, by rw [this]; rfl, fun x hx => by cases hx⟩
  | 0, _ :: _, raw, h, _ => by
    unfold PyFlat.calls at h
    cases h
  | f + 1, p :: r, raw, h, hb => by
    unfold PyFlat.calls at h
    have hs := shape_is p
    cases hc : PyFlat.call PyUe15.shape (p :: r) with
    | none =>
      rw [hc] at h
      cases h
    | some ct =>
      obtain ⟨c, t⟩ := ct
      rw [hc] at h
      dsimp only at h
      cases hr : PyFlat.calls PyUe15.shape f t with
      | none =>
        rw [hr] at h
        cases h
      | some cs =>
        rw [hr] at h
        cases h
        have hb2 : PyInside.call PyUe15.bound c = true ∧ PyInside.calls PyUe15.bound cs = true := by
          have : (c :: cs).all (PyInside.call PyUe15.bound) = true := hb
          rw [List.all_cons, Bool.and_eq_true] at this
          exact this
        obtain ⟨cs2, hP, hraw, hnat⟩ := calls_parsed f t cs hr hb2.2
        unfold PyFlat.call at hc
        dsimp only at hc
        rw [hs] at hc
        by_cases h1 : p = 0 ∨ p = 1
        · rw [if_pos h1] at hc
          dsimp only at hc
          rw [if_neg (Nat.not_lt_zero _), List.drop_zero] at hc
          unfold PyFlat.rows PyFlat.rows at hc
          cases r with
          | nil =>
            unfold PyFlat.row at hc
            cases hc
          | cons n r =>
            unfold PyFlat.row at hc
            dsimp only at hc
            by_cases hn : 0 ≤ n ∧ n.toNat ≤ r.length
            · rw [if_pos hn] at hc
              dsimp only at hc
              have hc3 : ((p :: []) :: [r.take n.toNat], r.drop n.toNat) = (c, t) := Option.some.inj hc
              injection hc3 with e1 e2
              have hin := hb2.1
              rw [← e1] at hin
              have hin2 : (r.take n.toNat).length ≤ 220 ∧ (r.take n.toNat).all (PyInside.within 0 4294967295) = true := by
                unfold PyInside.call PyUe15.bound at hin
                rcases h1 with h1 | h1
                · rw [h1] at hin
                  simp [PyInside.each, PyInside.lists] at hin
                  refine ⟨by rw [List.length_take]; omega, by rw [List.all_eq_true]; exact hin.2⟩
                · rw [h1] at hin
                  simp [PyInside.each, PyInside.lists] at hin
                  refine ⟨by rw [List.length_take]; omega, by rw [List.all_eq_true]; exact hin.2⟩
              obtain ⟨ks, ek, hk⟩ := nats_of hin2.2
              have lk : ks.length = n.toNat := by
                have := congrArg List.length ek
                rw [List.length_take, List.length_map] at this
                omega
              obtain ⟨c0, hc0, ec0⟩ : ∃ c0 : Nat, (c0 = 0 ∨ c0 = 1) ∧ p = (c0 : Int) := by
                rcases h1 with h1 | h1
                · exact ⟨0, .inl rfl, h1⟩
                · exact ⟨1, .inr rfl, h1⟩
              refine ⟨(c0, ks) :: cs2, ?_, ?_, fun x hx => ?_⟩
              · have el : p :: n :: r = (c0 : Int) :: (ks.length : Int) :: (nInts ks ++ t) := by
                  rw [ec0, ← e2, ← ek, List.take_append_drop, lk]
                  congr 2
                  omega
                rw [el]
                exact .row hc0 (by rw [← List.length_map (f := fun n : Nat => (n : Int)), show ks.map (fun n : Nat => (n : Int)) = r.take n.toNat from ek.symm]; exact hin2.1) hP
              · rw [List.map_cons, ← hraw, ← e1]
                congr 1
                unfold rawC
                rw [if_pos (show (c0, ks).1 ≤ 1 by dsimp only; omega), ec0, ek]
              · rcases List.mem_cons.mp hx with z | hx
                · rw [z]
                  exact hk
                · exact hnat x hx
            · rw [if_neg hn] at hc
              cases hc
        · rw [if_neg h1] at hc
          by_cases h2 : 2 ≤ p ∧ p ≤ 6
          · rw [if_pos h2] at hc
            dsimp only at hc
            rw [if_neg (Nat.not_lt_zero _), List.drop_zero] at hc
            unfold PyFlat.rows at hc
            dsimp only at hc
            have hc3 : ((p :: []) :: [], r) = (c, t) := Option.some.inj hc
            injection hc3 with e1 e2
            obtain ⟨c0, ec0⟩ : ∃ c0 : Nat, p = (c0 : Int) := ⟨p.toNat, by omega⟩
            refine ⟨(c0, []) :: cs2, ?_, ?_, fun x hx => ?_⟩
            · rw [ec0, e2]
              exact .no (by omega) (by omega) hP
            · rw [List.map_cons, ← hraw, ← e1]
              congr 1
              unfold rawC
              rw [if_neg (show ¬ (c0, ([] : List Nat)).1 ≤ 1 by dsimp only; omega), ec0]
            · rcases List.mem_cons.mp hx with z | hx
              · rw [z]
                rfl
              · exact hnat x hx
          · rw [if_neg h2] at hc
            cases hc
def CallOk (x : Nat × List Nat) : Prop := (x.1 ≤ 1 ∧ x.2.length ≤ 220) ∨ (2 ≤ x.1 ∧ x.1 ≤ 6 ∧ x.2 = [])
theorem Parsed.ok : ∀ {l : List Int} {cs : List (Nat × List Nat)}, Parsed l cs → ∀ x ∈ cs, CallOk x
  | _, _, .nil, x, hx => by cases hx
  | _, _, .row h1 h2 t, x, hx => by
    rcases (List.mem_cons.mp hx) with e | hx
    · rw [e]
      exact .inl ⟨by dsimp only; omega, h2⟩
    · exact Parsed.ok t x hx
  | _, _, .no h1 h2 t, x, hx => by
    rcases (List.mem_cons.mp hx) with e | hx
    · rw [e]
      exact .inr ⟨h1, h2, rfl⟩
    · exact Parsed.ok t x hx
theorem whole_raw {x : Nat × List Nat} (h : CallOk x) : (PyUe15.whole (rawC x)).headD [] = (x.1 : Int) :: nInts x.2 := by
  obtain ⟨c, ks⟩ := x
  rcases h with ⟨h1, _⟩ | ⟨h1, h2, h3⟩
  · have h4 : c = 0 ∨ c = 1 := by
      have : c ≤ 1 := h1
      omega
    rcases h4 with e | e
    · subst e
      rfl
    · subst e
      rfl
  · have e3 : ks = [] := h3
    subst e3
    have h4 : c = 2 ∨ c = 3 ∨ c = 4 ∨ c = 5 ∨ c = 6 := by
      have a1 : 2 ≤ c := h1
      have a2 : c ≤ 6 := h2
      omega
    rcases h4 with e | e | e | e | e <;> (subst e; rfl)
theorem to_nats : ∀ (ks : List Nat), (nInts ks).map Int.toNat = ks
  | [] => rfl
  | k :: ks => by
    show Int.toNat (k : Int) :: (nInts ks).map Int.toNat = k :: ks
    rw [Int.toNat_natCast, to_nats ks]
theorem callOf_is {x : Nat × List Nat} (h : CallOk x) (hn : (nInts x.2).all Ue15Neutral.nat = true) : Ue15Neutral.callOf ((x.1 : Int) :: nInts x.2) = some (callC x) := by
  obtain ⟨c, ks⟩ := x
  have hc : c ≤ 6 := by
    rcases h with ⟨h1, _⟩ | ⟨h1, h2, h3⟩
    · exact Nat.le_trans h1 (by decide)
    · exact h2
  have h1 : ((c : Int) :: nInts ks).all Ue15Neutral.nat = true := by
    rw [List.all_cons, hn, Bool.and_true]
    unfold Ue15Neutral.nat
    simp
    omega
  have h2 : ((c : Int) :: nInts ks).map Int.toNat = c :: ks := by
    rw [List.map_cons, Int.toNat_natCast, to_nats]
  unfold Ue15Neutral.callOf
  rw [if_neg (by show ¬ (((c : Int) :: nInts ks).all Ue15Neutral.nat = false); rw [h1]; decide)]
  show Ue15Neutral.callIn (((c : Int) :: nInts ks).map Int.toNat) = _
  rw [h2]
  rcases h with ⟨h1, _⟩ | ⟨h1, h2, h3⟩
  · have h4 : c = 0 ∨ c = 1 := by
      have : c ≤ 1 := h1
      omega
    rcases h4 with e | e
    · subst e
      rfl
    · subst e
      rfl
  · have e3 : ks = [] := h3
    subst e3
    have h4 : c = 2 ∨ c = 3 ∨ c = 4 ∨ c = 5 ∨ c = 6 := by
      have a1 : 2 ≤ c := h1
      have a2 : c ≤ 6 := h2
      omega
    rcases h4 with e | e | e | e | e <;> (subst e; rfl)
theorem played_cons {S : Type} (st : S → List (List Int) → S × List Int) (s : S) (c : List (List Int)) (r : List (List (List Int))) : PyFlat.played st s (c :: r) = (st s c).2 :: PyFlat.played st (st s c).1 r := rfl
theorem playC_cons (e : Ed) (x : Nat × List Nat) (r : List (Nat × List Nat)) : playC e (x :: r) = (Ue15.step e (callC x)).2 :: playC (Ue15.step e (callC x)).1 r := by
  rw [playC]
theorem step_of {s : Ed} {l : List Int} {c : Ue15.Call} (h : Ue15Neutral.callOf l = some c) : Ue15Neutral.step s l = Ue15.step s c := by
  unfold Ue15Neutral.step
  rw [h]
theorem step_is (s : Ed) {x : Nat × List Nat} (h : CallOk x) (hn : (nInts x.2).all Ue15Neutral.nat = true) : Ue15Neutral.step s ((PyUe15.whole (rawC x)).headD []) = Ue15.step s (callC x) := by
  rw [whole_raw h]
  exact step_of (callOf_is h hn)
theorem played_is (st : Ed → List (List Int) → Ed × List Int) (cs : List (Nat × List Nat)) (hs : ∀ s, ∀ x ∈ cs, st s (PyUe15.whole (rawC x)) = Ue15.step s (callC x)) :
    ∀ s, PyFlat.played st s ((cs.map rawC).map PyUe15.whole) = playC s cs := by
  induction cs with
  | nil => exact fun _ => rfl
  | cons x cs ih =>
    intro s
    rw [List.map_cons, List.map_cons, played_cons, playC_cons, hs s x List.mem_cons_self, ih fun s y hy => hs s y (List.mem_cons_of_mem _ hy)]
theorem asked_told {ns : List Int} (h : PyUe15.answers_asked ns = true) : ∃ cs, Parsed ns cs ∧ PyUe15.answers ns = PyFlat.told (playC Ue15.init cs) ∧ cs.length ≤ 40 ∧ (PyUe15.answers ns).length ≤ 10000000 := by
  unfold PyUe15.answers_asked at h
  cases hc : PyFlat.calls PyUe15.shape ns.length ns with
  | none =>
    rw [hc] at h
    cases h
  | some raw =>
    rw [hc] at h
    dsimp only at h
    rw [Bool.and_eq_true, Bool.and_eq_true, Bool.and_eq_true, Bool.and_eq_true] at h
    obtain ⟨⟨⟨⟨h1, h2⟩, h3⟩, h4⟩, h5⟩ := h
    obtain ⟨cs, hP, er, hn⟩ := calls_parsed _ _ _ hc h3
    subst er
    refine ⟨cs, hP, ?_, ?_, of_decide_eq_true h5⟩
    · unfold PyUe15.answers PyUe15.calls
      rw [hc]
      dsimp only
      exact congrArg PyFlat.told (played_is (fun s c => Ue15Neutral.step s (c.headD [])) cs (fun s x hx => step_is s (hP.ok x hx) (hn x hx)) Ue15.init)
    · have := of_decide_eq_true h2
      rw [List.length_map] at this
      exact this
end Ke
end
section
set_option maxHeartbeats 4500000
namespace Ke
open PySem PySem.Spec L2 LamX PyProof.Rows
/-! ### a list of the caller's that the callee never sees -/
def frm (sp : Sp) : Sp := fun vs H Q E => sp vs H Q E ∨ ∃ (g : Addr) (xs : List V), H g = some (.lst xs) ∧ sp vs (vis [g] H) (fun v H2 => H2 g = none → Q v (upd H2 g (.lst xs))) E
section
variable {K : PySem.W.Frag} {mg : Str → Option Value} {P : Program} {w : World} {base : Heap}
theorem hok_vis {H : Hp} {h : Heap} {g : Addr} {xs : List V} (x : HOk P w H h) (hg : H g = some (.lst xs)) : HOk P w (vis [g] H) h := fun b o e => by
  obtain ⟨e1, e2⟩ := vis_of e
  refine (x b o e1).stay (fun _ _ _ q => q) (fun c q => vis_in q fun z => ?_) fun c ys q => vis_in q fun z => ?_
  · rw [List.mem_singleton.mp z, hg] at q
    cases q
  · rw [List.mem_singleton.mp z, hg] at q
    cases q
theorem env0_vis {A : Around} {outer : List Env} {s : Shared} {H : Hp} {g : Addr} {xs : List V} (e : Env0 P w K mg base A outer s H) (hg : H g = some (.lst xs)) : Env0 P w K mg base A outer s (vis [g] H) := by
  have no : ∀ b, H b = none → vis [g] H b = none := fun b h => by
    unfold vis
    split
    · rfl
    · exact h
  exact ⟨e.frames, e.mod, fun b o q => ⟨(e.bs b o q).1, no b (e.bs b o q).2⟩, e.bsz, e.funs, fun b hb => no b (e.frf b hb), hok_vis e.hok hg, e.bare⟩
theorem ce_back {A : Around} {outer : List Env} {s s2 : Shared} {H : Hp} {g : Addr} {xs : List V} {Q : VK} {u : Value} (e : Env0 P w K mg base A outer s H) (hg : H g = some (.lst xs))
    (c : CE outer P w (vis [g] H) s (fun v H2 => H2 g = none → Q v (upd H2 g (.lst xs))) u s2) : CE outer P w H s Q u s2 := by
  obtain ⟨v, H2, os, bare, un, ok, r, q⟩ := c
  obtain ⟨z, its, n, rr, eg⟩ := e.hok g _ hg
  have gF : g ∉ frs outer := fun m => by
    have := e.frf g m
    rw [hg] at this
    cases this
  have v0 : vis [g] H g = none := by
    unfold vis
    rw [if_pos (List.mem_singleton.mpr rfl)]
  have n2 : H2 g = none := un.free g _ eg v0 (by simp)
  have no : ∀ b, H b = none → vis [g] H b = none ∧ b ≠ g := fun b h => by
    refine ⟨?_, fun m => ?_⟩
    · unfold vis
      split
      · rfl
      · exact h
    · rw [m, hg] at h
      cases h
  have inn : ∀ b o, H b = some o → (∀ ys, o ≠ .lst ys) → vis [g] H b = some o ∧ b ≠ g := fun b o h nl => by
    have ne : b ≠ g := fun m => by
      rw [m, hg] at h
      exact nl xs (Option.some.inj h).symm
    exact ⟨vis_in h fun z => ne (List.mem_singleton.mp z), ne⟩
  refine ⟨v, upd H2 g (.lst xs), os, bare, ⟨fun b o h hb => un.keep b o h (no b hb).1, fun b o h hb => un.slot b o h (no b hb).1, fun b o h hb hx => ?_, un.there, fun b ys h => ?_, fun b o u h => ?_, fun b ps h => ?_⟩, ?_, r, q n2⟩
  · rw [upd_ne (no b hb).2]
    exact un.free b o h (no b hb).1 hx
  · obtain ⟨h1, h2⟩ := inn b _ h (fun ys z => by cases z)
    rw [upd_ne h2]
    exact un.tups b ys h1
  · obtain ⟨h1, h2⟩ := inn b _ h (fun ys z => by cases z)
    rw [upd_ne h2]
    exact un.frzs b o u h1
  · obtain ⟨h1, h2⟩ := inn b _ h (fun ys z => by cases z)
    rw [upd_ne h2]
    exact un.tbls b ps h1
  · intro b o h
    by_cases m : b = g
    · subst m
      rw [upd_same] at h
      cases h
      exact ⟨z, its, n, rr, un.keep b _ eg v0 gF (by simp)⟩
    · rw [upd_ne m] at h
      exact (ok b o h).stay (fun _ _ _ q => q) (fun c q => by rw [upd_ne (ne_of_none q n2)]; exact q) fun c ys q => by rw [upd_ne (ne_of_none q n2)]; exact q
theorem fn_frm {k : Nat} {f : Addr} {fd : FuncData} {ps : List Str} {sp : Sp} (F : FnOk P w K mg base C8.CX0 k f fd ps sp) : FnOk P w K mg base C8.CX0 k f fd ps (frm sp) := by
  refine ⟨fun vs H Q E h => ?_, fun A outer s H args us vs Q E hr he hb hv hs => ?_⟩
  · rcases h with h | ⟨g, xs, _, h⟩
    · exact F.len _ _ _ _ h
    · exact F.len _ _ _ _ h
  · rcases hs with hs | ⟨g, xs, hg, hs⟩
    · exact F.run A outer s H args us vs Q E hr he hb hv hs
    · refine codeAny_mono (F.run A outer s _ args us vs _ E hr (env0_vis he hg) hb hv hs) fun r s2 x => ?_
      cases r with
      | error e => exact x
      | ok fl =>
        cases fl with
        | ret u => exact ce_back he hg x
        | next => exact x
        | brk => exact x
        | cont => exact x
theorem cal_frm {k : Nat} {x : Str} {sp : Sp} {dvs : List V} (c : C8.Cal P w K mg base k x sp dvs) : C8.Cal P w K mg base k x (frm sp) dvs := by
  obtain ⟨f, fd, ps, ds, F, r⟩ := c.ex
  exact ⟨f, fd, ps, ds, fn_frm F, r⟩
theorem mak_frm {k : Nat} {x : Str} {C : Addr} {sp : Sp} {dvs : List V} (c : C8.Mak P w K mg base k x C sp dvs) : C8.Mak P w K mg base k x C (frm sp) dvs := by
  obtain ⟨f, fd, ps, ds, M, F, r⟩ := c.ex
  exact ⟨f, fd, ps, ds, M, fn_frm F, r⟩
end
end Ke
end
section
set_option maxHeartbeats 4500000
namespace Ke
open PySem PySem.Spec L2 LamX PyProof.Rows
open Ue15 (Sel Told Ed)
def pcsRow (l : List (List Nat)) : List Nat := l.flatMap fun w => w.length :: w
theorem pcs_len : ∀ {l : List (List Nat)}, (∀ w ∈ l, w.length ≤ 200) → (pcsRow l).length ≤ 201 * l.length
  | [], _ => Nat.zero_le _
  | w :: l, h => by
    have h1 := h w List.mem_cons_self
    have h2 := pcs_len (l := l) fun v hv => h v (List.mem_cons_of_mem _ hv)
    show (w.length :: w ++ pcsRow l).length ≤ 201 * (l.length + 1)
    rw [List.length_append, List.length_cons]
    omega
def regRow (e : Ed) : List Nat := ((e.pieces.length :: pcsRow e.pieces) ++ (e.search.length :: e.search)) ++ (e.last.length :: e.last)
def macRow (e : Ed) : List Nat := (e.macro_.length :: e.macro_) ++ (match e.recording with
  | none => [0]
  | some w => (w.length + 1) :: w)
def stpRow (e : Ed) : List Nat := [e.undo.length, e.redo.length, e.count]
def spTell (C : Ca) (f : Ed → List Nat) : Sp := fun vs H Q _ => ∃ (N : Nat) (a : Addr) (L : Lo) (e : Ed) (cq : List Nat), vs = [.ref a] ∧ EdAt C H a L e cq ∧ FInv N e ∧ N ≤ 3000000 ∧ ∀ H2 y, Same H H2 → H y = none → TxtAt H2 y (f e) → Q (.ref y) H2
section
variable {P : Program} {w : World} {K : PySem.W.Frag} {mg : Str → Option Value} {base : Heap} {C : Ca}
theorem k_answer_of_registers (G : Gs K mg C) : C8.Cal P w K mg base 2 "answer_of_registers" (spTell C regRow) [] := by
  have K_counted := k_counted (P := P) (w := w) (base := base) G
  refine cal_of G.d_answer_of_registers sc_answer_of_registers (fun _ _ _ _ _ _ us hl => match us, hl with | [_], _ => rfl) (fun vs H Q E h => ?_) (fun f cdv A outer s H vs Q E hr h => ?_)
  · obtain ⟨N, a, L, e, cq, rfl, _⟩ := h; rfl
  · obtain ⟨N, a, L, e, cq, rfl, hE, hF, hN, hQ⟩ := h
    refine ⟨_, (pss_cons (ps_set (i := 1) sc_answer_of_registers.nd rfl (Or.inl rfl) (pe_lst (pa_cons (pe_callB call_len_seq (by rfl) G.b_len PySem.boot_len (pa_cons (pe_fld (pv 0) rfl) pa_nil)) pa_nil))) (pss_cons (ps_for PassesOwn.never rfl (pi_list (pe_fld (pv 0) rfl)) (pg_name (i := 2) sc_answer_of_registers.nd rfl (Or.inl rfl)) (pss_one (ps_expr (pe_bm PySem.F.plainAttrs_list PySem.F.slot_list_extend PySem.F.type_list_extend mt_extend (pv 1) (pa_cons (C8.pe_c K_counted hr (by decide) rfl (pa_cons (pv 2) pa_nil)) pa_nil))))) (pss_one (ps_ret (pe_op op_cat (pe_op op_cat (pv 1) (C8.pe_c K_counted hr (by decide) rfl (pa_cons (pe_fld (pv 0) rfl) pa_nil))) (C8.pe_c K_counted hr (by decide) rfl (pa_cons (pe_fld (pv 0) rfl) pa_nil))))))), ?_⟩
    obtain ⟨np, lw⟩ := hF.inv.pcs
    have hsr := hF.srch
    have hla := hF.last
    obtain ⟨as, hpc, hpr⟩ := hE.pcs
    have hpcH := (vis_of hpc).1
    have lp := pr_len hpr
    refine ⟨_, rfl, a, C.ed, L.dx, _, _, rfl, hE.obj, G.k_Editor, G.n_Editor_pieces, lk_zip fe_pieces rfl, _, _, rfl, .inl (SqL.of hpcH), ?_⟩
    rw [List.length_map, lp]
    refine ⟨Nat.le_of_lt (szl (by show 1 ≤ 10000000; decide)), fun x nx => ?_⟩
    have s0 : Same H (upd H x (.lst [V.int (e.pieces.length : Nat)])) := same_new nx
    refine ⟨_, rfl, a, C.ed, L.dx, _, _, rfl, s0 _ _ hE.obj, G.k_Editor, G.n_Editor_pieces, lk_zip fe_pieces rfl, L.ppc, rfl, ⟨_, SqL.of (s0 _ _ hpcH)⟩, ?_⟩
    refine for_list (a := L.ppc) (xs := as.map V.ref) (fun i σ H2 => Same H H2 ∧ TxtAt H2 x (e.pieces.length :: pcsRow (e.pieces.take i)) ∧ ∃ v, σ = [some (.ref a), some (.ref x), v]) ⟨s0, upd_same, none, rfl⟩ (fun i σ H2 _ ⟨e, _⟩ => SqL.of (e _ _ hpcH)) ?_ ?_
    · rintro i v σ H2 hi ⟨s2, hx, v2, rfl⟩
      obtain ⟨c, hc, rfl⟩ := ref_at hi
      obtain ⟨pc, hpc2, hcs⟩ := pr_get hpr hc
      have hcH : TxtAt H2 c pc := (TxtAt.same hcs (vis_sub _ _)).same s2
      have l1 := lw pc (List.mem_of_getElem? hpc2)
      have l2 := pcs_len (l := e.pieces.take i) fun v hv => lw v (List.mem_of_mem_take hv)
      rw [List.length_take] at l2
      refine ⟨_, rfl, .inl ⟨rfl, _, SqL.of hx⟩, _, rfl, c, pc, rfl, hcH, by omega, fun H3 y s3 ny hy => ?_⟩
      refine ⟨x, y, _, _, rfl, rfl, hx.same s3, hy, by rw [iL_len, iL_len, List.length_cons, List.length_cons, sizeLine_eq]; omega, same_put (s2.trans s3) nx, ?_, _, rfl⟩
      show upd _ _ _ _ = _
      rw [upd_same, take_at hpc2]
      unfold pcsRow
      rw [List.flatMap_append, List.flatMap_singleton, ← iL_app]
      rfl
    · rintro σ H2 ⟨s2, hx, v2, rfl⟩
      rw [List.length_map, lp, List.take_length] at hx
      have l2 := pcs_len lw
      have hE2 := hE.same s2
      have sr : TxtAt H2 L.psr e.search := hE2.srch.same (vis_sub _ _)
      refine ⟨_, rfl, _, rfl, a, C.ed, L.dx, _, _, rfl, hE2.obj, G.k_Editor, G.n_Editor_searched, lk_zip fe_searched rfl, L.psr, e.search, rfl, sr, by omega, fun H3 y s3 ny hy => ?_⟩
      refine ⟨x, y, _, _, rfl, rfl, hx.same s3, hy, by rw [iL_len, iL_len, List.length_cons, List.length_cons, sizeLine_eq]; omega, fun z nz => ?_⟩
      dsimp only
      rw [← iL_app]
      have s4 : Same H3 (upd H3 z (.lst (iL ((e.pieces.length :: pcsRow e.pieces) ++ (e.search.length :: e.search))))) := same_new nz
      have hz : TxtAt (upd H3 z (.lst (iL ((e.pieces.length :: pcsRow e.pieces) ++ (e.search.length :: e.search))))) z ((e.pieces.length :: pcsRow e.pieces) ++ (e.search.length :: e.search)) := upd_same
      have t4 := (s2.trans s3).trans s4
      have hE4 := hE.same t4
      have la : TxtAt _ L.pl e.last := hE4.last.same (vis_sub _ _)
      refine ⟨_, rfl, a, C.ed, L.dx, _, _, rfl, hE4.obj, G.k_Editor, G.n_Editor_last_change, lk_zip fe_last_change rfl, L.pl, e.last, rfl, la, by omega, fun H5 y5 s5 ny5 hy5 => ?_⟩
      refine ⟨z, y5, _, _, rfl, rfl, hz.same s5, hy5, by rw [iL_len, iL_len, List.length_append, List.length_cons, List.length_cons, List.length_cons, sizeLine_eq]; omega, fun z6 n6 => hQ _ _ ((t4.trans s5).trans (same_new n6)) (none_of (t4.trans s5) n6) ?_⟩
      show upd _ _ _ _ = _
      rw [upd_same, ← iL_app]
      rfl
theorem k_answer_of_macro (G : Gs K mg C) : C8.Cal P w K mg base 2 "answer_of_macro" (spTell C macRow) [] := by
  have K_counted := k_counted (P := P) (w := w) (base := base) G
  refine cal_of G.d_answer_of_macro sc_answer_of_macro (fun _ _ _ _ _ _ us hl => match us, hl with | [_], _ => rfl) (fun vs H Q E h => ?_) (fun f cdv A outer s H vs Q E hr h => ?_)
  · obtain ⟨N, a, L, e, cq, rfl, _⟩ := h; rfl
  · obtain ⟨N, a, L, e, cq, rfl, hE, hF, hN, hQ⟩ := h
    refine ⟨_, (pss_cons (ps_if (pt_cmpR op_isN (pe_fld (pv 0) rfl) pe_non (nomark _)) (pss_one (ps_ret (pe_op op_cat (C8.pe_c K_counted hr (by decide) rfl (pa_cons (pe_fld (pv 0) rfl) pa_nil)) (pe_lst (pa_cons pe_int pa_nil))))) pss_nil) (pss_one (ps_ret (pe_op op_cat (pe_op op_cat (C8.pe_c K_counted hr (by decide) rfl (pa_cons (pe_fld (pv 0) rfl) pa_nil)) (pe_lst (pa_cons (pe_op op_add (pe_callB call_len_seq (by rfl) G.b_len PySem.boot_len (pa_cons (pe_fld (pv 0) rfl) pa_nil)) pe_int) pa_nil))) (pe_fld (pv 0) rfl))))), ?_⟩
    have hma := hF.mac
    have mac : TxtAt H L.pm e.macro_ := hE.mac.same (vis_sub _ _)
    refine ⟨_, rfl, a, C.ed, L.dx, _, _, rfl, hE.obj, G.k_Editor, G.n_Editor_recorded, lk_zip fe_recorded rfl, rfl, _, rfl, ?_⟩
    have hrec := hE.rec_
    cases hke : e.recording with
    | none =>
      rw [hke] at hrec
      have e0 : L.rv = .non := hrec.1
      have er : macRow e = (e.macro_.length :: e.macro_) ++ [0] := by
        unfold macRow
        rw [hke]
      show if decide (L.rv = V.non) = true then _ else _
      rw [e0]
      refine ⟨_, rfl, a, C.ed, L.dx, _, _, rfl, hE.obj, G.k_Editor, G.n_Editor_macro, lk_zip fe_macro rfl, L.pm, e.macro_, rfl, mac, by omega, fun H1 x s1 nx hx => ?_⟩
      refine ⟨Nat.le_of_lt (szl (by show 1 ≤ 10000000; decide)), fun y ny => ?_⟩
      have s2 : Same H1 (upd H1 y (.lst [V.int 0])) := same_new ny
      refine ⟨x, y, _, _, rfl, rfl, hx.same s2, upd_same, by rw [iL_len, List.length_cons, sizeLine_eq]; show _ + 1 ≤ _; omega, fun z nz => hQ _ _ ((s1.trans s2).trans (same_new nz)) (none_of (s1.trans s2) nz) ?_⟩
      show upd _ _ _ _ = _
      rw [upd_same, er, iL_app]
      rfl
    | some l =>
      rw [hke] at hrec
      obtain ⟨pk, ek, _, hpk⟩ := hrec
      have hl := hF.rec_ l hke
      have er : macRow e = ((e.macro_.length :: e.macro_) ++ [l.length + 1]) ++ l := by
        unfold macRow
        rw [hke, List.append_assoc]
        rfl
      show if decide (L.rv = V.non) = true then _ else _
      rw [ek]
      refine ⟨_, rfl, a, C.ed, L.dx, _, _, rfl, hE.obj, G.k_Editor, G.n_Editor_macro, lk_zip fe_macro rfl, L.pm, e.macro_, rfl, mac, by omega, fun H1 x s1 nx hx => ?_⟩
      have hE1 := hE.same s1
      refine ⟨_, rfl, a, C.ed, L.dx, _, _, rfl, hE1.obj, G.k_Editor, G.n_Editor_recorded, lk_zip fe_recorded rfl, pk, _, by rw [ek], .inl (SqL.of (s1 _ _ hpk)), _, _, rfl, rfl, ?_⟩
      rw [iL_len]
      refine ⟨Nat.le_of_lt (szl (by show 1 ≤ 10000000; decide)), fun y ny => ?_⟩
      have t2 : Same H1 (upd H1 y (.lst [V.int ((l.length : Int) + 1)])) := same_new ny
      refine ⟨x, y, _, _, rfl, rfl, hx.same t2, upd_same, by rw [iL_len, List.length_cons, sizeLine_eq]; show _ + 1 ≤ _; omega, fun z nz => ?_⟩
      have hz0 : iL (e.macro_.length :: e.macro_) ++ [V.int ((l.length : Int) + 1)] = iL ((e.macro_.length :: e.macro_) ++ [l.length + 1]) := by
        rw [iL_app]
        rfl
      dsimp only
      rw [hz0]
      have t3 : Same (upd H1 y (.lst [V.int ((l.length : Int) + 1)])) (upd (upd H1 y (.lst [V.int ((l.length : Int) + 1)])) z (.lst (iL ((e.macro_.length :: e.macro_) ++ [l.length + 1])))) := same_new nz
      have hz : TxtAt (upd (upd H1 y (.lst [V.int ((l.length : Int) + 1)])) z (.lst (iL ((e.macro_.length :: e.macro_) ++ [l.length + 1])))) z ((e.macro_.length :: e.macro_) ++ [l.length + 1]) := upd_same
      have t4 := (s1.trans t2).trans t3
      have hE4 := hE.same t4
      refine ⟨_, rfl, a, C.ed, L.dx, _, _, rfl, hE4.obj, G.k_Editor, G.n_Editor_recorded, lk_zip fe_recorded rfl, z, pk, _, _, rfl, by rw [ek], hz, t4 _ _ hpk, by rw [iL_len, iL_len, List.length_append, List.length_cons, sizeLine_eq]; show _ + 1 + 1 + _ ≤ _; omega, fun z6 n6 => hQ _ _ (t4.trans (same_new n6)) (none_of t4 n6) ?_⟩
      show upd _ _ _ _ = _
      rw [upd_same, er, iL_app ((e.macro_.length :: e.macro_) ++ [l.length + 1])]
theorem k_answer_of_steps (G : Gs K mg C) : C8.Cal P w K mg base 1 "answer_of_steps" (spTell C stpRow) [] := by
  refine cal_of G.d_answer_of_steps sc_answer_of_steps (fun _ _ _ _ _ _ us hl => match us, hl with | [_], _ => rfl) (fun vs H Q E h => ?_) (fun f cdv A outer s H vs Q E hr h => ?_)
  · obtain ⟨N, a, L, e, cq, rfl, _⟩ := h; rfl
  · obtain ⟨N, a, L, e, cq, rfl, hE, hF, hN, hQ⟩ := h
    refine ⟨_, (pss_one (ps_ret (pe_lst (pa_cons (pe_callB call_len_seq (by rfl) G.b_len PySem.boot_len (pa_cons (pe_fld (pv 0) rfl) pa_nil)) (pa_cons (pe_callB call_len_seq (by rfl) G.b_len PySem.boot_len (pa_cons (pe_fld (pv 0) rfl) pa_nil)) (pa_cons (pe_fld (pv 0) rfl) pa_nil)))))), ?_⟩
    have lu := pr_len hE.undP
    have lr := pr_len hE.redP
    refine ⟨_, rfl, a, C.ed, L.dx, _, _, rfl, hE.obj, G.k_Editor, G.n_Editor_undoable, lk_zip fe_undoable rfl, _, _, rfl, .inl (SqL.of hE.und), _, rfl, a, C.ed, L.dx, _, _, rfl, hE.obj, G.k_Editor, G.n_Editor_redoable, lk_zip fe_redoable rfl, _, _, rfl, .inl (SqL.of hE.red), _, rfl, a, C.ed, L.dx, _, _, rfl, hE.obj, G.k_Editor, G.n_Editor_count, lk_zip fe_count rfl, ?_⟩
    rw [List.length_map, List.length_reverse, lu, List.length_map, List.length_reverse, lr]
    refine ⟨Nat.le_of_lt (szl (by show 3 ≤ 10000000; decide)), fun x nx => hQ _ _ (same_new nx) nx ?_⟩
    show upd _ _ _ _ = _
    rw [upd_same]
    rfl
end
end Ke
end
section
set_option maxHeartbeats 4500000
namespace Ke
open PySem PySem.Spec L2 LamX PyProof.Rows
open Ue15 (Sel Told Ed)
def tellRow (c : Nat) (e : Ed) : List Nat := if c = 2 then e.text.length :: e.text else if c = 3 then keptRow e else if c = 4 then regRow e else if c = 5 then macRow e else stpRow e
def behE (c : Nat) (ks : List Nat) (e : Ed) : Ed := if c = 1 then ks.foldl Ue15.press e else e
def rowE (c : Nat) (ks : List Nat) (e : Ed) : List Nat := if c = 1 then keysRow (ks.foldl Ue15.press e) else tellRow c e
section
variable {P : Program} {w : World} {K : PySem.W.Frag} {mg : Str → Option Value} {base : Heap} {C : Ca}
theorem held_imp {k : Nat} {f : Addr} {sp sp2 : Sp} (h : HeldM P w K mg base k f sp) (i : ∀ vs H Q E, sp2 vs H Q E → sp vs H Q E) : HeldM P w K mg base k f sp2 := by
  obtain ⟨j, hj, fd, ps, F, r⟩ := h
  exact ⟨j, hj, fd, ps, F.imp i, r⟩
theorem tell_told {f : Ed → List Nat} (vs : List V) (H : Hp) (Q : VK) (E : XK) (h : spTell C f vs H Q E) : spTold C f vs H Q E := by
  obtain ⟨N, a, L, e, cq, h1, hE, hF, _, hQ⟩ := h
  exact ⟨a, L, e, cq, h1, hE, hF.inv, hQ⟩
theorem tells (G : Gs K mg C) {c : Nat} (h1 : 2 ≤ c) (h2 : c ≤ 6) : ∃ n, rows_TELLING.lookup (c : Int) = some n ∧ ∀ f, mg n = some (.ref f) → HeldM P w K mg base 17 f (spTell C (tellRow c)) := by
  have h3 : c = 2 ∨ c = 3 ∨ c = 4 ∨ c = 5 ∨ c = 6 := by omega
  rcases h3 with e | e | e | e | e
  · subst e
    exact ⟨_, rfl, fun f g => held_imp (held_m (k_answer_of_shows G) (by decide) g) tell_told⟩
  · subst e
    exact ⟨_, rfl, fun f g => held_imp (held_m (k_answer_of_selections G) (by decide) g) tell_told⟩
  · subst e
    exact ⟨_, rfl, fun f g => held_m (k_answer_of_registers G) (by decide) g⟩
  · subst e
    exact ⟨_, rfl, fun f g => held_m (k_answer_of_macro G) (by decide) g⟩
  · subst e
    exact ⟨_, rfl, fun f g => held_m (k_answer_of_steps G) (by decide) g⟩
def sp_answer_of (C : Ca) : Sp := fun vs H Q _ => ∃ (N : Nat) (a p : Addr) (L : Lo) (e : Ed) (c : Nat) (ks : List Nat), vs = [.ref a, .int (c : Nat), .ref p] ∧ EdAt C H a L e [] ∧ FInv N e ∧ N + 501 * ks.length ≤ 2900000 ∧ TxtAt (vis (edM C a L) H) p ks ∧ 1 ≤ c ∧ c ≤ 6 ∧
  ∀ H2 L2 y, EdAt C H2 a L2 (behE c ks e) [] → FInv (N + 501 * ks.length) (behE c ks e) → Fr2 C a L H L2 H2 → TxtAt H2 y (rowE c ks e) → Q (.ref y) H2
theorem k_answer_of (G : Gs K mg C) (TB : TabB base mg C.tc C.tP) : C8.Cal P w K mg base 18 "answer_of" (sp_answer_of C) [] := by
  have K_answer_of_keys := k_answer_of_keys (P := P) (w := w) (base := base) G TB
  refine cal_of G.d_answer_of sc_answer_of (fun _ _ _ _ _ _ us hl => match us, hl with | [_, _, _], _ => rfl) (fun vs H Q E h => ?_) (fun f cdv A outer s H vs Q E hr h => ?_)
  · obtain ⟨N, a, p, L, e, c, ks, rfl, _⟩ := h; rfl
  · obtain ⟨N, a, p, L, e, c, ks, rfl, hE, hF, hN, hp, hc1, hc6, hQ⟩ := h
    refine ⟨_, (pss_cons (ps_if (pt_cmpR op_eq (pv 1) (C8.pe_gc rfl G.c_KEYS) (nomark _)) (pss_one (ps_ret (C8.pe_c K_answer_of_keys hr (by decide) rfl (pa_cons (pv 0) (pa_cons (pv 2) pa_nil))))) pss_nil) (pss_cons (ps_set (i := 3) sc_answer_of.nd rfl (Or.inl rfl) (pe_ix (ix_W G.t_TELLING) (C8.pe_gc rfl G.g_TELLING) (pv 1) (fun _ _ => rfl))) (pss_one (ps_ret (pe_callM (k := 17) (i := 3) (hr.mono (by decide)) rfl (Or.inl rfl) (pa_cons (pv 0) pa_nil)))))), ?_⟩
    refine ⟨_, rfl, rfl, _, rfl, dI (fun h1 => ?_) fun h1 => ?_⟩
    · have h2 : c = 1 := int_eq h1
      subst h2
      exact ⟨_, rfl, _, rfl, N, a, p, L, e, ks, rfl, hE, hF, hN, hp, hQ⟩
    · have h2 : c ≠ 1 := int_ne h1
      have e1 : behE c ks e = e := if_neg h2
      have e2 : rowE c ks e = tellRow c e := if_neg h2
      rw [e1, e2] at hQ
      obtain ⟨n, hn, hf⟩ := tells (P := P) (w := w) (base := base) G (c := c) (by omega) hc6
      refine ⟨_, rfl, (c : Int), n, rfl, rfl, hn, fun f2 g2 => ?_⟩
      exact ⟨f2, _, rfl, hf f2 g2, _, rfl, N, a, L, e, [], rfl, hE, hF, by omega, fun H2 y s2 ny hy => hQ _ _ _ (hE.same s2) (hF.mono (by omega)) (vis_ext (ExtN.of s2)) hy⟩
end
end Ke
end
section
set_option maxHeartbeats 4500000
namespace Ke
open PySem PySem.Spec L2 LamX PyProof.Rows
open Ue15 (Sel Told Ed)
def oneC (x : Nat × List Nat) : List Nat := if x.1 ≤ 1 then x.1 :: x.2.length :: x.2 else [x.1]
def flatC (cs : List (Nat × List Nat)) : List Nat := cs.flatMap oneC
theorem Parsed.flat : ∀ {l : List Int} {cs : List (Nat × List Nat)}, Parsed l cs → l = nInts (flatC cs)
  | _, _, .nil => rfl
  | _, _, .row (c := c) (ks := ks) (cs := cs) h1 h2 t => by
    rw [t.flat]
    have e : flatC ((c, ks) :: cs) = c :: ks.length :: (ks ++ flatC cs) := by
      unfold flatC
      rw [List.flatMap_cons]
      unfold oneC
      rw [if_pos (show c ≤ 1 by omega)]
      rfl
    rw [e]
    unfold nInts
    rw [List.map_cons, List.map_cons, List.map_append]
  | _, _, .no (c := c) (cs := cs) h1 h2 t => by
    rw [t.flat]
    have e : flatC ((c, []) :: cs) = c :: flatC cs := by
      unfold flatC
      rw [List.flatMap_cons]
      unfold oneC
      rw [if_neg (show ¬ c ≤ 1 by omega)]
      rfl
    rw [e]
    rfl
theorem mid_take (A ks B : List Nat) (a b : Nat) : ((A ++ (a :: b :: (ks ++ B))).take (A.length + 2 + ks.length)).drop (A.length + 2) = ks := by
  have e : A ++ (a :: b :: (ks ++ B)) = (A ++ [a, b]) ++ (ks ++ B) := by simp
  have e2 : A.length + 2 = (A ++ [a, b]).length := by simp
  rw [e, e2, List.take_length_add_append, List.drop_left, List.take_left]
theorem at_mid (A B : List Nat) (a : Nat) : (A ++ (a :: B))[A.length]? = some a := by
  rw [List.getElem?_append_right (Nat.le_refl _), Nat.sub_self]
  rfl
theorem at_mid1 (A B : List Nat) (a b : Nat) : (A ++ (a :: b :: B))[A.length + 1]? = some b := by
  rw [List.getElem?_append_right (by omega), show A.length + 1 - A.length = 1 by omega]
  rfl
theorem tI {b : Bool} {A B : Prop} (h : b = true) (hA : A) : if b = true then A else B := by
  rw [if_pos h]
  exact hA
theorem fI {b : Bool} {A B : Prop} (h : b = false) (hB : B) : if b = true then A else B := by
  rw [if_neg (by rw [h]; decide)]
  exact hB
/-- a call in the list, apart from the list itself -/
def NewY (H H2 : Hp) (y t : Addr) (x : Nat × List Nat) : Prop := H t = none ∧ ∃ r, r ≠ y ∧ H r = none ∧ H2 t = some (.tup [.int (x.1 : Nat), .ref r]) ∧ TxtAt H2 r x.2
theorem NewY.put {H H2 H3 : Hp} {y t : Addr} {x : Nat × List Nat} {xs : List V} {o : HO} (h : NewY H H2 y t x) (s : Same H2 H3) (hy : H2 y = some (.lst xs)) : NewY H (upd H3 y o) y t x := by
  obtain ⟨h1, r, hr, h2, h3, h4⟩ := h
  refine ⟨h1, r, hr, h2, ?_, ?_⟩
  · rw [upd_ne (ne_of h3 hy (by intro z; cases z))]
    exact s _ _ h3
  · show upd _ _ _ _ = _
    rw [upd_ne hr]
    exact s _ _ h4
theorem flat_take {cs : List (Nat × List Nat)} {j : Nat} {x : Nat × List Nat} (h : cs[j]? = some x) : flatC (cs.take (j + 1)) = flatC (cs.take j) ++ oneC x ∧ flatC cs = flatC (cs.take j) ++ (oneC x ++ flatC (cs.drop (j + 1))) := by
  unfold flatC
  constructor
  · rw [take_at h, List.flatMap_append]
    simp
  · conv => lhs; rw [← List.take_append_drop j cs]
    rw [List.flatMap_append, dropX_at h, List.flatMap_cons]
section
variable {P : Program} {w : World} {K : PySem.W.Frag} {mg : Str → Option Value} {base : Heap} {C : Ca}
def sp_calls_in (K : PySem.W.Frag) : Sp := fun vs H Q _ => ∃ (p : Addr) (cs : List (Nat × List Nat)), vs = [.ref p] ∧ SqL K H p (iL (flatC cs)) ∧ (∀ x ∈ cs, CallOk x) ∧ cs.length ≤ 1000 ∧
  ∀ H2 y ts, Same H H2 → H y = none → H2 y = some (.lst (ts.map V.ref)) → Paired (NewY H H2 y) ts cs → Q (.ref y) H2
theorem k_calls_in (G : Gs K mg C) : C8.Cal P w K mg base 1 "calls_in" (sp_calls_in K) [] := by
  refine cal_of G.d_calls_in sc_calls_in (fun _ _ _ _ _ _ us hl => match us, hl with | [_], _ => rfl) (fun vs H Q E h => ?_) (fun f cdv A outer s H vs Q E hr h => ?_)
  · obtain ⟨p, cs, rfl, _⟩ := h; rfl
  · obtain ⟨p, cs, rfl, hp, hok, hl, hQ⟩ := h
    refine ⟨_, (pss_cons (ps_set (i := 1) sc_calls_in.nd rfl (Or.inl rfl) (pe_lst pa_nil)) (pss_cons (ps_set (i := 2) sc_calls_in.nd rfl (Or.inl rfl) pe_int) (pss_cons (ps_while PassesOwn.never (pt_cmpR op_lt (pv 2) (pe_callB call_len_seq (by rfl) G.b_len PySem.boot_len (pa_cons (pv 0) pa_nil)) (nomark _)) (pss_cons (ps_set (i := 3) sc_calls_in.nd rfl (Or.inl rfl) (pe_ix ix_list (pv 0) (pv 2) (fun _ _ => rfl))) (pss_cons (ps_aug (i := 2) sc_calls_in.nd rfl (Or.inl rfl) pe_int ip_add) (pss_cons (ps_set (i := 4) sc_calls_in.nd rfl (Or.inl rfl) (pe_lst pa_nil)) (pss_cons (ps_if (pt_cmpR op_in_seq (pv 3) (pe_tup (pa_cons (C8.pe_gc rfl G.c_TEXT) (pa_cons (C8.pe_gc rfl G.c_KEYS) pa_nil))) (by with_unfolding_all rfl)) (pss_cons (ps_set (i := 5) sc_calls_in.nd rfl (Or.inl rfl) (pe_op op_add (pe_op op_add (pv 2) pe_int) (pe_ix ix_list (pv 0) (pv 2) (fun _ _ => rfl)))) (pss_cons (ps_set (i := 4) sc_calls_in.nd rfl (Or.inl rfl) (pe_slice sl_list (pv 0) (po_some (pe_op op_add (pv 2) pe_int)) (po_some (pv 5)))) (pss_one (ps_set (i := 2) sc_calls_in.nd rfl (Or.inl rfl) (pv 5))))) pss_nil) (pss_one (ps_expr (pe_bm PySem.F.plainAttrs_list PySem.F.slot_list_append PySem.F.type_list_append mt_append (pv 1) (pa_cons (pe_tup (pa_cons (pv 3) (pa_cons (pv 4) pa_nil))) pa_nil))))))))) (pss_one (ps_ret (pv 1)))))), ?_⟩
    refine ⟨Nat.zero_le _, fun y ny => ?_⟩
    have s0 : Same H (upd H y (.lst [])) := same_new ny
    refine ⟨fun m σ H2 => ∃ (j : Nat) (ts : List Addr), j + m = cs.length ∧ Same H H2 ∧ H2 y = some (.lst (ts.map V.ref)) ∧ Paired (NewY H H2 y) ts (cs.take j) ∧ ∃ v3 v4 v5, σ = [some (.ref p), some (.ref y), some (.int ((flatC (cs.take j)).length : Nat)), v3, v4, v5], ⟨cs.length, 0, [], by omega, s0, upd_same, .nil, none, none, none, rfl⟩, ?_⟩
    rintro m σ H2 ⟨j, ts, hj, s2, hy, hpr, v3, v4, v5, rfl⟩
    have hp2 := sqL_more hp s2
    have lt := pr_len hpr
    rw [List.length_take] at lt
    refine ⟨_, rfl, _, rfl, _, _, rfl, .inl hp2, _, _, rfl, rfl, _, rfl, dI (fun h0 => ?_) fun h0 => ?_⟩
    · rw [iL_len] at h0
      have hlt : j < cs.length := by
        rcases Nat.lt_or_ge j cs.length with z | z
        · exact z
        · rw [List.take_of_length_le z] at h0
          omega
      obtain ⟨⟨c, ks⟩, hx⟩ : ∃ x, cs[j]? = some x := ⟨_, List.getElem?_eq_getElem hlt⟩
      obtain ⟨e1, e2⟩ := flat_take hx
      have ok := hok _ (List.mem_of_getElem? hx)
      generalize flatC (cs.take j) = A at *
      generalize flatC (cs.drop (j + 1)) = B at *
      obtain ⟨m, rfl⟩ : ∃ k, m = k + 1 := ⟨m - 1, by omega⟩
      refine ⟨fun σ3 H3 => ∃ (ts : List Addr), Same H H3 ∧ H3 y = some (.lst (ts.map V.ref)) ∧ Paired (NewY H H3 y) ts (cs.take (j + 1)) ∧ ∃ v3 v4 v5, σ3 = [some (.ref p), some (.ref y), some (.int ((flatC (cs.take (j + 1))).length : Nat)), v3, v4, v5], fun σ3 H3 ⟨ts3, a1, a2, a3, a4⟩ => ⟨m, Nat.lt_succ_self m, j + 1, ts3, by omega, a1, a2, a3, a4⟩, ?_⟩
      rw [e1]
      rcases ok with ⟨hc, hk⟩ | ⟨hc, hc6, hk⟩
      · have eo : oneC (c, ks) = c :: ks.length :: ks := if_pos hc
        rw [eo] at e2 ⊢
        have e3 : flatC cs = A ++ (c :: ks.length :: (ks ++ B)) := e2
        rw [e3] at hp2
        refine ⟨_, rfl, _, rfl, p, _, _, _, rfl, rfl, hp2, atN (at_mid _ _ _), ?_⟩
        refine (⟨_, rfl, _, _, rfl, rfl, ?_⟩)
        refine ⟨Nat.zero_le _, fun r0 nr0 => ?_⟩
        have s3 : Same H2 (upd H2 r0 (.lst [])) := same_new nr0
        refine ⟨_, rfl, Nat.le_of_lt (szl (by show 2 ≤ 10000000; decide)), fun u nu => ?_⟩
        have s4 : Same (upd H2 r0 (.lst [])) (upd (upd H2 r0 (.lst [])) u (.tup [.int 0, .int 1])) := same_new nu
        refine ⟨u, _, rfl, .inr (SqT.of upd_same), rfl, rfl, _, rfl, ?_⟩
        have ein : inV (.int (c : Nat)) [.int 0, .int 1] = true := by
          have hc2 : c = 0 ∨ c = 1 := by
            have : c ≤ 1 := hc
            omega
          rcases hc2 with z | z
          · subst z
            decide
          · subst z
            decide
        refine tI ein ?_
        have hp4 := sqL_more (sqL_more hp2 s3) s4
        have hat2 : atI (iL (A ++ (c :: ks.length :: (ks ++ B)))) (((A.length : Nat) : Int) + 1) = some (V.int (ks.length : Nat)) := atN (i := A.length + 1) (at_mid1 _ _ _ _)
        refine ⟨_, rfl, _, _, rfl, rfl, _, rfl, _, rfl, p, _, _, _, rfl, rfl, hp4, hat2, _, _, rfl, rfl, ?_⟩
        have ec : cutV (iL (A ++ (c :: ks.length :: (ks ++ B)))) (some (((A.length : Nat) : Int) + 1 + 1)) (some (((A.length : Nat) : Int) + 1 + 1 + ((ks.length : Nat) : Int))) = iL ks := by
          have z := cut_nat (A ++ (c :: ks.length :: (ks ++ B))) (A.length + 2) (A.length + 2 + ks.length)
          rw [mid_take] at z
          exact z
        refine ⟨_, rfl, _, rfl, _, _, rfl, rfl, _, rfl, _, rfl, _, rfl, p, _, rfl, hp4, fun z nz => ?_⟩
        dsimp only
        rw [ec]
        generalize hH4 : upd (upd H2 r0 (.lst [])) u (.tup [.int 0, .int 1]) = H4 at *
        have s5 : Same H4 (upd H4 z (.lst (iL ks))) := same_new nz
        have t4 : Same H2 H4 := s3.trans s4
        have t5 := t4.trans s5
        have hy5 := t5 _ _ hy
        refine ⟨_, rfl, _, rfl, .inl ⟨rfl, _, SqL.of hy5⟩, _, rfl, _, rfl, Nat.le_of_lt (szl (by show 2 ≤ 10000000; decide)), fun t nt => ?_⟩
        have s6 : Same (upd H4 z (.lst (iL ks))) (upd (upd H4 z (.lst (iL ks))) t (.tup [.int (c : Nat), .ref z])) := same_new nt
        have t6 := t5.trans s6
        have hy6 := t6 _ _ hy
        have zy : z ≠ y := Ne.symm (ne_of_none (t4 _ _ hy) nz)
        have ty : t ≠ y := Ne.symm (ne_of_none hy5 nt)
        refine ⟨y, _, _, rfl, rfl, hy6, szl (by rw [List.length_map]; omega), ts ++ [t], same_put (s2.trans t6) ny, ?_, ?_, some (.int (c : Nat)), some (.ref z), some (.int (((A.length : Nat) : Int) + 1 + 1 + ((ks.length : Nat) : Int))), ?_⟩
        · rw [upd_same, List.map_append]
          rfl
        · rw [take_at hx]
          refine pr_app (pr_mono (fun _ _ q => q.put t6 hy) hpr) (.cons ⟨none_of (s2.trans t5) nt, z, zy, none_of (s2.trans t4) nz, ?_, ?_⟩ .nil)
          · rw [upd_ne ty, upd_same]
          · show upd _ _ _ _ = _
            rw [upd_ne zy]
            exact s6 _ _ upd_same
        · have el : (((A ++ (c :: ks.length :: ks)).length : Nat) : Int) = ((A.length : Nat) : Int) + 1 + 1 + ((ks.length : Nat) : Int) := by
            rw [List.length_append, List.length_cons, List.length_cons]
            omega
          rw [el]
          rfl
      · have hk2 : ks = [] := hk
        subst hk2
        have eo : oneC (c, []) = [c] := if_neg (by show ¬ c ≤ 1; have : 2 ≤ c := hc; omega)
        rw [eo] at e2 ⊢
        have e3 : flatC cs = A ++ (c :: B) := e2
        rw [e3] at hp2
        refine ⟨_, rfl, _, rfl, p, _, _, _, rfl, rfl, hp2, atN (at_mid _ _ _), ?_⟩
        refine (⟨_, rfl, _, _, rfl, rfl, ?_⟩)
        refine ⟨Nat.zero_le _, fun z nz => ?_⟩
        have s3 : Same H2 (upd H2 z (.lst [])) := same_new nz
        refine ⟨_, rfl, Nat.le_of_lt (szl (by show 2 ≤ 10000000; decide)), fun u nu => ?_⟩
        have s4 : Same (upd H2 z (.lst [])) (upd (upd H2 z (.lst [])) u (.tup [.int 0, .int 1])) := same_new nu
        refine ⟨u, _, rfl, .inr (SqT.of upd_same), rfl, rfl, _, rfl, ?_⟩
        have ein : inV (.int (c : Nat)) [.int 0, .int 1] = false := by
          have h3 : c = 2 ∨ c = 3 ∨ c = 4 ∨ c = 5 ∨ c = 6 := by
            have a1 : 2 ≤ c := hc
            have a2 : c ≤ 6 := hc6
            omega
          rcases h3 with q | q | q | q | q <;> (subst q; decide)
        refine fI ein ?_
        have t5 := s3.trans s4
        have hy5 := t5 _ _ hy
        refine ⟨_, rfl, .inl ⟨rfl, _, SqL.of hy5⟩, _, rfl, _, rfl, Nat.le_of_lt (szl (by show 2 ≤ 10000000; decide)), fun t nt => ?_⟩
        have s6 : Same (upd (upd H2 z (.lst [])) u (.tup [.int 0, .int 1])) (upd (upd (upd H2 z (.lst [])) u (.tup [.int 0, .int 1])) t (.tup [.int (c : Nat), .ref z])) := same_new nt
        have t6 := t5.trans s6
        have hy6 := t6 _ _ hy
        have zy : z ≠ y := Ne.symm (ne_of_none hy nz)
        have ty : t ≠ y := Ne.symm (ne_of_none hy5 nt)
        refine ⟨y, _, _, rfl, rfl, hy6, szl (by rw [List.length_map]; omega), ts ++ [t], same_put (s2.trans t6) ny, ?_, ?_, some (.int (c : Nat)), some (.ref z), v5, ?_⟩
        · rw [upd_same, List.map_append]
          rfl
        · rw [take_at hx]
          refine pr_app (pr_mono (fun _ _ q => q.put t6 hy) hpr) (.cons ⟨none_of (s2.trans t5) nt, z, zy, none_of s2 nz, ?_, ?_⟩ .nil)
          · rw [upd_ne ty, upd_same]
          · show upd _ _ _ _ = _
            rw [upd_ne zy]
            exact s6 _ _ (s4 _ _ upd_same)
        · have el : (((A ++ [c]).length : Nat) : Int) = ((A.length : Nat) : Int) + 1 := by
            rw [List.length_append]
            rfl
          rw [el]
          rfl
    · rw [iL_len] at h0
      have hge : cs.length ≤ j := by
        rcases Nat.lt_or_ge j cs.length with z | z
        · obtain ⟨⟨c, ks⟩, hx⟩ : ∃ x, cs[j]? = some x := ⟨_, List.getElem?_eq_getElem z⟩
          have e2 := congrArg List.length (flat_take hx).2
          rw [List.length_append, List.length_append] at e2
          have e3 : 1 ≤ (oneC (c, ks)).length := by
            unfold oneC
            split
            · exact Nat.le_add_left _ _
            · exact Nat.le_refl _
          omega
        · exact z
      rw [List.take_of_length_le hge] at hpr
      exact ⟨_, rfl, hQ _ _ ts s2 ny hy hpr⟩
end
end Ke
end
section
set_option maxHeartbeats 4500000
namespace Ke
open PySem PySem.Spec L2 LamX PyProof.Rows
open Ue15 (Sel Told Ed)
/-! ### a call's answer, as the program comes to it -/
theorem ref_false {c : Nat} {ks : List Nat} (h : refusedB c ks = false) : ks.length ≤ (if c = 1 then 60 else 200) ∧ Ue15.isBytes ks = true := by
  unfold refusedB at h
  rw [Bool.or_eq_false_iff] at h
  refine ⟨Nat.le_of_not_lt (of_decide_eq_false h.1), ?_⟩
  unfold Ue15.isBytes
  rw [List.all_eq_true]
  intro b hb
  have := List.any_eq_false.mp h.2 b hb
  exact decide_eq_true (Nat.le_of_not_lt fun z => this (decide_eq_true z))
theorem ref_true {c : Nat} {ks : List Nat} (h : refusedB c ks = true) : Ue15.isBytes ks = false ∨ (if c = 1 then 60 else 200) < ks.length := by
  unfold refusedB at h
  rw [Bool.or_eq_true] at h
  rcases h with h | h
  · exact .inr (of_decide_eq_true h)
  · refine .inl ?_
    obtain ⟨b, hb, hh⟩ := List.any_eq_true.mp h
    cases e : Ue15.isBytes ks with
    | false => rfl
    | true =>
      have z : b ≤ 255 := of_decide_eq_true (List.all_eq_true.mp e b hb)
      have z2 : 255 < b := of_decide_eq_true hh
      omega
theorem step_ref {e : Ed} {c : Nat} {ks : List Nat} (hc : c ≤ 1) (h : refusedB c ks = true) : Ue15.step e (callC (c, ks)) = (e, [-1]) := by
  have h2 := ref_true h
  have hc2 : c = 0 ∨ c = 1 := by omega
  rcases hc2 with z | z
  · subst z
    show Ue15.step e (.text ks) = _
    unfold Ue15.step
    dsimp only
    exact if_pos h2
  · subst z
    show Ue15.step e (.keys ks) = _
    unfold Ue15.step
    dsimp only
    exact if_pos h2
theorem step_txt {e : Ed} {ks : List Nat} (h : refusedB 0 ks = false) : Ue15.step e (callC (0, ks)) = (Ue15.begin_ ks, Ue15.ints [ks.length]) := by
  obtain ⟨h1, h2⟩ := ref_false h
  show Ue15.step e (.text ks) = _
  unfold Ue15.step
  dsimp only
  refine if_neg fun z => ?_
  rcases z with z | z
  · rw [h2] at z
    cases z
  · have h3 : ks.length ≤ 200 := h1
    have h4 : 200 < ks.length := z
    omega
theorem step_key {e : Ed} {ks : List Nat} (h : refusedB 1 ks = false) : Ue15.step e (.keys ks) = (ks.foldl Ue15.press e, Ue15.ints (keysRow (ks.foldl Ue15.press e))) := by
  obtain ⟨h1, h2⟩ := ref_false h
  unfold Ue15.step
  dsimp only
  rw [if_neg]
  · rfl
  · intro z
    rcases z with z | z
    · rw [h2] at z
      cases z
    · have h3 : ks.length ≤ 60 := h1
      omega
theorem step_oth {e : Ed} {c : Nat} {ks : List Nat} (h1 : 1 ≤ c) (h6 : c ≤ 6) (h : refusedB c ks = false) : Ue15.step e (callC (c, ks)) = (behE c ks e, Ue15.ints (rowE c ks e)) := by
  have h3 : c = 1 ∨ c = 2 ∨ c = 3 ∨ c = 4 ∨ c = 5 ∨ c = 6 := by omega
  rcases h3 with z | z | z | z | z | z
  · subst z
    exact step_key h
  · subst z
    show Ue15.step e .shows = _
    unfold Ue15.step
    rfl
  · subst z
    show Ue15.step e .sels = _
    unfold Ue15.step
    rfl
  · subst z
    show Ue15.step e .registers = _
    unfold Ue15.step
    rfl
  · subst z
    show Ue15.step e .macro_ = _
    unfold Ue15.step
    rfl
  · subst z
    show Ue15.step e .steps = _
    unfold Ue15.step
    rfl
theorem ints_iL (l : List Nat) : (Ue15.ints l).map V.int = iL l := by
  unfold Ue15.ints
  rw [List.map_map]
  rfl
theorem told_more (a : List Int) (l : List (List Int)) : PyFlat.told (a :: l) = (a.length : Int) :: (a ++ PyFlat.told l) := rfl
theorem begin_inv {t : List Nat} (h : t.length ≤ 200) : FInv 0 (Ue15.begin_ t) := by
  have g : Good t.length [(Ue15.caret 0, true)] := ⟨trivial, fun x hx => by
    rw [List.mem_singleton.mp hx]
    exact ⟨Nat.zero_le _, Nat.zero_le _⟩, by show 1 ≤ 30; decide⟩
  exact ⟨⟨h, g, (fun l z => by cases z), (fun x hx => by cases hx), (fun x hx => by cases hx), (fun x z => by cases z), ⟨Nat.zero_le _, fun w hw => by cases hw⟩, Nat.zero_le _⟩, (fun z => by cases z), (fun k w z => by cases z), (fun _ x z => by cases z), Nat.le_refl _, Nat.le_refl _, Nat.le_refl _, (fun w z => by cases z), Nat.le_refl _, Nat.le_refl _⟩
/-! ### the loop over the calls -/
def tupC (H : Hp) (t : Addr) (x : Nat × List Nat) : Prop := ∃ r, H t = some (.tup [.int (x.1 : Nat), .ref r]) ∧ TxtAt H r x.2
structure Lp (C : Ca) (g y : Addr) (ts : List Addr) (cs : List (Nat × List Nat)) (H : Hp) (a : Addr) (L : Lo) (e : Ed) (N : Nat) (gs : List Int) : Prop where
  giv : H g = some (.lst (gs.map V.int))
  ed : EdAt C (vis [g] H) a L e []
  inv : FInv N e
  lst : vis (edM C a L) (vis [g] H) y = some (.lst (ts.map V.ref))
  row : Paired (tupC (vis (edM C a L) (vis [g] H))) ts cs
theorem vis_no {H : Hp} {g : Addr} (h : H g = none) : vis [g] H = H := by
  funext b
  unfold vis
  by_cases m : b ∈ [g]
  · rw [if_pos m, List.mem_singleton.mp m, h]
  · rw [if_neg m]
theorem vis_back {H : Hp} {g : Addr} {o : HO} (h : H g = none) : vis [g] (upd H g o) = H := by
  rw [vis_put (List.mem_singleton.mpr rfl), vis_no h]
theorem tupC.ext {H H2 : Hp} {t : Addr} {x : Nat × List Nat} (h : tupC H t x) (e : ExtN H H2) : tupC H2 t x := by
  obtain ⟨r, h1, h2⟩ := h
  exact ⟨r, e _ _ h1 (fun ps z => by cases z), h2.ext e⟩
section
variable {C : Ca} {g y : Addr} {ts : List Addr} {cs : List (Nat × List Nat)} {H H2 : Hp} {a : Addr} {L : Lo} {e : Ed} {N : Nat} {gs : List Int}
theorem Lp.same (h : Lp C g y ts cs H a L e N gs) (s : Same H H2) : Lp C g y ts cs H2 a L e N gs :=
  ⟨s _ _ h.giv, h.ed.same (vis_same s), h.inv, vis_same (vis_same s) _ _ h.lst, pr_mono (fun _ _ z => z.ext (ExtN.of (vis_same (vis_same s)))) h.row⟩
theorem Lp.more {M : Nat} (h : Lp C g y ts cs H a L e N gs) (m : N ≤ M) : Lp C g y ts cs H a L e M gs := ⟨h.giv, h.ed, h.inv.mono m, h.lst, h.row⟩
theorem Lp.put {gs2 : List Int} (h : Lp C g y ts cs H a L e N gs) : Lp C g y ts cs (upd H g (.lst (gs2.map V.int))) a L e N gs2 := by
  have v : vis [g] (upd H g (.lst (gs2.map V.int))) = vis [g] H := vis_put (List.mem_singleton.mpr rfl)
  exact ⟨upd_same, by rw [v]; exact h.ed, h.inv, by rw [v]; exact h.lst, by rw [v]; exact h.row⟩
theorem Lp.to {a2 : Addr} {L2 : Lo} {e2 : Ed} {M : Nat} (h : Lp C g y ts cs H a L e N gs) (n : H2 g = none) (hE : EdAt C H2 a2 L2 e2 []) (hF : FInv M e2) (x : ExtN (vis (edM C a L) (vis [g] H)) (vis (edM C a2 L2) H2)) :
    Lp C g y ts cs (upd H2 g (.lst (gs.map V.int))) a2 L2 e2 M gs := by
  have v := vis_back (o := .lst (gs.map V.int)) n
  exact ⟨upd_same, by rw [v]; exact hE, hF, by rw [v]; exact x _ _ h.lst (fun ps z => by cases z), by rw [v]; exact pr_mono (fun _ _ z => z.ext x) h.row⟩
end
theorem sqL_ext {K : PySem.W.Frag} {H H2 : Hp} {a : Addr} {xs : List V} (q : SqL K H a xs) (s : ExtN H H2) : SqL K H2 a xs := by
  rcases q with (q | ⟨o, q⟩) | q
  · exact .inl (.inl (s _ _ q (fun ps z => by cases z)))
  · exact .inl (.inr ⟨o, s _ _ q (fun ps z => by cases z)⟩)
  · exact .inr q
section
variable {P : Program} {w : World} {K : PySem.W.Frag} {mg : Str → Option Value} {base : Heap} {C : Ca}
/-- answers: given an asked list of numbers, a list of what is due -/
def sp_answers (K : PySem.W.Frag) (C : Ca) : Sp := fun vs H Q _ => ∃ (p : Addr) (ns : List Int), vs = [.ref p] ∧ SqL K H p (ns.map V.int) ∧ PyUe15.answers_asked ns = true ∧ Tb C H ∧ ∀ H2 y, H2 y = some (.lst ((PyUe15.answers ns).map V.int)) → Q (.ref y) H2
theorem b_answers (G : Gs K mg C) (TB : TabB base mg C.tc C.tP) : BodyH P w K mg base N_answers "answers" s_answers 18 (sp_answers K C) := by
  have K_Editor_init := k_Editor_init (P := P) (w := w) (base := base) G
  have K_answer_of := k_answer_of (P := P) (w := w) (base := base) G TB
  have K_calls_in := k_calls_in (P := P) (w := w) (base := base) G
  have K_is_refused := k_is_refused (P := P) (w := w) (base := base) G
  have K_answer_of := cal_frm K_answer_of
  have K_Editor_init := mak_frm K_Editor_init
  intro f cdv A outer s H vs Q E hr h
  obtain ⟨p, ns, rfl, hp0, hask, hT, hQ⟩ := h
  obtain ⟨cs, hP, eA, hc40, hl⟩ := asked_told hask
  have hok := hP.ok
  have en : ns.map V.int = iL (flatC cs) := by
    rw [hP.flat]
    unfold nInts
    rw [List.map_map]
    rfl
  rw [en] at hp0
  rw [eA] at hQ hl
  generalize hTot : PyFlat.told (playC Ue15.init cs) = total at *
  refine ⟨_, (pss_cons (ps_set (i := 1) sc_answers.nd rfl (Or.inl rfl) (C8.pe_mk K_Editor_init hr (by decide) rfl (pa_cons (pe_lst pa_nil) pa_nil))) (pss_cons (ps_set (i := 2) sc_answers.nd rfl (Or.inl rfl) (pe_lst pa_nil)) (pss_cons (ps_for PassesOwn.never rfl (pi_list (C8.pe_c K_calls_in hr (by decide) rfl (pa_cons (pv 0) pa_nil))) (pg_tup rfl (pgs_cons (pg_name (i := 3) sc_answers.nd rfl (Or.inl rfl)) (pgs_cons (pg_name (i := 4) sc_answers.nd rfl (Or.inl rfl)) pgs_nil))) (C8.pss_cut (ps_if (pt_val (C8.pe_c K_is_refused hr (by decide) rfl (pa_cons (pv 3) (pa_cons (pv 4) pa_nil)))) (pss_one (ps_set (i := 5) sc_answers.nd rfl (Or.inl rfl) (pe_lst (pa_cons (pe_un un_neg pe_int) pa_nil)))) (pss_one (ps_if (pt_cmpR op_eq (pv 3) (C8.pe_gc rfl G.c_TEXT) (nomark _)) (pss_cons (ps_set (i := 1) sc_answers.nd rfl (Or.inl rfl) (C8.pe_mk K_Editor_init hr (by decide) rfl (pa_cons (pv 4) pa_nil))) (pss_one (ps_set (i := 5) sc_answers.nd rfl (Or.inl rfl) (pe_lst (pa_cons (pe_callB call_len_seq (by rfl) G.b_len PySem.boot_len (pa_cons (pv 4) pa_nil)) pa_nil))))) (pss_one (ps_set (i := 5) sc_answers.nd rfl (Or.inl rfl) (C8.pe_c K_answer_of hr (by decide) rfl (pa_cons (pv 1) (pa_cons (pv 3) (pa_cons (pv 4) pa_nil))))))))) (pss_cons (ps_expr (pe_bm PySem.F.plainAttrs_list PySem.F.slot_list_append PySem.F.type_list_append mt_append (pv 2) (pa_cons (pe_callB call_len_seq (by rfl) G.b_len PySem.boot_len (pa_cons (pv 5) pa_nil)) pa_nil))) (pss_one (ps_expr (pe_bm PySem.F.plainAttrs_list PySem.F.slot_list_extend PySem.F.type_list_extend mt_extend (pv 2) (pa_cons (pv 5) pa_nil))))))) (pss_one (ps_ret (pv 2)))))), ?_⟩
  refine ⟨Nat.zero_le _, fun t0 nt0 => ?_⟩
  have s1 : Same H (upd H t0 (.lst [])) := same_new nt0
  intro a0 da na nda dne
  have sN : Same (upd H t0 (.lst [])) (upd (upd (upd H t0 (.lst [])) da (.own a0)) a0 (.ins C.ed da [])) := (same_new nda).trans (same_new (by rw [upd_ne (Ne.symm dne)]; exact na))
  have s2 := s1.trans sN
  refine .inl ⟨a0, da, t0, [], rfl, upd_same, TxtAt.same (t := []) upd_same sN, hT.same s2, fun H2 L0 hE0 fr0 => ⟨rfl, ?_⟩⟩
  have x2 : ExtN H H2 := fun b o hb hn => (fr0 b o (s2 _ _ hb) (ne_of_none (s1 _ _ hb) na) hn).1
  refine ⟨Nat.zero_le _, fun g ng => ?_⟩
  have s3 : Same H2 (upd H2 g (.lst [])) := same_new ng
  have hp3 := sqL_more (sqL_ext hp0 x2) s3
  refine ⟨_, rfl, p, cs, rfl, hp3, hok, by omega, fun H4 y ts s4 ny hy hpr => ?_⟩
  have hg4 : H4 g = some (.lst []) := s4 _ _ upd_same
  have v4 : Same H2 (vis [g] H4) := fun b o hb => vis_in (s4 _ _ (s3 _ _ hb)) fun z => ne_of_none hb ng (List.mem_singleton.mp z)
  have new : ∀ b, (upd H2 g (.lst []) : Hp) b = none → b ∉ [g] ∧ b ∉ edM C a0 L0 := fun b hb => by
    refine ⟨fun z => ?_, hE0.fresh (none_of s3 hb)⟩
    rw [List.mem_singleton.mp z, upd_same] at hb
    cases hb
  have L4 : Lp C g y ts cs H4 a0 L0 Ue15.init 0 [] := by
    refine ⟨hg4, hE0.same v4, begin_inv (Nat.zero_le _), vis_in (vis_in hy (new y ny).1) (new y ny).2, pr_mono (fun t x z => ?_) hpr⟩
    obtain ⟨z1, r, _, z2, z3, z4⟩ := z
    exact ⟨r, vis_in (vis_in z3 (new t z1).1) (new t z1).2, vis_in (vis_in z4 (new r z2).1) (new r z2).2⟩
  refine ⟨y, rfl, ⟨_, SqL.of hy⟩, ?_⟩
  clear hpr new v4 hp3 x2 fr0 hE0 s2 sN s1
  refine for_list (a := y) (xs := ts.map V.ref) (fun i σ H5 => ∃ a L e gs, Lp C g y ts cs H5 a L e (30060 * i) gs ∧ gs ++ PyFlat.told (playC e (cs.drop i)) = total ∧ ∃ v3 v4 v5, σ = [some (.ref p), some (.ref a), some (.ref g), v3, v4, v5]) ⟨a0, L0, Ue15.init, [], L4, hTot, none, none, none, rfl⟩ (fun i σ H5 _ ⟨_, _, _, _, z, _⟩ => SqL.of (vis_of (vis_of z.lst).1).1) ?_ ?_
  · rintro i v σ H5 hi ⟨a, L, e, gs, hL, hg, v3, v4, v5, rfl⟩
    obtain ⟨t, ht, rfl⟩ := ref_at hi
    obtain ⟨⟨c, ks⟩, hx, r, htu, hr⟩ := pr_get hL.row ht
    have ok := hok _ (List.mem_of_getElem? hx)
    have hi40 : i < cs.length := (List.getElem?_eq_some_iff.mp hx).1
    have hk220 : ks.length ≤ 220 := by
      rcases ok with z | z
      · exact z.2
      · have : ks = [] := z.2.2
        rw [this]
        exact Nat.zero_le _
    rw [dropX_at hx, playC_cons, told_more] at hg
    have htu5 := (vis_of (vis_of htu).1).1
    have hr5 : TxtAt H5 r ks := (vis_of (vis_of hr).1).1
    refine ⟨t, _, rfl, SqT.of htu5, rfl, _, _, rfl, _, _, rfl, rfl, ?_⟩
    refine ⟨fun σ H6 => ∃ a L e2 y5 ans, Lp C g y ts cs H6 a L e2 (30060 * (i + 1)) gs ∧ H6 y5 = some (.lst (ans.map V.int)) ∧ y5 ≠ g ∧ gs ++ ((ans.length : Int) :: (ans ++ PyFlat.told (playC e2 (cs.drop (i + 1))))) = total ∧ σ = [some (.ref p), some (.ref a), some (.ref g), some (.int (c : Nat)), some (.ref r), some (.ref y5)], ?_, ?_⟩
    · refine ⟨_, rfl, _, rfl, c, r, ks, rfl, hr5, by omega, fun H6 s6 => ⟨_, rfl, bI (fun h1 => ?_) fun h1 => ?_⟩⟩
      · have hc1 : c ≤ 1 := by
          rcases ok with z | ⟨_, _, z⟩
          · exact z.1
          · have z2 : ks = [] := z
            subst z2
            rcases ref_true h1 with q | q
            · cases q
            · exact absurd q (Nat.not_lt_zero _)
        rw [step_ref hc1 h1] at hg
        refine ⟨_, rfl, Nat.le_of_lt (szl (by show 1 ≤ 10000000; decide)), fun y5 n5 => ?_⟩
        have hL6 := hL.same s6
        exact ⟨a, L, e, y5, [-1], (hL6.same (same_new n5)).more (by omega), upd_same, Ne.symm (ne_of_none hL6.giv n5), hg, rfl⟩
      · have hL6 := hL.same s6
        obtain ⟨hlen, _⟩ := ref_false h1
        refine ⟨_, rfl, rfl, _, rfl, dI (fun h2 => ?_) fun h2 => ?_⟩
        · have h3 : c = 0 := int_eq h2
          subst h3
          rw [step_txt h1] at hg
          refine ⟨_, rfl, fun x dx nx ndx dne2 => ?_⟩
          have sN : Same H6 (upd (upd H6 dx (.own x)) x (.ins C.ed dx [])) := (same_new ndx).trans (same_new (by rw [upd_ne (Ne.symm dne2)]; exact nx))
          have hgN := sN _ _ hL6.giv
          have xg : x ≠ g := Ne.symm (ne_of_none hL6.giv nx)
          have hr6 : vis [g] H6 r = some (.lst (iL ks)) := vis_same s6 _ _ (vis_of hr).1
          refine .inr ⟨g, _, hgN, x, dx, r, ks, rfl, vis_in upd_same (fun z => xg (List.mem_singleton.mp z)), TxtAt.same (t := ks) hr6 (vis_same sN), hL6.ed.tb.same (vis_same sN), fun H8 L8 hE8 fr8 n8 => ⟨rfl, ?_⟩⟩
          have x8 : ExtN (vis (edM C a L) (vis [g] H6)) (vis (edM C x L8) H8) := fun b o hb hn => by
            have hb6 := (vis_of hb).1
            have hbx : b ≠ x := ne_of_none (vis_of hb6).1 nx
            obtain ⟨z1, z2⟩ := fr8 b o (vis_same sN _ _ hb6) hbx hn
            exact vis_in z1 z2
          have hr8 : H8 r = some (.lst (iL ks)) := (vis_of (x8 _ _ (vis_same (vis_same s6) _ _ hr) (fun ps z => by cases z))).1
          have rg : r ≠ g := ne_of_none hr8 n8
          have hL8 := hL6.to n8 hE8 ((begin_inv (t := ks) hlen).mono (Nat.zero_le (30060 * (i + 1)))) x8
          have hr9 : TxtAt (upd H8 g (.lst (gs.map V.int))) r ks := by
            show upd _ _ _ _ = _
            rw [upd_ne rg]
            exact hr8
          refine ⟨_, rfl, _, _, rfl, .inl (SqL.of hr9), ?_⟩
          rw [iL_len]
          refine ⟨Nat.le_of_lt (szl (by show 1 ≤ 10000000; decide)), fun y5 n5 => ?_⟩
          exact ⟨x, L8, Ue15.begin_ ks, y5, Ue15.ints [ks.length], hL8.same (same_new n5), upd_same, Ne.symm (ne_of_none hL8.giv n5), hg, rfl⟩
        · have h3 : c ≠ 0 := int_ne h2
          have hc6 : c ≤ 6 := by
            rcases ok with z | z
            · exact Nat.le_trans z.1 (by decide)
            · exact z.2.1
          have hkl : ks.length ≤ 60 := by
            rcases ok with z | z
            · have z1 : c ≤ 1 := z.1
              rw [if_pos (by omega)] at hlen
              exact hlen
            · have : ks = [] := z.2.2
              rw [this]
              exact Nat.zero_le _
          rw [step_oth (by omega) hc6 h1] at hg
          have hr6 : TxtAt (vis (edM C a L) (vis [g] H6)) r ks := vis_same (vis_same s6) _ _ hr
          refine ⟨_, rfl, _, rfl, _, rfl, .inr ⟨g, _, hL6.giv, 30060 * i, a, r, L, e, c, ks, rfl, hL6.ed, hL6.inv, by omega, hr6, by omega, hc6, fun H8 L8 y8 hE8 hF8 fr8 hy8 n8 => ?_⟩⟩
          have y8g : y8 ≠ g := ne_of_none hy8 n8
          refine ⟨a, L8, behE c ks e, y8, Ue15.ints (rowE c ks e), hL6.to n8 hE8 (hF8.mono (by omega)) fr8, ?_, y8g, hg, rfl⟩
          rw [upd_ne y8g, ints_iL]
          exact hy8
    · rintro σ H6 ⟨a, L, e2, y5, ans, hL6, hy5, y5g, hg6, rfl⟩
      have hlen := congrArg List.length hg6
      rw [List.length_append, List.length_cons, List.length_append] at hlen
      refine ⟨_, rfl, .inl ⟨rfl, _, SqL.of hL6.giv⟩, _, rfl, _, _, rfl, .inl (SqL.of hy5), g, _, _, rfl, rfl, hL6.giv, szl (by rw [List.length_map]; omega), ?_⟩
      rw [List.length_map]
      have e1 : gs.map V.int ++ [V.int ((ans.length : Nat) : Int)] = (gs ++ [((ans.length : Nat) : Int)]).map V.int := by
        rw [List.map_append]
        rfl
      dsimp only
      rw [e1]
      have hL7 : Lp C g y ts cs (upd H6 g (.lst ((gs ++ [((ans.length : Nat) : Int)]).map V.int))) a L e2 (30060 * (i + 1)) (gs ++ [((ans.length : Nat) : Int)]) := hL6.put
      have hy7 : upd H6 g (.lst ((gs ++ [((ans.length : Nat) : Int)]).map V.int)) y5 = some (.lst (ans.map V.int)) := by
        rw [upd_ne y5g]
        exact hy5
      refine ⟨_, rfl, .inl ⟨rfl, _, SqL.of hL7.giv⟩, _, rfl, g, y5, _, _, rfl, rfl, hL7.giv, hy7, by rw [List.length_map, List.length_map, List.length_append, sizeLine_eq]; show _ + 1 + _ ≤ _; omega, ?_⟩
      rw [← List.map_append]
      refine ⟨a, L, e2, _, hL7.put, ?_, _, _, _, rfl⟩
      rw [← hg6]
      simp
  · rintro σ H5 ⟨a, L, e, gs, hL, hg, v3, v4, v5, rfl⟩
    have lt := pr_len hL.row
    rw [List.length_map, lt, List.drop_length] at hg
    have eg : gs = total := by
      rw [← hg]
      show gs = gs ++ []
      rw [List.append_nil]
    refine ⟨_, rfl, hQ _ g ?_⟩
    rw [← eg]
    exact hL.giv
end
end Ke
end
section
set_option maxHeartbeats 4500000
namespace Ke
open PySem PySem.Spec L2 LamX PyProof.Rows
open PySem.W (OpenSpec Codec WData WellAll Well ReadsAllW ReadsW)
theorem code_hd {K : PySem.W.Frag} {h : Heap} {c P : Addr} (X : K.In h) (e : PySem.W.codeHdIn K c P = true) : PySem.W.CodeHd h c P := PySem.W.codeHd_of_K X e
theorem hcall_of (hA : ∀ {P : Program} {w : World} {K : PySem.W.Frag} {mg : Str → Option Value} {base : Heap} {C : Ca}, Gs K mg C → TabB base mg C.tc C.tP → BodyH P w K mg base N_answers "answers" s_answers 18 (sp_answers K C))
    (d : DefRec) (hd : d.name = "answers") : PySem.W.WalkOS qv names (PySem.W.XL qv []) hkX.says Rw d [] (fun f vs => PySem.call f vs) := by
  refine walk_tab (k := 19) (CX := fun _ => C8.CX0) (ps := ["calls"]) said (by rfl) ?_ (fun w mg fa h Y G e => ?_) ?_
  · exact ⟨rfl, by decide +kernel, by decide +kernel⟩
  · obtain ⟨K, S⟩ := Y
    have X := S.inn
    have gs := gs_of X G S.d S.more
    obtain ⟨f, fd, g, F⟩ := gs.d_answers
    rw [hd] at e
    cases g.symm.trans e
    have hT := S.empty
    have hO := S.out
    have hH := S.hd
    refine ⟨K, (caOf K).tc, (caOf K).tP, fd, sp_answers K (caOf K), X, hT, hO, code_hd X hH, ?_, fun base hK hN TB => ?_, ?_⟩
    · exact fun s us hl => F.bindsA (fun _ _ _ _ _ _ us hl => match us, hl with | [_], _ => rfl) s us hl
    · refine F.ok sc_answers (fun vs H Q E h => ?_) (fun cdv A outer s H vs Q E hr h => ?_)
      · obtain ⟨p, ns, rfl, _⟩ := h
        rfl
      · obtain ⟨t, h1, h2⟩ := hA (P := Rw.prog) (w := w) gs TB fa cdv A outer s H vs Q E hr h
        exact ⟨t, h1.nox, h2⟩
    · intro H xs a hP hO hw hask hdw
      have hdw2 : DwAll K H xs [WData.list ((a.1 : List Int).map WData.int)] := hdw
      cases hdw2 with
      | cons h1 h2 =>
        cases h2
        cases h1 with
        | lst q r =>
          have e1 := ints_dw _ _ r
          subst e1
          refine ⟨_, a.1, rfl, q, hask, fun p hp => ?_, fun H2 y hy => .lst (SqL.of hy) (dw_ints _)⟩
          rw [List.mem_singleton.mp hp]
          exact TabS.nil hP
  · exact fun _ _ _ _ _ h => h
theorem fin (run : ∀ w, HandSHeadRun.RunEqS Rw qv hkX obT 6000 names w) : Rw.Holds := by
  refine HandSHeadRun.head_spec (r := Rw) (q := qv) (H := hkX) (ob := obT) (M := 6000) (loose := names) (kwd := []) obT_eq (by rfl) (fun s => by rfl) run (by rfl) (by rfl) (by rfl) PySem.W.os_shapes said chains bareP witness (hcall_of b_answers _ rfl)
end Ke
end
theorem PySem.Challenge.cw_keyeditor_s01_answers_holds : PySem.Challenge.rw_keyeditor_s01_answers.Holds :=
  Ke.fin Ke.run
#print axioms PySem.Challenge.cw_keyeditor_s01_answers_holds
