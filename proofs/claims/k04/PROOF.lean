import PyProof.Rows.All
import Wide.All
import OpenK.AllK
import Wide.FinOn
import HandS.ForMost
import HandS.Star
import HandS.Property
import HandS.ClsMeth
import HandS.IsInst
import HandS.Wide
import HandS.Walk
import HandS.TupAny
import KE.GoesEnum
import HandS.Style
import HandS.Flt
import HandS.Conv
import PySem.Challenge.RW_chaircarry_k04_whole_all_starts
set_option Elab.async false
set_option linter.all false
set_option maxRecDepth 100000
set_option maxHeartbeats 5000000
/-! Own rules: enumerate over a tuple, list.extend by a tuple, C( *xs), C() by a positional promise. -/
namespace Cc
open PySem PySem.Spec PyProof.Rows L2
/-! ### list.extend(tuple) -/
theorem extend_tup {prog : Program} {w : World} {A : Around} {Ez : Value → Shared → Prop} {s : Shared} {S it : Addr} {o : Obj} {xs items : Array Value} {n c₀ : Nat} {Qz : Fin → Shared → Prop}
    (kS : s.heap.get? S = some { cls := .type "list", data := .seq xs c₀ }) (ko : s.heap.get? it = some o) (kc : o.cls = .type "tuple") (kd : o.data = .seq items n)
    (kne : S ≠ it) (ksz : xs.size + items.size ≤ sizeLine)
    (hQ : Qz (.done (.ret .none)) { s with heap := s.heap.update S (Obj.mapSeq (· ++ items)) }) :
    wpAny (model prog w) A (Builtin.List.listExtendWith (.ref S) (.ref it) .none) Qz Ez s := by
  show wpAny _ A (Builtin.List.listExtendWith _ _ _) Qz Ez s; unfold Builtin.List.listExtendWith
  refine wpAny_bind (wpAny_typeOf ⟨o, ko, kc⟩ ?_)
  have g1 : (Builtin.List.listSameRef (.ref S) (.ref it) || Value.type "tuple" == Value.type "list" || Value.type "tuple" == Value.type "tuple") = true := by simp
  simp only [g1, if_true]
  refine wpAny_bind ?_
  unfold Builtin.List.listItems
  refine wpAny_bind (wpAny_seqItems ko kd (wpAny_pure ?_))
  refine wpAny_bind ?_
  refine wpAny_bind (wpAny_seqItems kS rfl (wpAny_pure ?_))
  have hdoor : (!xs.isEmpty && Builtin.List.listTooLong (xs.size + items.size)) = false := by rw [notLongL ksz, Bool.and_false]
  simp only [hdoor, Bool.false_eq_true, if_false]
  show wpAny _ A (updateSeq S (· ++ items) >>= fun _ => ret Value.none) _ _ s
  refine wpAny_bind (wpAny_updateSeq kS rfl ?_)
  exact wpAny_pure hQ
section
variable {X : Cx}
def rExtendT (K : PySem.W.Frag) : V → List V → Hp → VK → Prop := fun x vs Hh Qz => ∃ l b xs zs, x = .ref l ∧ vs = [.ref b] ∧ Hh l = some (.lst xs) ∧ SqT K Hh b zs ∧ xs.length + zs.length ≤ sizeLine ∧ Qz .non (upd Hh l (.lst (xs ++ zs)))
theorem mt_extendT : MtM X "list.extend" (rExtendT X.K) := by
  intro pz s sg Hh x vs v us Qz J rx rw1 h
  obtain ⟨l, b, xs, zs, rfl, rfl, kH, kB, kz, qz⟩ := h
  cases rx
  obtain ⟨u, rfl, ru⟩ := rw1.one
  cases ru
  obtain ⟨z, vz, n, r, kl, e⟩ := J.lstM kH
  obtain ⟨vz2, r2, ⟨o, ko, kc, n2, kd⟩, kz2⟩ := J.tuple kB
  have hl2 := r2.length
  have kne : l ≠ b := fun qz => by
    subst qz
    rw [e] at ko
    cases ko
    have hc' : Value.type "list" = Value.type "tuple" := kc
    injection hc' with g1
    exact absurd g1 (by decide)
  have ksz : vz.toArray.size + vz2.toArray.size ≤ sizeLine := by rw [List.size_toArray, List.size_toArray]; omega
  refine call_meets (S := fun _ R s' => s' = s ∧ R (.ok (.ret Value.none)) { s with heap := s.heap.update l (Obj.mapSeq fun x => x ++ vz2.toArray) }) F.slot_list_extend ⟨_, e, rfl⟩ F.entry_list_extend (F.args_list_extend_2 _ _) ?_ ⟨rfl, ?_⟩
  · refine .of_wp fun prog w A R s' h => ?_
    obtain ⟨ks, h⟩ := h
    subst ks
    exact extend_tup e ko kc kd kne ksz ⟨_, rfl, h⟩
  · refine ⟨.non, _, J.lset (its' := vz ++ vz2) kH e (by simp) (r.append r2) ?_, rfl, qz⟩
    rw [List.length_append]
    omega
end
/-! ### enumerate(tuple) -/
/-- the enumerate object over the iterator at i -/
abbrev eOb (i : Addr) : Obj := { cls := .type "enumerate", data := .fields #[.none, .bool false, .ref i, rawInt 0, .none, .none] }
theorem meets_enum1 {v : Value} {o : Obj} {Hh : Heap → Prop} (Bz : Begins v o Hh) :
    Meets (Builtin.«enumerate.__new__» ⟨[.type "enumerate", v], []⟩) (fun _ R s => Hh s.heap ∧
      R (.ok (.ret (.ref (s.heap.push o).objs.size))) { s with heap := (s.heap.push o).push (eOb s.heap.objs.size) }) :=
  .of_wp fun pp ww A R s h => by
    obtain ⟨hp, g, d, tk, os⟩ := s; obtain ⟨g1, h⟩ := h
    have hsub := sub_enumerate
    have qz1 : ∀ {A' : Around} {Ez : Value → Shared → Prop} {Qz : Value → Shared → Prop}, Qz (.ref hp.objs.size) ⟨hp.push o, g, d, tk, os⟩ → wpAny (model pp ww) A' (pyIter v) Qz Ez ⟨hp, g, d, tk, os⟩ :=
      fun qz => Bz.iter pp ww _ _ ⟨hp, g, d, tk, os⟩ _ g1 qz
    wp_walk using qz1
    refine wpAny_stack_any fun zs => wpAny_pure ?_
    split
    · rename_i cz _ _ _ _ _
      cases (cz == Value.type "enumerate")
      · wp_walk using qz1
        exact ⟨_, rfl, h⟩
      · wp_walk using qz1
        exact ⟨_, rfl, h⟩
    · wp_walk using qz1
      exact ⟨_, rfl, h⟩
section
variable {prog : Program} {w : World} {A : Around} {Ez : Value → Shared → Prop} {s : Shared}
theorem call_enum1 {v : Value} {o : Obj} {Hh : Heap → Prop} {Qz : Value → Shared → Prop} (Bz : Begins v o Hh) (g1 : Hh s.heap)
    (h : ∀ h', IsEnum h' (s.heap.objs.size + 1) s.heap.objs.size 0 .none → h'.get? s.heap.objs.size = some o → h'.objs.size = s.heap.objs.size + 2 →
      (∀ b o, s.heap.get? b = some o → h'.get? b = some o) → Qz (.ref (s.heap.objs.size + 1)) { s with heap := h' }) :
    wpAny (model prog w) A (call (.type "enumerate") [v]) Qz Ez s := by
  have kz := Heap.size_push s.heap o
  have ke : IsEnum ((s.heap.push o).push (eOb s.heap.objs.size)) (s.heap.objs.size + 1) s.heap.objs.size 0 .none := kz ▸ Heap.get?_push_size (s.heap.push o) (o := eOb s.heap.objs.size) rfl
  refine callType_new F.called_enumerate (by decide)
    (F.typeCall_enumerate_1 _) (F.newCall_enumerate_1 _) (fun z => F.args_object_init_2 z _)
    F.entry_enumerate_new (meets_enum1 Bz) ⟨g1, ?_⟩
  show _ ∧ _
  rw [kz]
  refine ⟨⟨_, ke, rfl⟩, h _ ke (Heap.get?_push_of_some _ (Heap.get?_push_size _ Bz.free)) (by rw [Heap.size_push, kz]) fun b o x => Heap.get?_push_of_some _ (Heap.get?_push_of_some _ x)⟩
end
section
variable {prog : Program} {w : World} {A : Around} {Ez : Value → Shared → Prop} {s : Shared}
theorem pyNext_enum_end {e it t : Addr} {i : Nat} {items : Array Value} {c : Int} {olz : Value} {Qz : Option Value → Shared → Prop} (kx : items[i]? = none)
    (kh : A.in1.handled = none) (ke : IsEnum s.heap e it c olz) (kit : s.heap.IsTupleIter it t i) (ht : s.heap.IsTuple t items)
    (hQ : ∀ h', Heap.ExtBut it s.heap h' → Qz none { s with heap := h' }) : wpAny (model prog w) A (pyNext (.ref e)) Qz Ez s := by
  have kT : s.TypeIs (.ref e) "enumerate" := ⟨_, ke, rfl⟩
  unfold pyNext
  refine wpAny_bind (wpAny_attempt (wpAny_callSpecial?_slot (name := Str.ofString "__next__") kT F.slot_enumerate_next
    (wpAny_call_entry F.slot_enumerate_next kT F.entry_enumerate_next ?_ (F.args_enumerate_next_1 _))))
  show wpAny _ _ (field (Value.ref e) 2 >>= _) _ _ s
  refine wpAny_bind (wpAny_field ke rfl (x := .ref it) rfl ?_)
  refine wpAny_bind (wpAny_nextOf_tuple_end kh kit ht kx fun h' x ke' hx' => ?_)
  obtain ⟨o, ko, kc⟩ := hx'
  refine wpAny_bind (wpAny_isInstance (T := "StopIteration") (b := true) ⟨o, ko, kc⟩ isSubtype_stop ?_)
  exact wpAny_pure (hQ _ ke')
end
/-- the tuple at a, each item in a nw pair -/
def IteT (K : PySem.W.Frag) (a : Addr) : It :=
  ⟨fun i Hh => ∃ (xs : List V) (x : V), SqT K Hh a xs ∧ xs[i]? = some x, fun i Hh v H' => ∃ T x, v = .ref T ∧ Hh T = none ∧ H' = upd Hh T (.tup [.int (i : Nat), x]) ∧ ∀ xs, SqT K Hh a xs → xs[i]? = some x, fun i Hh => ∃ xs : List V, SqT K Hh a xs ∧ xs.length ≤ i⟩
theorem turn_enumT {P : Program} {w : World} {K : PySem.W.Frag} {elts : List Expr} {kk : Nat} {tpos : Pos} (a e it : Addr) :
    Turn P w K (.Tuple elts kk tpos) (IteT K a) [e, it] e (fun i h => (∃ olz, IsEnum h e it ((i : Nat) : Int) olz) ∧ h.IsTupleIter it a i ∧ e ≠ it ∧ a ≠ e ∧ a ≠ it) where
  mem := by simp
  obj := fun i h st b kb => by
    obtain ⟨⟨olz, ke⟩, ⟨o, ko, kc, kd⟩, _⟩ := st
    have ee : b = e ∨ b = it := by simpa using kb
    rcases ee with z | z
    · rw [z]; exact ⟨_, ke, fun v qz => nomatch qz⟩
    · rw [z]; exact ⟨o, ko, fun v qz => by rw [kd] at qz; cases qz⟩
  keep := fun i h h' st k => let ⟨⟨olz, ke⟩, hi, kne⟩ := st; ⟨⟨olz, k e (by simp) _ ke⟩, hi.at fun o qz => k it (by simp) o qz, kne⟩
  item := by
    intro X kP kw kK kc i pz s sg Hh Ez J kf st kg
    subst kP kw kK
    obtain ⟨⟨olz, ke⟩, kit, kne, kae, kai⟩ := st
    obtain ⟨xs, x, kq, kx⟩ := kg
    obtain ⟨vz, rw1, p, kz⟩ := J.tuple kq
    have kel : e < s.heap.objs.size := Heap.lt_size ke
    have kil : it < s.heap.objs.size := by obtain ⟨_, qz, _⟩ := kit; exact Heap.lt_size qz
    have hix : i < vz.toArray.size := by
      have := rw1.length
      have h2 := (List.getElem?_eq_some_iff.mp kx).1
      rw [List.size_toArray]
      omega
    have Dz := Draws.tuple (prog := X.prog) (w := X.w) (A := X.A.in1) (show X.A.in1.handled = none from J.ok.hd kc) it a kai vz.toArray
    refine wpAny_pyNext_enum_itemD Dz ke ⟨kit, p⟩ hix kne (by simp [kne, Ne.symm kae]) fun u h' tk ku ko hit' kT ksz kk => ?_
    have ru : RelV x u := by
      obtain ⟨u2, hu2, r2⟩ := rw1.get kx
      have e3 : u2 = u := by
        have ku' : vz[i]? = some u := by simpa using ku
        exact Option.some.inj (hu2.symm.trans ku')
      exact e3 ▸ r2
    refine ⟨_, rfl, wpAny_letOwnedTupleGo_enum (s := { s with heap := h', toks := tk + 1 }) ko fun h'' ke' sbz => ?_⟩
    have kT2 : h''.get? s.heap.objs.size = some { cls := .type "tuple", data := .seq #[.int i tk, u] } := (sbz.2 _ (Nat.ne_of_gt kel)).trans kT
    have nw : ObjOk X.prog X.w (upd Hh s.heap.objs.size (.tup [.int (i : Nat), x])) h'' s.heap.objs.size (.tup [.int (i : Nat), x]) :=
      ⟨by show 2 ≤ sizeLine; decide, [.int i tk, u], .cons ⟨_, rfl⟩ (.cons ru .nil), ⟨_, kT2, rfl, _, rfl⟩⟩
    have J1 : Inv X pz sg (upd Hh s.heap.objs.size (.tup [.int (i : Nat), x])) { s with heap := h'', toks := tk + 1 } :=
      J.turnedNew (ch := [e, it]) (fun b ob kb qz => (sbz.2 b (fun z => kb (by simp [z]))).trans (kk b ob (fun z => kb (by simp [z])) (fun z => kb (by simp [z])) qz)) kf (Nat.le_refl _) nw
    refine ⟨.ref s.heap.objs.size, _, J1, rfl, ⟨_, x, rfl, J.hok.fresh (Nat.le_refl _), rfl, fun ys hy => by rw [J.tuple_inj hy kq]; exact kx⟩, ⟨⟨u, ?_⟩, hit'.1.at fun o qz => (sbz.2 it (Ne.symm kne)).trans qz, kne, kae, kai⟩, fun b kb => ?_⟩
    · have e1 : (((i + 1 : Nat)) : Int) = (i : Int) + 1 := by omega
      rw [e1]; exact ke'
    · have kb' : b < s.heap.objs.size := by
        have ee : b = e ∨ b = it := by simpa using kb
        rcases ee with z | z
        · rw [z]; exact kel
        · rw [z]; exact kil
      rw [upd_ne (Nat.ne_of_lt kb')]
      exact (kf b kb).1
  done := by
    intro X kP kw kK kc i pz s sg Hh Ez J kf st kg
    subst kP kw kK
    obtain ⟨⟨olz, ke⟩, kit, kne, kae, kai⟩ := st
    obtain ⟨xs, kq, kx⟩ := kg
    obtain ⟨vz, rw1, p, kz⟩ := J.tuple kq
    obtain ⟨f0, f1, f2, f3, f4, f5⟩ := kf it (by simp)
    have hl := rw1.length
    exact pyNext_enum_end (by simp; omega) (show X.A.in1.handled = none from J.ok.hd kc) ke kit p fun h' eb => ⟨rfl, J.turned (t' := s.toks) (fun b o kb qz => eb b o kb qz) f0 f1 f3 f4 f5⟩
  self := fun A i s Qz Ez st h => let ⟨⟨_, ke⟩, _⟩ := st; wpAny_pyIter_enum ke h
def iEnumT (K : PySem.W.Frag) (ta : TA) : TI := fun sg Hh R => ta sg Hh fun vs H1 => ∃ a xs, vs = [.ref a] ∧ SqT K H1 a xs ∧ R (IteT K a) H1
theorem pi_enumT {X : Cx} {e : Expr} {ta : TA} {p pos tpos : Pos} {elts : List Expr} {kk : Nat} (kg : Gl X "enumerate") (km : X.mg "enumerate" = none) (ka : PA X [e] ta) (ks : starEach [e] X.env = [(false, eval e X.env)] := by rfl) :
    PI X (.Tuple elts kk tpos) (.Call (.Name "enumerate" p) [e] [] pos) (iEnumT X.K ta) := by
  refine ⟨fun pz s sg Hh R J h => ?_⟩
  refine Call_ (ld_blt J kg km boot_enumerate (PyProof.Rows.callWith_type1 (thn (ka.run pos pz s sg Hh _ J h) fun us s1 ⟨vs, H1, J1, r1, qz1⟩ => ?_) ks rfl))
  obtain ⟨a, xs, ex, kq, qz⟩ := qz1
  subst ex
  cases r1 with
  | cons r rr =>
    cases rr
    cases r
    obtain ⟨vz, rw1, p', kz⟩ := J1.tuple kq
    have hal : a < s1.heap.objs.size := p'.lt
    refine call_enum1 (begins_tuple a vz.toArray) p' fun h' ke kit ksz kk => wpAny_pyIter_enum ke ?_
    have J2 : Inv X pz sg H1 { s1 with heap := h' } := J1.kept (t' := s1.toks) kk
    refine ⟨s1.heap.objs.size + 1, [s1.heap.objs.size + 1, s1.heap.objs.size], _, _, H1, rfl, J2, turn_enumT a (s1.heap.objs.size + 1) s1.heap.objs.size, ⟨⟨.none, ke⟩, ⟨_, kit, rfl, rfl⟩, Nat.succ_ne_self _, Nat.ne_of_lt (Nat.lt_succ_of_lt hal), Nat.ne_of_lt hal⟩, fun b kb => ?_, qz⟩
    have ee : b = s1.heap.objs.size + 1 ∨ b = s1.heap.objs.size := by simpa using kb
    have kle : s1.heap.objs.size ≤ b := by
      rcases ee with z | z
      · subst z; exact Nat.le_succ _
      · rw [z]; exact Nat.le_refl _
    exact J1.fpOk kle (J1.hok.fresh kle)
theorem walk_enumT {K : PySem.W.Frag} {a : Addr} {xs : List V} : Walk (IteT K a) xs.length (fun Hh => SqT K Hh a xs) (YPair (fun i => some (.int (i : Nat))) (fun i => xs[i]?)) := by
  refine ⟨fun i _ hi qz => ⟨xs, xs[i], qz, by simp [hi]⟩, fun _ qz => ⟨xs, qz, Nat.le_refl _⟩, fun i Hh v H' _ qz y => ?_⟩
  obtain ⟨T, x, g1, g2, g3, g4⟩ := y
  exact ⟨T, .int (i : Nat), x, g1, g2, g3, rfl, g4 xs qz⟩
/-! ### C( *xs), C() by a positional promise -/
def tMakeS (K : PySem.W.Frag) (C : Addr) (sp : Sp) (Ez : XK) (te : TE) : TE := fun sg Hh Qz => te sg Hh fun y H1 => ∃ a xs, y = V.ref a ∧ (SqT K H1 a xs ∨ SqL K H1 a xs) ∧ ∀ x dx, H1 x = Option.none → H1 dx = Option.none → dx ≠ x →
  sp (V.ref x :: xs) (upd (upd H1 dx (.own x)) x (.ins C dx [])) (fun v H2 => v = .non ∧ Qz (.ref x) H2) Ez
section
variable {X : Cx} {CX : CXT} {k : Nat} {f C : Addr} {sp : Sp} {Ez : XK} {x : Str} {e : Expr} {te : TE} {p sp_ pos : Pos}
theorem pe_makeS (M : Mk X.K C f) (F : FnR X.prog X.w X.K X.mg X.base CX k f sp) (kr : Room (k + 1) X.A) (kg : Gl X x) (km : X.mg x = some (.ref C)) (kx : Passes CX X Ez) (ke : PE X e te) (kdb : (x == ("__debug__" : Str)) = false := by decide)
    (kst : starEach [.Starred e sp_] X.env = [(true, eval e X.env)] := by rfl) : PE X (.Call (.Name x p) [.Starred e sp_] [] pos) (tMakeS X.K C sp Ez te) := by
  refine ⟨fun pz s sg Hh Qz J h => ?_⟩
  refine wpAny_Call_Name_kw (ld_glob J kg km ?_ kdb)
  refine PySem.W.callWith_S (h₀ := X.base) J.ok.mod.kin M.kp (thn (ke.run pz s sg Hh _ J h) fun v s1 ⟨y, H1, J1, ry, a, xs, ey, kxs, qz⟩ => ?_) kst
  subst ey
  cases (show v = Value.ref a from ry)
  exact StX.star_any J1 kxs fun us s2 J2 rw1 => ⟨J2.kIn, StX.run_makeR M F kr kx J2 rw1 qz⟩
theorem pe_makeR0 (M : Mk X.K C f) (F : FnR X.prog X.w X.K X.mg X.base CX k f sp) (kr : Room (k + 1) X.A) (kg : Gl X x) (km : X.mg x = some (.ref C)) (kx : Passes CX X Ez) (kdb : (x == ("__debug__" : Str)) = false := by decide) :
    PE X (.Call (.Name x p) [] [] pos) (StX.tMakeR C sp Ez tNil) := by
  refine ⟨fun pz s sg Hh Qz J h => ?_⟩
  refine wpAny_Call_Name_kw (ld_glob J kg km ?_ kdb)
  exact PySem.W.callWith_K0 J.kIn M.kp (StX.run_makeR (us := []) M F kr kx J .nil h)
end
/-! ### f(e, ..) by a positional promise -/
section
variable {X : Cx} {CX : CXT} {k : Nat} {f : Addr} {sp : Sp} {Ez : XK} {x : Str} {e : Expr} {es : List Expr} {t : TA} {p pos : Pos}
theorem pe_callR (F : FnR X.prog X.w X.K X.mg X.base CX k f sp) (kr : Room k X.A) (kg : Gl X x) (km : X.mg x = some (.ref f)) (kk : PySem.W.keepIn X.K (.ref f) = true) (kx : Passes CX X Ez) (ka : PA X (e :: es) t) (kdb : (x == ("__debug__" : Str)) = false := by decide)
    (ke : starEach (e :: es) X.env = (false, eval e X.env) :: starEach es X.env := by rfl) (kpl : (backTo pos (starEach es X.env)).any (·.1) = false := by rfl) :
    PE X (.Call (.Name x p) (e :: es) [] pos) (fun sg Hh Qz => t sg Hh fun vs H1 => sp vs H1 Qz Ez) := by
  refine ⟨fun pz s sg Hh Qz J h => ?_⟩
  refine wpAny_Call_Name_kw (ld_glob J kg km ?_ kdb)
  refine PySem.W.callWith_K (h₀ := X.base) J.ok.mod.kin kk (thn (ka.run pos pz s sg Hh _ J h) fun us s1 ⟨vs, H1, J1, r, qz⟩ => ⟨J1.kIn, ?_⟩) ke kpl
  exact wpAny_call (run_fnR F kr kx J1 r qz)
end
/-- a def of the module as a callee: where it is, that it is kept, vz promise -/
structure Dn (P : Program) (w : World) (K : PySem.W.Frag) (mg : Str → Option Value) (base : Heap) (k : Nat) (x : Str) (f : Addr) (sp : Sp) : Prop where
  at_ : mg x = some (.ref f)
  kp : PySem.W.keepIn K (Value.ref f) = true
  ok : FnR P w K mg base CX0 k f sp
end Cc

/-! The data (steps, plans, the drawing's state over the heap) and the mathematics. -/
namespace Cc
open PySem PySem.Spec PyProof.Rows L2
/-! ### steps -/
inductive Stp where
  | turn
  | meet (red : Bool) (n : Int)
def roomS (b : Bool) : Str := if b then "red" else "blue"
def stpV : Stp → List V
  | .turn => [.str "turn"]
  | .meet b n => [.str (roomS b), .int n]
def Stp.ok (c : Int) : Stp → Prop
  | .turn => True
  | .meet _ n => 0 ≤ n ∧ n ≤ c
theorem Stp.ok.mono {s : Stp} {c d : Int} (h : s.ok c) (hd : c ≤ d) : s.ok d := by
  cases s with
  | turn => trivial
  | meet b n => exact ⟨h.1, Int.le_trans h.2 hd⟩
def mx (i j : Int) : Int := if j > i then j else i
theorem mx_eq (i j : Int) : mx i j = max i j := by unfold mx; omega
/-- what a step leaves in the red room, and carries: the code's own way -/
def stepF (c : Int) (s : Stp) (r : Int) : Int × Int := match s with
  | .turn => (c - r, 0)
  | .meet true n => (r + mx 0 (n - r), mx 0 (n - r))
  | .meet false n => (r - mx 0 (n - (c - r)), mx 0 (n - (c - r)))
/-- steps: the red room, the sum -/
def stepsF (c : Int) : List Stp → Int × Int → Int × Int
  | [], x => x
  | s :: ss, x => stepsF c ss ((stepF c s x.1).1, x.2 + (stepF c s x.1).2)
theorem stepsF_app (c : Int) : ∀ (a b : List Stp) (x : Int × Int), stepsF c (a ++ b) x = stepsF c b (stepsF c a x)
  | [], _, _ => rfl
  | s :: a, b, x => by
    show stepsF c (a ++ b) _ = stepsF c b (stepsF c a _)
    exact stepsF_app c a b _
theorem stepsF_one (c : Int) (a : List Stp) (s : Stp) (x : Int × Int) : stepsF c (a ++ [s]) x = ((stepF c s (stepsF c a x).1).1, (stepsF c a x).2 + (stepF c s (stepsF c a x).1).2) := by
  rw [stepsF_app]
  rfl
theorem stepsF_add (c : Int) : ∀ (a : List Stp) (r t : Int), stepsF c a (r, t) = ((stepsF c a (r, 0)).1, t + (stepsF c a (r, 0)).2)
  | [], r, t => by simp [stepsF]
  | s :: a, r, t => by
    show stepsF c a _ = ((stepsF c a _).1, t + (stepsF c a _).2)
    rw [stepsF_add c a (stepF c s r).1 (t + (stepF c s r).2), stepsF_add c a (stepF c s r).1 (0 + (stepF c s r).2)]
    simp only [Prod.mk.injEq, true_and]
    omega
theorem take_more {α : Type} : ∀ {l : List α} {i : Nat} {x : α}, l[i]? = some x → l.take (i + 1) = l.take i ++ [x]
  | [], i, x, h => by simp at h
  | a :: l, 0, x, h => by
    have e : a = x := Option.some.inj h
    subst e
    rfl
  | a :: l, i + 1, x, h => by
    have ih := take_more (l := l) (i := i) (x := x) h
    show a :: l.take (i + 1) = a :: l.take i ++ [x]
    rw [ih]
    rfl
/-- the red room stays within the house -/
theorem stepF_in {c : Int} {s : Stp} {r : Int} (hs : s.ok c) (h0 : 0 ≤ r) (h1 : r ≤ c) : 0 ≤ (stepF c s r).1 ∧ (stepF c s r).1 ≤ c ∧ 0 ≤ (stepF c s r).2 ∧ (stepF c s r).2 ≤ c := by
  cases s with
  | turn => simp only [stepF]; omega
  | meet b n =>
    obtain ⟨h2, h3⟩ := hs
    cases b <;> simp only [stepF, mx] <;> split <;> omega
theorem stepsF_in {c : Int} : ∀ {ss : List Stp} {r t : Int}, (∀ s ∈ ss, s.ok c) → 0 ≤ r → r ≤ c → 0 ≤ t → 0 ≤ (stepsF c ss (r, t)).1 ∧ (stepsF c ss (r, t)).1 ≤ c ∧ 0 ≤ (stepsF c ss (r, t)).2
  | [], r, t, _, h0, h1, ht => ⟨h0, h1, ht⟩
  | s :: ss, r, t, hs, h0, h1, ht => by
    obtain ⟨a, b, d, _⟩ := stepF_in (hs s List.mem_cons_self) h0 h1
    exact stepsF_in (ss := ss) (fun x hx => hs x (List.mem_cons_of_mem _ hx)) a b (by show 0 ≤ t + (stepF c s r).2; omega)
/-- rounds -/
def roundsF (c : Int) (ss : List Stp) : Nat → Int × Int → Int × Int
  | 0, x => x
  | n + 1, x => roundsF c ss n (stepsF c ss x)
theorem roundsF_succ (c : Int) (ss : List Stp) : ∀ (n : Nat) (x : Int × Int), roundsF c ss (n + 1) x = stepsF c ss (roundsF c ss n x)
  | 0, x => rfl
  | n + 1, x => by
    show roundsF c ss (n + 1) (stepsF c ss x) = _
    rw [roundsF_succ c ss n (stepsF c ss x)]
    rfl
theorem roundsF_in {c : Int} {ss : List Stp} (hs : ∀ s ∈ ss, s.ok c) : ∀ {n : Nat} {r t : Int}, 0 ≤ r → r ≤ c → 0 ≤ t → 0 ≤ (roundsF c ss n (r, t)).1 ∧ (roundsF c ss n (r, t)).1 ≤ c ∧ 0 ≤ (roundsF c ss n (r, t)).2
  | 0, r, t, h0, h1, ht => ⟨h0, h1, ht⟩
  | n + 1, r, t, h0, h1, ht => by
    rw [roundsF_succ]
    obtain ⟨a, b, d⟩ := roundsF_in hs (n := n) h0 h1 ht
    exact stepsF_in hs a b d
/-- behind n rounds -/
def afterF (c : Int) (ss : List Stp) (r : Int) (n : Nat) : Int × Int := roundsF c ss n (r, 0)

/-! ### steps over the heap -/
def StepAt (H : Hp) (v : V) (s : Stp) : Prop := ∃ t, v = .ref t ∧ H t = some (.tup (stpV s))
def Steps (H : Hp) (vs : List V) (ss : List Stp) : Prop := Paired (StepAt H) vs ss
theorem Steps.get {H : Hp} : ∀ {vs : List V} {ss : List Stp} {i : Nat} {v : V}, Steps H vs ss → vs[i]? = some v → ∃ s, ss[i]? = some s ∧ StepAt H v s
  | [], [], i, v, .nil, e => by simp at e
  | _, _, 0, v, .cons r _, e => by
    have e' : _ = v := Option.some.inj e
    subst e'
    exact ⟨_, rfl, r⟩
  | _, _, i + 1, v, .cons _ t, e => by
    obtain ⟨s, h1, h2⟩ := Steps.get (i := i) (v := v) t e
    exact ⟨s, h1, h2⟩
theorem Steps.length {H : Hp} {vs : List V} {ss : List Stp} (h : Steps H vs ss) : vs.length = ss.length := Paired.length h
theorem Steps.append {H : Hp} : ∀ {vs ws : List V} {ss us : List Stp}, Steps H vs ss → Steps H ws us → Steps H (vs ++ ws) (ss ++ us)
  | _, _, _, _, .nil, b => b
  | _, _, _, _, .cons r t, b => .cons r (Steps.append t b)
theorem Steps.mono {H H' : Hp} {vs : List V} {ss : List Stp} (h : Steps H vs ss) (k : ∀ t xs, H t = some (.tup xs) → H' t = some (.tup xs)) : Steps H' vs ss :=
  Paired.mapP h fun _ _ ⟨t, e, q⟩ => ⟨t, e, k t _ q⟩
theorem Steps.same {H H' : Hp} {vs : List V} {ss : List Stp} (h : Steps H vs ss) (k : Same H H') : Steps H' vs ss := h.mono fun t xs e => k t _ e
theorem Steps.get2 {H : Hp} {vs : List V} {ss : List Stp} (h : Steps H vs ss) {i : Nat} {s : Stp} (e : ss[i]? = some s) : ∃ v, vs[i]? = some v ∧ StepAt H v s := by
  have hi : i < vs.length := by rw [h.length]; exact (List.getElem?_eq_some_iff.mp e).1
  obtain ⟨s', h1, h2⟩ := h.get (List.getElem?_eq_getElem hi)
  rw [e] at h1
  cases h1
  exact ⟨_, List.getElem?_eq_getElem hi, h2⟩
/-- a plan -/
def PlanAt (C : Addr) (H : Hp) (p : Addr) (ss : List Stp) : Prop := ∃ dx tp ws, H p = some (.ins C dx [("step_tuple", .ref tp)]) ∧ H tp = some (.tup ws) ∧ Steps H ws ss
theorem PlanAt.same {C : Addr} {H H' : Hp} {p : Addr} {ss : List Stp} (h : PlanAt C H p ss) (k : Same H H') : PlanAt C H' p ss :=
  let ⟨dx, tp, ws, a, b, d⟩ := h
  ⟨dx, tp, ws, k _ _ a, k _ _ b, d.same k⟩
/-- all but what stands at s is as it was -/
def But (s : Addr) (H H' : Hp) : Prop := ∀ b o, b ≠ s → H b = some o → H' b = some o
theorem But.refl (s : Addr) (H : Hp) : But s H H := fun _ _ _ e => e
theorem But.trans {s : Addr} {H H1 H2 : Hp} (a : But s H H1) (b : But s H1 H2) : But s H H2 := fun c o n e => b c o n (a c o n e)
theorem But.of {s : Addr} {H H' : Hp} (a : Same H H') : But s H H' := fun c o _ e => a c o e
/-- a list that nobody writes: locked, or of the written part -/
def SqF (K : PySem.W.Frag) (H : Hp) (a : Addr) (xs : List V) : Prop := (∃ o, H a = some (.frz o (.lst xs))) ∨ SqL K (fun _ => none) a xs
theorem SqF.sq {K : PySem.W.Frag} {H : Hp} {a : Addr} {xs : List V} (h : SqF K H a xs) : SqL K H a xs := by
  rcases h with h | ((h | ⟨o, h⟩) | h)
  · exact .inl (.inr h)
  · cases h
  · cases h
  · exact .inr h
theorem SqF.keep {K : PySem.W.Frag} {H H' : Hp} {a : Addr} {xs : List V} (h : SqF K H a xs) (k : ∀ b o u, H b = some (.frz o u) → H' b = some (.frz o u)) : SqF K H' a xs := by
  rcases h with ⟨o, h⟩ | h
  · exact .inl ⟨o, k _ _ _ h⟩
  · exact .inr h
theorem sqF_of {K : PySem.W.Frag} {H : Hp} {a : Addr} {xs : List V} (h : SqL K H a xs) (o : Only H) : SqF K H a xs := by
  rcases h with (h | h) | h
  · rcases o a with q | ⟨ob, ys, q⟩
    · rw [q] at h
      cases h
    · rw [q] at h
      cases h
  · exact .inl h
  · exact .inr (.inr h)
/-- the drawing's state: a list of the script, a place, two numbers -/
def DrawAt (K : PySem.W.Frag) (H : Hp) (s : Addr) : Prop := ∃ (a : Addr) (ns : List Int) (p x y : Int), H s = some (.lst [.ref a, .int p, .int x, .int y]) ∧ SqF K H a (ns.map V.int) ∧ ns.length ≤ 63 ∧ 0 ≤ p
theorem DrawAt.lst {K : PySem.W.Frag} {H : Hp} {s : Addr} (h : DrawAt K H s) : ∃ xs, H s = some (.lst xs) := let ⟨_, _, _, _, _, e, _⟩ := h; ⟨_, e⟩
theorem DrawAt.same {K : PySem.W.Frag} {H H' : Hp} {s : Addr} (h : DrawAt K H s) (k : Same H H') : DrawAt K H' s :=
  let ⟨a, ns, p, x, y, e, q, l, z⟩ := h
  ⟨a, ns, p, x, y, k _ _ e, q.keep fun b o u e => k b _ e, l, z⟩
/-- .. a list changed elsewhere -/
theorem DrawAt.but {K : PySem.W.Frag} {H H' : Hp} {s l : Addr} (h : DrawAt K H s) (k : But l H H') (hl : ∃ xs, H l = some (.lst xs)) (n : s ≠ l) : DrawAt K H' s :=
  let ⟨a, ns, p, x, y, e, q, z⟩ := h
  ⟨a, ns, p, x, y, k _ _ n e, q.keep fun b o u e => k b _ (let ⟨_, e2⟩ := hl; ne_of e e2 (fun q => nomatch q)) e, z⟩
theorem Steps.but {H H' : Hp} {s : Addr} {vs : List V} {ss : List Stp} (h : Steps H vs ss) (k : But s H H') (hs : ∃ xs, H s = some (.lst xs)) : Steps H' vs ss :=
  h.mono fun t xs e => k t _ (let ⟨_, e2⟩ := hs; ne_of e e2 (fun q => nomatch q)) e
theorem PlanAt.but {C : Addr} {H H' : Hp} {p s : Addr} {ss : List Stp} (h : PlanAt C H p ss) (k : But s H H') (hs : ∃ xs, H s = some (.lst xs)) : PlanAt C H' p ss := by
  obtain ⟨dx, tp, ws, a, b, d⟩ := h
  obtain ⟨ys, e2⟩ := id hs
  exact ⟨dx, tp, ws, k _ _ (ne_of a e2 (fun q => nomatch q)) a, k _ _ (ne_of b e2 (fun q => nomatch q)) b, d.but k hs⟩
theorem same_upd {H : Hp} {p : Addr} {o : HO} (h : H p = none) : Same H (upd H p o) := fun b u e => by
  rw [upd_ne (ne_of_none e h)]
  exact e
theorem but_upd {H : Hp} {p : Addr} {o : HO} : But p H (upd H p o) := fun b u n e => by
  rw [upd_ne n]
  exact e
theorem lk_self {f : Str} {v : V} : List.lookup f [(f, v)] = some v := by simp [List.lookup]
theorem lk_no {f g : Str} {v : V} (h : ¬ (f == g) = true) : List.lookup f [(g, v)] = none := by
  have e : (f == g) = false := by simpa using h
  simp [List.lookup, e]
theorem room_eq (b : Bool) : decide (V.str (roomS b) = V.str "red") = b := by
  cases b <;> decide +kernel
theorem eqv_turn : PyData.eqv (.tuple [.str "turn"]) (.tuple [.str "turn"]) = true := by decide +kernel
theorem eqv_meet (b : Bool) (n : Int) : PyData.eqv (.tuple [.str (roomS b), .int n]) (.tuple [.str "turn"]) = false := by
  cases b <;> simp [PyData.eqv, PyData.eqvAll, roomS]
theorem shaped_meet (b : Bool) (n : Int) : SeqAt.shaped (.tuple [.str (roomS b), .int n]) = true := by
  have h1 : PyData.strOk (roomS b) = true := by cases b <;> decide +kernel
  simp [SeqAt.shaped, PyData.canLay0, PyData.canLayAll0, PyData.depth, PyData.depthAll, h1]
end Cc

namespace Cc
open PySem PySem.Spec PyProof.Rows L2
/-! ### the text by places -/
def top (i : Nat) : Stmt := PySem.Challenge.pw_chaircarry_k04_whole_all_starts.main.body.getD i (.Pass ⟨0, 0, 0, 0⟩)
abbrev sIsNum : Stmt := top 8
abbrev sIsWhole : Stmt := top 7
abbrev sChkNum : Stmt := top 9
abbrev sChkHouse : Stmt := top 10
abbrev sIsStep : Stmt := top 13
abbrev sInit : Stmt := inClass (top 14) 2
abbrev sSteps : Stmt := inClass (top 14) 4
abbrev sJoined : Stmt := inClass (top 14) 6
/-! ### promises -/
def spIsWhole : Sp := fun vs H Q _ => ∃ v : Int, vs = [.int v] ∧ Q (.bl true) H
def spIsNum : Sp := fun vs H Q _ => ∃ (v a b : Int), vs = [.int v, .int a, .int b] ∧ Q (.bl (decide (a ≤ v ∧ v ≤ b))) H
def spChkNum : Sp := fun vs H Q _ => ∃ (v a b : Int), vs = [.int v, .int a, .int b] ∧ a ≤ v ∧ v ≤ b ∧ Q .non H
def spChkHouse (C : Addr) : Sp := fun vs H Q _ => ∃ (p : Addr) (c : Int) (ss : List Stp), vs = [.ref p, .int c] ∧ PlanAt C H p ss ∧ 0 ≤ c ∧ c ≤ 1000000000000000000 ∧ (∀ s ∈ ss, s.ok c) ∧ ss.length ≤ 60 ∧ ∀ H', Same H H' → Q .non H'
def spIsStep : Sp := fun vs H Q _ => ∃ (v : V) (s : Stp), vs = [v] ∧ StepAt H v s ∧ s.ok 1000000000000000000 ∧ ∀ H', Same H H' → Q (.bl true) H'
def spInitS (C : Addr) : Sp := fun vs H Q _ => ∃ (x tp dx : Addr) (ws : List V) (ss : List Stp), vs = [.ref x, .ref tp] ∧ H x = some (.ins C dx []) ∧ H tp = some (.tup ws) ∧ Steps H ws ss ∧ ss.length ≤ 60 ∧ (∀ s ∈ ss, s.ok 1000000000000000000) ∧
  ∀ H', But x H H' → H' x = some (.ins C dx [("step_tuple", .ref tp)]) → Q .non H'
/-- Plan.__init__ by positional values -/
def spInit (C : Addr) : Sp := fun vs H Q _ => ∃ (x dx : Addr) (ws : List V) (ss : List Stp), vs = .ref x :: ws ∧ H x = some (.ins C dx []) ∧ Steps H ws ss ∧ ss.length ≤ 60 ∧ (∀ s ∈ ss, s.ok 1000000000000000000) ∧
  ∀ H' tp, But x H H' → H' x = some (.ins C dx [("step_tuple", .ref tp)]) → H' tp = some (.tup ws) → Q .non H'
def spJoinedS (C : Addr) : Sp := fun vs H Q _ => ∃ (x tp : Addr) (ss : List Stp) (o : Addr) (us : List Stp), vs = [.ref x, .ref tp] ∧ PlanAt C H x ss ∧ H tp = some (.tup [.ref o]) ∧ PlanAt C H o us ∧ (ss ++ us).length ≤ 60 ∧ (∀ s ∈ ss ++ us, s.ok 1000000000000000000) ∧
  ∀ p H', Same H H' → PlanAt C H' p (ss ++ us) → Q (.ref p) H'
def spJoined (C : Addr) : Sp := fun vs H Q _ => ∃ (x : Addr) (ss : List Stp) (o : Addr) (us : List Stp), vs = [.ref x, .ref o] ∧ PlanAt C H x ss ∧ PlanAt C H o us ∧ (ss ++ us).length ≤ 60 ∧ (∀ s ∈ ss ++ us, s.ok 1000000000000000000) ∧
  ∀ p H', Same H H' → PlanAt C H' p (ss ++ us) → Q (.ref p) H'
/-- a def that calls none of the program's: it wants no room of its own -/
theorem fn_low {P : Program} {w : World} {K : PySem.W.Frag} {mg : Str → Option Value} {base : Heap} {x qual : Str} {st : Stmt} {f : Addr} {fd : FuncData} {N ps : List Str} {sp : Sp} (F : Fun K x qual st f fd) (S : FnScope N ps (defScope st)) (len : ∀ vs H Q E, sp vs H Q E → vs.length = ps.length)
    (hb : ∀ (cdv : Value) (A : Around) (outer : List Env) (s : Shared) (H : Hp) (vs : List V) (Q : VK) (E : XK), sp vs H Q E → ∃ t, PSs (cxOf CX0 P w K mg base N qual (defScope st) f cdv A outer s H E).nox (defBody st) t ∧ t { nx := fun _ H' => Q .non H', rt := Q } (start N vs) H) : FnOk P w K mg base CX0 0 f fd ps sp := by
  obtain ⟨oc, od, kV, dc, pm, an, cdv, ct, osl, rfl, lk, hcd⟩ := F.ex
  refine ⟨len, fun A outer s H args us vs Q E hr e0 hbd r hsp => ?_⟩
  have hl := len _ _ _ _ hsp
  have KX : K.In s.heap := e0.mod.kin.keeps (fun b o e => (e0.bs b o e).1)
  have lim := e0.mod.nolimit.keeps (fun b o e => (e0.bs b o e).1)
  have hk : ∀ y ∈ ps.zip us, (defScope st).names.lookup y.1 = some .local ∨ ((defScope st).names.lookup y.1 = some .cell ∧ ((cellsFrom (s.heap.objs.size + 1) (defScope st).names []).lookup y.1).isSome = true) := by
    rintro ⟨n, v⟩ hy
    exact (S.par n (List.of_mem_zip hy).1).imp id fun q => ⟨q, PySem.W.cellsFrom_some _ _ _ (.inl q)⟩
  refine codeAny_call_function hr.depth (KX _ _ lk) rfl S.co S.gen rfl (PySem.W.codeRec_of KX hcd) (hbd _ _ _ _ (wpAny_newFunctionEnv_cells S.kind hk fun env he s1 x => ?_))
  subst he
  obtain ⟨t, ht, hq⟩ := hb cdv A outer s H vs Q E hsp
  refine ⟨lim.keeps (x.toInCall.keep), codeAny_func ?_⟩
  have I : Inv (cxOf CX0 P w K mg base N qual (defScope st) f cdv A outer s H E) [] (start N vs) H s1 := inv_start S hr.hd e0 hl r x
  refine wpAny_mono (ht.nox.run [] s1 (start N vs) H _ I hq) (fun fl s' hs => ?_) fun e s' hs => hs
  match fl, hs with
  | .ret u, ⟨v, σ', H', J, rv, q⟩ => exact ⟨v, H', J.os, J.bare, J.base, J.hok, rv, q⟩
  | .next, ⟨σ', H', J, q⟩ => exact ⟨.non, H', J.os, J.bare, J.base, J.hok, rfl, q⟩
  | .brk, ⟨_, _, _, q⟩ => exact q.elim
  | .cont, ⟨_, _, _, q⟩ => exact q.elim
/-! ### what the top has written -/
structure Bt (mg : Str → Option Value) : Prop where
  isinstance : mg "isinstance" = none
  int : mg "int" = none
  bool : mg "bool" = none
  tuple : mg "tuple" = none
  list : mg "list" = none
  len : mg "len" = none
  max : mg "max" = none
  min : mg "min" = none
  abs : mg "abs" = none
  enumerate : mg "enumerate" = none
  range : mg "range" = none
  sum : mg "sum" = none
  sorted : mg "sorted" = none
  divmod : mg "divmod" = none
  zip : mg "zip" = none
  str : mg "str" = none
structure Txt (K : PySem.W.Frag) (mg : Str → Option Value) (C TU pS gS : Addr) (mc : Value) : Prop where
  b : Bt mg
  cl : Cls K C
  nS : NoAttr K C "step_tuple"
  gP : mg "Plan" = some (.ref C)
  rd : ClX.CRead K C mc
  cs : ∃ u, ClX.CVal K C mc "MAX_STEPS" (.int 60) u
  cc : ∃ u, ClX.CVal K C mc "MAX_CHAIRS" (.int 1000000000000000000) u
  con : ∃ u, Con K C "MAX_CHAIRS" (.int 1000000000000000000) u
  gT : mg "TURN" = some (.ref TU)
  tT : ∀ H, SqT K H TU [.str "turn"]
  pr : PropOf K C "steps" pS gS
section
variable {P : Program} {w : World} {K : PySem.W.Frag} {mg : Str → Option Value} {base : Heap} {C TU pS gS : Addr} {mc : Value}
/-! ### checks -/
theorem scIsWhole : FnScope ["value"] ["value"] (defScope sIsWhole) := ⟨rfl, rfl, rfl, by decide +kernel, rfl, by decide +kernel, by decide +kernel⟩
theorem ok_iswhole {f : Addr} {fd : FuncData} (F : Fun K "is_whole" "is_whole" sIsWhole f fd) (B : Bt mg) : FnOk P w K mg base CX0 0 f fd ["value"] spIsWhole := by
  refine fn_low F scIsWhole (fun vs H Q E h => ?_) (fun cdv A outer s H vs Q E h => ?_)
  · obtain ⟨v, rfl, _⟩ := h
    rfl
  · obtain ⟨v, rfl, k⟩ := h
    refine ⟨_, pss_one (ps_ret (pe_and (pe_callB call_isi (by rfl) B.isinstance (by decide +kernel) (pa_cons (pv 0) (pa_cons (pe_bltn (v := .ty "int") (by rfl) B.int (by decide +kernel) rfl) pa_nil)))
      (pe_one (pe_not (pe_callB call_isi (by rfl) B.isinstance (by decide +kernel) (pa_cons (pv 0) (pa_cons (pe_bltn (v := .ty "bool") (by rfl) B.bool (by decide +kernel) rfl) pa_nil))))))), ?_⟩
    refine ⟨_, rfl, _, _, _, _, true, rfl, .ty "int", .base (.int v), kit_ty (by decide +kernel), true, rfl, ?_⟩
    exact iteT ⟨_, rfl, _, _, _, _, false, rfl, .ty "bool", .base (.int v), kit_ty (by decide +kernel), false, rfl, k⟩
theorem scIsNum : FnScope ["value", "least", "most"] ["value", "least", "most"] (defScope sIsNum) := ⟨rfl, rfl, rfl, by decide +kernel, rfl, by decide +kernel, by decide +kernel⟩
theorem ok_isnum {f fW : Addr} {fd : FuncData} (F : Fun K "is_number" "is_number" sIsNum f fd) (W : Dn P w K mg base 0 "is_whole" fW spIsWhole) : FnOk P w K mg base CX0 1 f fd ["value", "least", "most"] spIsNum := by
  refine F.ok scIsNum (fun vs H Q E h => ?_) (fun cdv A outer s H vs Q E hr h => ?_)
  · obtain ⟨v, a, b, rfl, _⟩ := h
    rfl
  · obtain ⟨v, a, b, rfl, k⟩ := h
    refine ⟨_, pss_one (ps_ret (pe_and (pe_callR W.ok hr rfl W.at_ W.kp pass0 (pa_cons (pv 0) pa_nil))
      (pe_one (pe_chain op_le op_le (pv 1) (pv 0) (pv 2))))), ?_⟩
    refine ⟨_, rfl, v, rfl, true, rfl, ?_⟩
    refine iteT ⟨_, rfl, _, rfl, _, _, rfl, rfl, _, rfl, ?_⟩
    by_cases c : a ≤ v
    · rw [decide_eq_true c]
      refine iteT ⟨_, rfl, _, _, rfl, rfl, ?_⟩
      have e : decide (v ≤ b) = decide (a ≤ v ∧ v ≤ b) := by simp [c]
      show Q (V.bl (decide (v ≤ b))) H
      rw [e]
      exact k
    · rw [if_neg (by simp [c])]
      have e : (false : Bool) = decide (a ≤ v ∧ v ≤ b) := by simp [c]
      show Q (V.bl false) H
      rw [e]
      exact k
theorem scChkNum : FnScope ["value", "least", "most"] ["value", "least", "most"] (defScope sChkNum) := ⟨rfl, rfl, rfl, by decide +kernel, rfl, by decide +kernel, by decide +kernel⟩
theorem ok_chknum {f fN : Addr} {fd : FuncData} (F : Fun K "check_number" "check_number" sChkNum f fd) (N : Dn P w K mg base 1 "is_number" fN spIsNum) : FnOk P w K mg base CX0 2 f fd ["value", "least", "most"] spChkNum := by
  refine F.ok scChkNum (fun vs H Q E h => ?_) (fun cdv A outer s H vs Q E hr h => ?_)
  · obtain ⟨v, a, b, rfl, _⟩ := h
    rfl
  · obtain ⟨v, a, b, rfl, h1, h2, k⟩ := h
    refine ⟨_, pss_one (ps_if (pt_not (pt_val (pe_callR N.ok hr rfl N.at_ N.kp pass0 (pa_cons (pv 0) (pa_cons (pv 1) (pa_cons (pv 2) pa_nil)))))) (pss_one ps_never) pss_nil), ?_⟩
    refine ⟨_, rfl, _, rfl, _, rfl, v, a, b, rfl, _, rfl, ?_⟩
    rw [decide_eq_true (show a ≤ v ∧ v ≤ b from ⟨h1, h2⟩)]
    exact iteF k
/-! ### the plan's own -/
theorem scSteps : FnScope ["self"] ["self"] (defScope sSteps) := ⟨rfl, rfl, rfl, by decide +kernel, rfl, by decide +kernel, by decide +kernel⟩
theorem ok_steps {f : Addr} {fd : FuncData} (F : Fun K "steps" "Plan.steps" sSteps f fd) (T : Txt K mg C TU pS gS mc) : FnOk P w K mg base CX0 1 f fd ["self"] (getSp C "step_tuple") := by
  refine F.ok scSteps (fun vs H Q E h => ?_) (fun cdv A outer s H vs Q E hr h => ?_)
  · obtain ⟨a, dx, fs, v, rfl, _⟩ := h
    rfl
  · obtain ⟨a, dx, fs, v, rfl, h1, h2, k⟩ := h
    exact ⟨_, pss_one (ps_ret (pe_fld (pv 0) rfl)), _, rfl, a, C, dx, fs, v, rfl, h1, T.cl, T.nS, h2, k⟩
/-- e.steps, e a plan -/
structure Gs (P : Program) (w : World) (K : PySem.W.Frag) (mg : Str → Option Value) (base : Heap) (C gS : Addr) (fd : FuncData) : Prop where
  ok : FnOk P w K mg base CX0 1 gS fd ["self"] (getSp C "step_tuple")
  b : Binds K fd ["self"] []
theorem scChkHouse : FnScope ["plan", "chairs", "index", "step"] ["plan", "chairs"] (defScope sChkHouse) := ⟨rfl, rfl, rfl, by decide +kernel, rfl, by decide +kernel, by decide +kernel⟩
theorem ok_chkhouse {f fN : Addr} {fd fdS : FuncData} (F : Fun K "check_house" "check_house" sChkHouse f fd) (T : Txt K mg C TU pS gS mc) (G : Gs P w K mg base C gS fdS) (N : Dn P w K mg base 2 "check_number" fN spChkNum) :
    FnOk P w K mg base CX0 3 f fd ["plan", "chairs"] (spChkHouse C) := by
  refine F.ok scChkHouse (fun vs H Q E h => ?_) (fun cdv A outer s H vs Q E hr h => ?_)
  · obtain ⟨p, c, ss, rfl, _⟩ := h
    rfl
  · obtain ⟨p, c, ss, rfl, hp, h0, h1, hs, hl, k⟩ := h
    obtain ⟨dx, tp, ws, e1, e2, e3⟩ := id hp
    obtain ⟨u, hu⟩ := T.con
    refine ⟨_, pss_cons (ps_expr (pe_callR N.ok hr rfl N.at_ N.kp pass0 (pa_cons (pv 1) (pa_cons pe_int (pa_cons (pe_con (pv 0) rfl) pa_nil)))))
      (pss_one (ps_for PassesOwn.never rfl (pi_enumT (by rfl) T.b.enumerate (pa_cons (pe_prop (pv 0) T.cl T.pr G.ok hr G.b .nil pass0 rfl) pa_nil))
        (pg_tup rfl (pgs_cons (pg_name (i := 2) scChkHouse.nd rfl (.inl rfl)) (pgs_cons (pg_name (i := 3) scChkHouse.nd rfl (.inl rfl)) pgs_nil)))
        (pss_one (ps_if (PW.pt (pw_and (pt_cmpR op_eq (pe_callB call_len (by rfl) T.b.len PySem.boot_len (pa_cons (pv 3) pa_nil)) pe_int (nomark _))
          (pw_and1 (pt_cmpR op_gt (pe_ix ix_tup (pv 3) pe_int (fun _ _ => rfl)) (pv 1) (nomark _))))) (pss_one ps_never) pss_nil)))), ?_⟩
    refine ⟨_, rfl, _, rfl, p, C, dx, _, _, u, rfl, e1, T.cl, hu, lk_no (by decide +kernel), c, 0, _, rfl, h0, h1, ?_⟩
    refine ⟨_, rfl, p, dx, _, rfl, e1, p, dx, _, _, rfl, e1, lk_self, tp, ws, rfl, SqT.of e2, ?_⟩
    refine for_it (walk_enumT (xs := ws)) (fun i σ H' => ∃ a b, σ = [some (.ref p), some (.int c), a, b] ∧ Same H H') ⟨none, none, rfl, Same.refl H⟩ (fun i σ H' _ ⟨_, _, _, s1⟩ => SqT.of (s1 _ _ e2)) ?_ ?_
    · rintro i x σ H1 H2 hi ⟨a, b, rfl, s1⟩ ⟨q, y1, y2, rfl, n1, rfl, z1, z2⟩
      obtain ⟨st, hst, t, rfl, ht⟩ := e3.get z2
      have okst := hs st (List.mem_of_getElem? hst)
      have s2 : Same H (upd H1 q (.tup [y1, .ref t])) := s1.trans (same_upd n1)
      have ht2 := s2 _ _ ht
      refine ⟨q, _, rfl, SqT.of upd_same, rfl, _, _, rfl, _, _, rfl, rfl, ?_⟩
      refine ⟨_, rfl, _, _, rfl, .inr ⟨_, SqT.of ht2, rfl⟩, rfl, ?_⟩
      cases st with
      | turn =>
        refine ⟨_, rfl, ?_⟩
        refine iteF ?_
        exact iteF ⟨_, _, rfl, s2⟩
      | meet bb n =>
        refine ⟨_, rfl, iteT ⟨_, rfl, t, _, _, _, rfl, rfl, SqT.of ht2, at_of (j := 1) rfl rfl, _, rfl, _, _, rfl, rfl, _, rfl, ?_⟩⟩
        rw [decide_eq_false (show ¬ c < n from Int.not_lt.mpr okst.2)]
        exact iteF ⟨_, _, rfl, s2⟩
    · rintro σ H' ⟨a, b, rfl, s1⟩
      exact k H' s1
/-! ### is_step, Plan( *steps), joined -/
theorem scIsStep : FnScope ["step"] ["step"] (defScope sIsStep) := ⟨rfl, rfl, rfl, by decide +kernel, rfl, by decide +kernel, by decide +kernel⟩
theorem ok_isstep {f fN : Addr} {fd : FuncData} (F : Fun K "is_step" "is_step" sIsStep f fd) (T : Txt K mg C TU pS gS mc) (N : Dn P w K mg base 1 "is_number" fN spIsNum) : FnOk P w K mg base CX0 2 f fd ["step"] spIsStep := by
  refine F.ok scIsStep (fun vs H Q E h => ?_) (fun cdv A outer s H vs Q E hr h => ?_)
  · obtain ⟨v, s, rfl, _⟩ := h
    rfl
  · obtain ⟨v, st, rfl, ⟨t, rfl, ht⟩, ok, k⟩ := h
    obtain ⟨u, hu⟩ := T.cc
    refine ⟨_, pss_cons (ps_if (pt_not (pt_val (pe_callB call_isi (by rfl) T.b.isinstance (by decide +kernel) (pa_cons (pv 0) (pa_cons (pe_bltn (v := .ty "tuple") (by rfl) T.b.tuple (by decide +kernel) rfl) pa_nil))))) (pss_one (ps_ret pe_bl)) pss_nil)
      (pss_cons (ps_if (pt_cmpR op_eq (pe_callB call_len (by rfl) T.b.len PySem.boot_len (pa_cons (pv 0) pa_nil)) pe_int (nomark _))
        (pss_one (ps_ret (pe_and (pe_cmpR op_in_seq (pe_ix ix_tup (pv 0) pe_int (fun _ _ => rfl)) (pe_tup (pa_cons pe_str (pa_cons pe_str pa_nil))) (by rfl))
          (pe_one (pe_callR N.ok hr rfl N.at_ N.kp pass0 (pa_cons (pe_ix ix_tup (pv 0) pe_int (fun _ _ => rfl)) (pa_cons pe_int (pa_cons (ClX.pe_cval (pe_glob (v := .ref C) rfl T.gP rfl)) pa_nil)))))))) pss_nil)
      (pss_one (ps_ret (pe_cmpR (op_eqD hr.units) (pv 0) (pe_glob (v := .ref TU) rfl T.gT rfl) (nomark _))))), ?_⟩
    refine ⟨_, rfl, _, _, _, _, true, rfl, .ty "tuple", .base (.tup ht), kit_ty (by decide +kernel), true, rfl, ?_⟩
    refine iteF ?_
    refine ⟨_, rfl, _, _, rfl, .inr ⟨_, SqT.of ht, rfl⟩, rfl, ?_⟩
    cases st with
    | turn =>
      refine ⟨_, rfl, iteF ?_⟩
      refine ⟨_, rfl, .tuple [.str "turn"], .tuple [.str "turn"], .tup (SqT.of ht) (.cons (.str _) .nil), .tup (T.tT _) (.cons (.str _) .nil), by decide +kernel, by decide +kernel, ?_⟩
      have e : PyData.eqv (.tuple [.str "turn"]) (.tuple [.str "turn"]) = true := by decide +kernel
      rw [e]
      exact k H (Same.refl H)
    | meet bb n =>
      refine ⟨_, rfl, iteT ?_⟩
      refine ⟨_, rfl, t, _, _, _, rfl, rfl, SqT.of ht, at_of (j := 0) rfl rfl, by show 2 ≤ sizeLine; decide, fun p hp => ?_⟩
      have s1 : Same H (upd H p (.tup [.str "red", .str "blue"])) := same_upd hp
      refine ⟨p, _, rfl, .inr (SqT.of upd_same), rfl, by decide, _, rfl, ?_⟩
      have e : inV (.str (roomS bb)) [.str "red", .str "blue"] = true := by cases bb <;> decide +kernel
      rw [e]
      refine iteT ⟨_, rfl, t, _, _, _, rfl, rfl, SqT.of (s1 _ _ ht), at_of (j := 1) rfl rfl, C, mc, _, u, rfl, T.rd, hu, n, 0, _, rfl, ?_⟩
      rw [decide_eq_true (show (0 : Int) ≤ n ∧ n ≤ 1000000000000000000 from ok)]
      exact k _ s1
theorem scInit : FnScope ["self", "steps", "index", "step"] ["self", "steps"] (defScope sInit) := ⟨rfl, rfl, rfl, by decide +kernel, rfl, by decide +kernel, by decide +kernel⟩
theorem ok_init {f fS : Addr} {fd : FuncData} (F : Fun K "__init__" "Plan.__init__" sInit f fd) (T : Txt K mg C TU pS gS mc) (N : Dn P w K mg base 2 "is_step" fS spIsStep) : FnR P w K mg base CX0 3 f (spInit C) := by
  obtain ⟨z1, z2, z3, z4, z5, z6, cdv, z7, z8, rfl, lk, hcd⟩ := F.ex
  refine (StX.fn_star (ps := ["self"]) (pv := "steps") (sp := spInitS C) (k := 2) lk hcd scInit StX.cxUp_none (StX.bind_star1 (B := fun us => bindArgs _ ⟨us, []⟩) (fun _ => rfl) (fun _ _ _ => rfl)) fun A outer s H vs Q E hr h => ?_).imp fun vs H Q E h => ?_
  · obtain ⟨x, tp, dx, ws, ss, rfl, e1, e2, e3, hl, hs, k⟩ := h
    obtain ⟨u, hu⟩ := T.cs
    suffices h : ∃ t, PSs (cxOf CX0 P w K mg base ["self", "steps", "index", "step"] "Plan.__init__" (defScope sInit) f cdv A outer s H E).nox (defBody sInit) t ∧ t { nx := fun _ H' => Q .non H', rt := Q } (start ["self", "steps", "index", "step"] [.ref x, .ref tp]) H by
      obtain ⟨t, h1, h2⟩ := h
      exact ⟨t, h1.nox, h2⟩
    refine ⟨_, pss_cons (ps_for PassesOwn.never rfl (pi_enumT (by rfl) T.b.enumerate (pa_cons (pv 1) pa_nil))
        (pg_tup rfl (pgs_cons (pg_name (i := 2) scInit.nd rfl (.inl rfl)) (pgs_cons (pg_name (i := 3) scInit.nd rfl (.inl rfl)) pgs_nil)))
        (pss_one (ps_if (PW.pt (pw_or (pt_cmpR op_eq (pv 2) (ClX.pe_cval (pe_glob (v := .ref C) rfl T.gP rfl)) (nomark _))
          (pw_or1 (pt_not (pt_val (pe_callR N.ok hr rfl N.at_ N.kp pass0 (pa_cons (pv 3) pa_nil))))))) (pss_one ps_never) pss_nil)))
      (pss_one (ps_fld (pv 0) (pv 1) rfl)), ?_⟩
    refine ⟨_, rfl, tp, ws, rfl, SqT.of e2, ?_⟩
    refine for_it (walk_enumT (xs := ws)) (fun i σ H' => ∃ a b, σ = [some (.ref x), some (.ref tp), a, b] ∧ Same H H') ⟨none, none, rfl, Same.refl H⟩ (fun i σ H' _ ⟨_, _, _, s1⟩ => SqT.of (s1 _ _ e2)) ?_ ?_
    · rintro i v σ H1 H2 hi ⟨a, b, rfl, s1⟩ ⟨q, y1, y2, rfl, n1, rfl, z1, z2⟩
      obtain ⟨st, hst, t, rfl, ht⟩ := e3.get z2
      have okst := hs st (List.mem_of_getElem? hst)
      have s2 : Same H (upd H1 q (.tup [y1, .ref t])) := s1.trans (same_upd n1)
      have ht2 := s2 _ _ ht
      cases z1
      refine ⟨q, _, rfl, SqT.of upd_same, rfl, _, _, rfl, _, _, rfl, rfl, ?_⟩
      have hi' : i < 60 := by rw [e3.length] at hi; omega
      refine ⟨_, rfl, C, mc, _, u, rfl, T.rd, hu, rfl, _, rfl, ?_⟩
      rw [decide_eq_false (show ¬ V.int (i : Int) = V.int 60 from fun z => by injection z with z; omega)]
      refine iteF ?_
      refine ⟨_, rfl, _, st, rfl, ⟨t, rfl, ht2⟩, okst, fun H3 s3 => ⟨_, rfl, ?_⟩⟩
      exact iteF ⟨_, _, rfl, s2.trans s3⟩
    · rintro σ H' ⟨a, b, rfl, s1⟩
      refine ⟨_, rfl, _, rfl, x, C, dx, _, rfl, s1 _ _ e1, T.cl, T.nS, (by show 0 < 1000; decide), ?_⟩
      exact k _ (fun b o n e => by rw [upd_ne n]; exact s1 _ _ e) upd_same
  · obtain ⟨x, dx, ws, ss, rfl, e1, e3, hl, hs, k⟩ := h
    refine ⟨[.ref x], ws, rfl, rfl, ?_, fun p hp => ?_⟩
    · rw [e3.length]
      exact Nat.le_trans hl (by decide)
    · have s1 : Same H (upd H p (.tup ws)) := same_upd hp
      refine ⟨x, p, dx, ws, ss, rfl, s1 _ _ e1, upd_same, e3.same s1, hl, hs, fun H' b1 b2 => ?_⟩
      exact k H' p (fun b o n e => b1 b o n (s1 _ _ e)) b2 (b1 _ _ (ne_of_none e1 hp).symm upd_same)
theorem scJoined : FnScope ["self", "others", "steps", "other"] ["self", "others"] (defScope sJoined) := ⟨rfl, rfl, rfl, by decide +kernel, rfl, by decide +kernel, by decide +kernel⟩
theorem ok_joined {f fI : Addr} {fd fdS : FuncData} (F : Fun K "joined" "Plan.joined" sJoined f fd) (T : Txt K mg C TU pS gS mc) (G : Gs P w K mg base C gS fdS) (M : Mk K C fI) (GI : FnR P w K mg base CX0 3 fI (spInit C)) : FnR P w K mg base CX0 5 f (spJoined C) := by
  obtain ⟨z1, z2, z3, z4, z5, z6, cdv, z7, z8, rfl, lk, hcd⟩ := F.ex
  refine (StX.fn_star (ps := ["self"]) (pv := "others") (sp := spJoinedS C) (k := 4) lk hcd scJoined StX.cxUp_none (StX.bind_star1 (B := fun us => bindArgs _ ⟨us, []⟩) (fun _ => rfl) (fun _ _ _ => rfl)) fun A outer s H vs Q E hr h => ?_).imp fun vs H Q E h => ?_
  · obtain ⟨x, tp, ss, o, us, rfl, p1, e2, p2, hl, hs, k⟩ := h
    obtain ⟨dx, t1, ws, e1, e3, e4⟩ := id p1
    obtain ⟨dy, t2, zs, f1, f3, f4⟩ := id p2
    suffices h : ∃ t, PSs (cxOf CX0 P w K mg base ["self", "others", "steps", "other"] "Plan.joined" (defScope sJoined) f cdv A outer s H E).nox (defBody sJoined) t ∧ t { nx := fun _ H' => Q .non H', rt := Q } (start ["self", "others", "steps", "other"] [.ref x, .ref tp]) H by
      obtain ⟨t, h1, h2⟩ := h
      exact ⟨t, h1.nox, h2⟩
    have hr1 : Room 2 _ := hr.mono (by decide)
    refine ⟨_, pss_cons (ps_set (i := 2) scJoined.nd rfl (.inl rfl) (pe_callTy call_list_of (by rfl) T.b.list (by decide +kernel) (pa_cons (pe_prop (pv 0) T.cl T.pr G.ok hr1 G.b .nil pass0 rfl) pa_nil)))
      (pss_cons (ps_for PassesOwn.never rfl (pi_tup (pv 1)) (pg_name (i := 3) scJoined.nd rfl (.inl rfl))
        (pss_one (ps_expr (pe_bm PySem.F.plainAttrs_list PySem.F.slot_list_extend PySem.F.type_list_extend mt_extendT (pv 2) (pa_cons (pe_prop (pv 3) T.cl T.pr G.ok hr1 G.b .nil pass0 rfl) pa_nil)))))
      (pss_one (ps_ret (pe_makeS M GI hr rfl T.gP pass0 (pv 2))))), ?_⟩
    refine ⟨_, rfl, x, dx, _, rfl, e1, x, dx, _, _, rfl, e1, lk_self, t1, ws, rfl, .inr (SqT.of e3), fun l hl0 => ?_⟩
    have s1 : Same H (upd H l (.lst ws)) := same_upd hl0
    have hlen : ws.length + zs.length ≤ 60 := by
      rw [e4.length, f4.length]
      rw [List.length_append] at hl
      exact hl
    refine ⟨_, rfl, tp, rfl, ⟨_, SqT.of (s1 _ _ e2)⟩, for_tup (K := K) (a := tp) (xs := [V.ref o]) (fun i σ H' => ∃ v, σ = [some (.ref x), some (.ref tp), some (.ref l), v] ∧ But l H H' ∧ H' l = some (.lst (if i = 0 then ws else ws ++ zs)))
      ⟨none, rfl, But.of s1, upd_same⟩ (fun i σ H' _ ⟨_, _, b1, _⟩ => SqT.of (b1 _ _ (ne_of_none e2 hl0) e2)) ?_ ?_⟩
    · rintro i y σ H' hi ⟨v, rfl, b1, b2⟩
      match i, hi with
      | 0, hi =>
        cases hi
        have g1 := b1 _ _ (ne_of_none f1 hl0) f1
        have g3 := b1 _ _ (ne_of_none f3 hl0) f3
        rw [if_pos rfl] at b2
        refine ⟨_, rfl, .inl ⟨rfl, _, SqL.of b2⟩, _, rfl, o, dy, _, rfl, g1, o, dy, _, _, rfl, g1, lk_self, l, t2, ws, zs, rfl, rfl, b2, SqT.of g3, Nat.le_trans hlen (by decide), ?_⟩
        refine ⟨_, rfl, fun b o n e => ?_, ?_⟩
        · rw [upd_ne n]
          exact b1 b o n e
        · rw [if_neg (by decide)]
          exact upd_same
      | i + 1, hi => simp at hi
    · rintro σ H' ⟨v, rfl, b1, b2⟩
      rw [if_neg (by show ¬ (1 = 0); decide)] at b2
      refine ⟨_, rfl, l, _, rfl, .inr (SqL.of b2), fun q dq hq hdq hne => ?_⟩
      have s2 : Same H' (upd (upd H' dq (.own q)) q (.ins C dq [])) := fun b o e => by
        rw [upd_ne (ne_of_none e hq), upd_ne (ne_of_none e hdq)]
        exact e
      have stp : Steps H' (ws ++ zs) (ss ++ us) := by
        refine (e4.append f4).mono fun t xs e => b1 _ _ (ne_of_none e hl0) e
      refine ⟨q, dq, _, ss ++ us, rfl, upd_same, stp.same s2, hl, hs, fun H2 tq b3 b4 b5 => ⟨rfl, ?_⟩⟩
      have s3 : Same H H2 := fun b o e => b3 _ _ (ne_of_none (b1 _ _ (ne_of_none e hl0) e) hq) (s2 _ _ (b1 _ _ (ne_of_none e hl0) e))
      refine k q H2 s3 ⟨dq, tq, _, b4, b5, ?_⟩
      exact stp.mono fun t xs e => b3 _ _ (ne_of_none e hq) (s2 _ _ e)
  · obtain ⟨x, ss, o, us, rfl, p1, p2, hl, hs, k⟩ := h
    refine ⟨[.ref x], [.ref o], rfl, rfl, by show 1 ≤ sizeLine; decide, fun p hp => ?_⟩
    have s1 : Same H (upd H p (.tup [.ref o])) := same_upd hp
    exact ⟨x, p, ss, o, us, rfl, p1.same s1, upd_same, p2.same s1, hl, hs, fun p' H' s2 => k p' H' (s1.trans s2)⟩
end
end Cc

namespace Cc
open PySem PySem.Spec PyProof.Rows L2
abbrev sStart : Stmt := top 22
abbrev sDrawn : Stmt := top 23
abbrev sRnd : Stmt := top 25
abbrev sLPlan : Stmt := top 26
def spStart (K : PySem.W.Frag) : Sp := fun vs H Q _ => ∃ (a : Addr) (ns : List Int), vs = [.ref a] ∧ SqF K H a (ns.map V.int) ∧ ns.length ≤ 63 ∧ ∀ s H', H s = none → Same H H' → DrawAt K H' s → Q (.ref s) H'
def spDrawn (K : PySem.W.Frag) : Sp := fun vs H Q _ => ∃ (s : Addr) (n : Int), vs = [.ref s, .int n] ∧ DrawAt K H s ∧ 0 < n ∧ n ≤ 9223372036854775807 ∧ ∀ r H', 0 ≤ r → r < n → DrawAt K H' s → But s H H' → Q (.int r) H'
def spRnd (K : PySem.W.Frag) : Sp := fun vs H Q _ => ∃ (s : Addr) (m c : Int), vs = [.ref s, .int m, .int c] ∧ DrawAt K H s ∧ 0 ≤ m ∧ m ≤ 50 ∧ 0 ≤ c ∧ c ≤ 1000000000000000000 ∧
  ∀ l ws ss H', H l = none → H' l = some (.lst ws) → Steps H' ws ss → (ss.length : Int) ≤ m → (∀ s ∈ ss, s.ok c) → DrawAt K H' s → But s H H' → Q (.ref l) H'
def spLPlan (C : Addr) : Sp := fun vs H Q _ => ∃ (l : Addr) (ws : List V) (ss : List Stp), vs = [.ref l] ∧ H l = some (.lst ws) ∧ Steps H ws ss ∧ ss.length ≤ 60 ∧ (∀ s ∈ ss, s.ok 1000000000000000000) ∧ ∀ p H', Same H H' → PlanAt C H' p ss → Q (.ref p) H'
section
variable {P : Program} {w : World} {K : PySem.W.Frag} {mg : Str → Option Value} {base : Heap} {C TU pS gS : Addr} {mc : Value}
theorem scStart : FnScope ["_law_script", "_law_mixed", "_law_cell"] ["_law_script"] (defScope sStart) := ⟨rfl, rfl, rfl, by decide +kernel, rfl, by decide +kernel, by decide +kernel⟩
theorem ok_start {f : Addr} {fd : FuncData} (F : Fun K "_law_start" "_law_start" sStart f fd) : FnOk P w K mg base CX0 1 f fd ["_law_script"] (spStart K) := by
  refine F.ok scStart (fun vs H Q E h => ?_) (fun cdv A outer s H vs Q E hr h => ?_)
  · obtain ⟨a, ns, rfl, _⟩ := h
    rfl
  · obtain ⟨a, ns, rfl, hF, hl, k⟩ := h
    have hS := hF.sq
    refine ⟨_, pss_cons (ps_set (i := 1) scStart.nd rfl (.inl rfl) pe_int)
      (pss_cons (ps_for PassesOwn.never rfl (pi_list (pv 0)) (pg_name (i := 2) scStart.nd rfl (.inl rfl))
        (pss_one (ps_set (i := 1) scStart.nd rfl (.inl rfl) (pe_op op_mod (pe_op op_add (pe_op op_add (pe_op op_mul (pv 1) pe_int) (pv 2)) pe_int) pe_int))))
      (pss_one (ps_ret (pe_lst (pa_cons (pv 0) (pa_cons pe_int (pa_cons (pv 1) (pa_cons pe_int pa_nil)))))))), ?_⟩
    refine ⟨_, rfl, a, rfl, ⟨_, hS⟩, for_list (K := K) (a := a) (xs := ns.map V.int) (fun i σ H' => H' = H ∧ ∃ (m : Int) (v : Option V), σ = [some (.ref a), some (.int m), v]) ⟨rfl, 1, none, rfl⟩ (fun i σ H' _ ⟨e, _⟩ => e ▸ hS) ?_ ?_⟩
    · rintro i y σ H' hi ⟨rfl, m, v, rfl⟩
      obtain ⟨z, rfl⟩ : ∃ z, y = V.int z := by
        rw [List.getElem?_map] at hi
        cases e : ns[i]? with
        | none =>
          rw [e] at hi
          cases hi
        | some z =>
          rw [e] at hi
          exact ⟨z, (Option.some.inj hi).symm⟩
      refine ⟨_, rfl, _, _, rfl, rfl, .inr ⟨by decide, by decide⟩, _, rfl, _, _, rfl, rfl, _, _, rfl, rfl, _, _, rfl, rfl, (by show (0 : Int) < 2147483647; decide), rfl, _, _, rfl⟩
    · rintro σ H' ⟨rfl, m, v, rfl⟩
      refine ⟨_, rfl, _, rfl, by show 4 ≤ sizeLine; decide, fun s hs => ?_⟩
      refine k s _ hs (same_upd hs) ⟨a, ns, 0, m, 0, upd_same, hF.keep fun b o u e => same_upd hs b _ e, hl, Int.le_refl 0⟩
theorem scDrawn : FnScope ["_law_state", "_law_count", "_law_result", "_law_cell"] ["_law_state", "_law_count"] (defScope sDrawn) := ⟨rfl, rfl, rfl, by decide +kernel, rfl, by decide +kernel, by decide +kernel⟩
theorem ok_drawn {f : Addr} {fd : FuncData} (F : Fun K "_law_drawn" "_law_drawn" sDrawn f fd) (B : Bt mg) : FnOk P w K mg base CX0 1 f fd ["_law_state", "_law_count"] (spDrawn K) := by
  refine F.ok scDrawn (fun vs H Q E h => ?_) (fun cdv A outer s H vs Q E hr h => ?_)
  · obtain ⟨s, n, rfl, _⟩ := h
    rfl
  · obtain ⟨s, n, rfl, ⟨a, ns, p, x, y, e, hF, hl, hp⟩, hn, hn2, k⟩ := h
    have hq : ∀ H', But s H H' → SqF K H' a (ns.map V.int) := fun H' b => hF.keep fun c o u q => b c _ (ne_of q e (fun z => nomatch z)) q
    have hw : ∀ i, CDivW i n := fun i => wide_div (b := 63) hn (by omega) (by decide) (by decide)
    refine ⟨_, pss_cons (ps_if (pt_cmpR op_gt (pe_ix ix_list (pv 0) pe_int (fun _ _ => rfl)) pe_int (nomark _))
        (pss_cons (ps_set (i := 2) scDrawn.nd rfl (.inl rfl) (pe_op op_mod (pe_ix ix_list (pv 0) pe_int (fun _ _ => rfl)) (pv 1)))
        (pss_cons (ps_asg (pe_op op_fdivW (pe_ix ix_list (pv 0) pe_int (fun _ _ => rfl)) (pv 1)) (pg_sub (pv 0) pe_int set_list))
        (pss_one (ps_ret (pv 2))))) pss_nil)
      (pss_cons (ps_asg (pe_op op_add (pe_ix ix_list (pv 0) pe_int (fun _ _ => rfl)) pe_int) (pg_sub (pv 0) pe_int set_list))
      (pss_cons (ps_if (pt_cmpR op_le (pe_ix ix_list (pv 0) pe_int (fun _ _ => rfl)) (pe_callB call_len_seq (by rfl) B.len PySem.boot_len (pa_cons (pe_ix ix_list (pv 0) pe_int (fun _ _ => rfl)) pa_nil)) (nomark _))
        (pss_cons (ps_set (i := 3) scDrawn.nd rfl (.inl rfl) (pe_ix ix_list (pe_ix ix_list (pv 0) pe_int (fun _ _ => rfl)) (pe_op op_sub (pe_ix ix_list (pv 0) pe_int (fun _ _ => rfl)) pe_int) (fun _ _ => rfl)))
        (pss_cons (ps_asg (pe_ifExp (pt_cmpR op_ge (pv 3) (pe_op op_pow pe_int pe_int) (nomark _)) (pe_op op_fdivW (pv 3) (pv 1)) pe_int) (pg_sub (pv 0) pe_int set_list))
        (pss_one (ps_ret (pe_op op_mod (pv 3) (pv 1)))))) pss_nil)
      (pss_cons (ps_asg (pe_op op_mod (pe_op op_add (pe_op op_mul (pe_ix ix_list (pv 0) pe_int (fun _ _ => rfl)) pe_int) pe_int) pe_int) (pg_sub (pv 0) pe_int set_list))
      (pss_one (ps_ret (pe_op op_mod (pe_op op_fdiv (pe_ix ix_list (pv 0) pe_int (fun _ _ => rfl)) pe_int) (pv 1))))))), ?_⟩
    have fin : ∀ (r : Int) (p' x' y' : Int) (H' : Hp), 0 ≤ r → r < n → 0 ≤ p' → But s H H' → H' s = some (.lst [.ref a, .int p', .int x', .int y']) → Q (.int r) H' := fun r p' x' y' H' h0 h1 hp' b e' =>
      k r H' h0 h1 ⟨a, ns, p', x', y', e', hq H' b, hl, hp'⟩ b
    refine ⟨_, rfl, s, _, _, _, rfl, rfl, SqL.of e, at_of (j := 3) rfl rfl, _, _, rfl, rfl, _, rfl, ?_⟩
    refine ite2 (fun _ => ?_) (fun _ => ?_)
    · refine ⟨_, rfl, s, _, _, _, rfl, rfl, SqL.of e, at_of (j := 3) rfl rfl, _, rfl, _, _, rfl, rfl, hn, ?_⟩
      refine ⟨_, rfl, s, _, _, _, rfl, rfl, SqL.of e, at_of (j := 3) rfl rfl, _, rfl, _, _, rfl, rfl, hw _, ?_⟩
      refine ⟨_, rfl, s, _, _, 3, rfl, rfl, e, rfl, _, rfl, ?_⟩
      exact fin _ _ _ _ _ (Int.emod_nonneg _ (by omega)) (Int.emod_lt_of_pos _ hn) hp but_upd upd_same
    · refine ⟨_, rfl, s, _, _, _, rfl, rfl, SqL.of e, at_of (j := 1) rfl rfl, _, _, rfl, rfl, ?_⟩
      refine ⟨_, rfl, s, _, _, 1, rfl, rfl, e, rfl, ?_⟩
      have b1 : But s H (upd H s (.lst [.ref a, .int (p + 1), .int x, .int y])) := but_upd
      refine ⟨_, rfl, s, _, _, _, rfl, rfl, SqL.of upd_same, at_of (j := 1) rfl rfl, _, rfl, s, _, _, _, rfl, rfl, SqL.of upd_same, at_of (j := 0) rfl rfl, a, _, rfl, .inl (hq _ b1).sq, _, _, rfl, rfl, _, rfl, ?_⟩
      refine ite2 (fun c => ?_) (fun _ => ?_)
      · have c' : p + 1 ≤ (ns.length : Int) := by
          have := of_decide_eq_true c
          rw [List.length_map] at this
          exact this
        obtain ⟨j, ej⟩ : ∃ j : Nat, p + 1 - 1 = (j : Int) := ⟨p.toNat, by omega⟩
        have hj : j < ns.length := by omega
        refine ⟨_, rfl, s, _, _, _, rfl, rfl, SqL.of upd_same, at_of (j := 0) rfl rfl, _, rfl, s, _, _, _, rfl, rfl, SqL.of upd_same, at_of (j := 1) rfl rfl, _, _, rfl, rfl, a, _, _, _, rfl, rfl, (hq _ b1).sq, at_of (j := j) (v := V.int ns[j]) ej (by rw [List.getElem?_map, List.getElem?_eq_getElem hj]; rfl), ?_⟩
        refine ⟨_, rfl, _, _, rfl, rfl, ⟨by decide, by decide, by decide⟩, _, _, rfl, rfl, _, rfl, ?_⟩
        refine ite2 (fun _ => ?_) (fun _ => ?_)
        · refine ⟨_, rfl, _, rfl, _, _, rfl, rfl, hw _, ?_⟩
          refine ⟨_, rfl, s, _, _, 3, rfl, rfl, upd_same, rfl, _, rfl, _, rfl, _, _, rfl, rfl, hn, ?_⟩
          exact fin _ _ _ _ _ (Int.emod_nonneg _ (by omega)) (Int.emod_lt_of_pos _ hn) (by show 0 ≤ p + 1; omega) (b1.trans but_upd) upd_same
        · refine ⟨_, rfl, s, _, _, 3, rfl, rfl, upd_same, rfl, _, rfl, _, rfl, _, _, rfl, rfl, hn, ?_⟩
          exact fin _ _ _ _ _ (Int.emod_nonneg _ (by omega)) (Int.emod_lt_of_pos _ hn) (by show 0 ≤ p + 1; omega) (b1.trans but_upd) upd_same
      · refine ⟨_, rfl, s, _, _, _, rfl, rfl, SqL.of upd_same, at_of (j := 2) rfl rfl, _, _, rfl, rfl, .inr ⟨by decide, by decide⟩, _, _, rfl, rfl, _, _, rfl, rfl, (by show (0 : Int) < 2147483647; decide), ?_⟩
        refine ⟨_, rfl, s, _, _, 2, rfl, rfl, upd_same, rfl, ?_⟩
        refine ⟨_, rfl, s, _, _, _, rfl, rfl, SqL.of upd_same, at_of (j := 2) rfl rfl, _, _, rfl, rfl, ⟨by decide, by decide⟩, _, rfl, _, _, rfl, rfl, hn, ?_⟩
        exact fin _ _ _ _ _ (Int.emod_nonneg _ (by omega)) (Int.emod_lt_of_pos _ hn) (by show 0 ≤ p + 1; omega) (b1.trans but_upd) upd_same
theorem scRnd : FnScope ["_law_state", "_law_most", "_law_high", "_law_result", "_law_turns", "_law_k", "_law_need"] ["_law_state", "_law_most", "_law_high"] (defScope sRnd) := ⟨rfl, rfl, rfl, by decide +kernel, rfl, by decide +kernel, by decide +kernel⟩
theorem ok_rnd {f fD : Addr} {fd : FuncData} (F : Fun K "_law_random_steps" "_law_random_steps" sRnd f fd) (B : Bt mg) (D : Dn P w K mg base 1 "_law_drawn" fD (spDrawn K)) : FnOk P w K mg base CX0 2 f fd ["_law_state", "_law_most", "_law_high"] (spRnd K) := by
  refine F.ok scRnd (fun vs H Q E h => ?_) (fun cdv A outer s H vs Q E hr h => ?_)
  · obtain ⟨s, m, c, rfl, _⟩ := h
    rfl
  · obtain ⟨s, m, c, rfl, hD, hm0, hm1, hc0, hc1, k⟩ := h
    refine ⟨_, pss_cons (ps_par (i := 3) (j := 4) rfl scRnd.nd rfl rfl (by decide) rfl rfl (pa_cons (pe_lst pa_nil) (pa_cons (pe_callR D.ok hr rfl D.at_ D.kp pass0 (pa_cons (pv 0) (pa_cons pe_int pa_nil))) pa_nil)) (by rfl))
      (pss_cons (ps_for PassesOwn.never rfl (pi_range1 rfl B.range (pa_cons (pe_callR D.ok hr rfl D.at_ D.kp pass0 (pa_cons (pv 0) (pa_cons (pe_op op_add (pv 1) pe_int) pa_nil))) pa_nil)) (pg_name (i := 5) scRnd.nd rfl (.inl rfl))
        (pss_one (ps_if (PW.pt (pw_and (pt_cmpR op_eq (pv 4) pe_int (nomark _)) (pw_and1 (pt_cmpR op_eq (pe_callR D.ok hr rfl D.at_ D.kp pass0 (pa_cons (pv 0) (pa_cons pe_int pa_nil))) pe_int (nomark _)))))
          (pss_one (ps_expr (pe_bm PySem.F.plainAttrs_list PySem.F.slot_list_append PySem.F.type_list_append mt_append (pv 3) (pa_cons (pe_tup (pa_cons pe_str pa_nil)) pa_nil))))
          (pss_cons (ps_set (i := 6) scRnd.nd rfl (.inl rfl) (pe_ix ix_list (pe_lst (pa_cons (pe_callR D.ok hr rfl D.at_ D.kp pass0 (pa_cons (pv 0) (pa_cons (pe_op op_add (pv 2) pe_int) pa_nil)))
              (pa_cons (pe_op op_sub (pv 2) (pe_callR D.ok hr rfl D.at_ D.kp pass0 (pa_cons (pv 0) (pa_cons (pe_op op_add (pe_op op_fdiv (pv 2) pe_int) pe_int) pa_nil)))) pa_nil)))
              (pe_callR D.ok hr rfl D.at_ D.kp pass0 (pa_cons (pv 0) (pa_cons pe_int pa_nil))) (fun _ _ => rfl)))
          (pss_one (ps_expr (pe_bm PySem.F.plainAttrs_list PySem.F.slot_list_append PySem.F.type_list_append mt_append (pv 3) (pa_cons (pe_tup (pa_cons
              (pe_ix ix_list (pe_lst (pa_cons pe_str (pa_cons pe_str pa_nil))) (pe_callR D.ok hr rfl D.at_ D.kp pass0 (pa_cons (pv 0) (pa_cons pe_int pa_nil))) (fun _ _ => rfl)) (pa_cons (pv 6) pa_nil))) pa_nil))))))))
      (pss_one (ps_ret (pv 3)))), ?_⟩
    have ds : ∃ xs, H s = some (.lst xs) := hD.lst
    refine ⟨by show 0 ≤ sizeLine; decide, fun l hl0 => ?_⟩
    have nsl : s ≠ l := let ⟨_, e⟩ := ds; ne_of_none e hl0
    refine ⟨_, rfl, s, 3, rfl, hD.same (same_upd hl0), by decide, by decide, fun tu H1 tu0 tu1 D1 b1 => ⟨_, _, rfl, ?_⟩⟩
    have b01 : But s H H1 := (But.of (same_upd hl0)).trans b1
    have l1 : H1 l = some (.lst []) := b1 _ _ nsl.symm upd_same
    refine ⟨_, rfl, _, rfl, _, _, rfl, rfl, s, m + 1, rfl, D1, by omega, by omega, fun n H2 n0 n1 D2 b2 => ?_⟩
    have b02 : But s H H2 := b01.trans b2
    have l2 : H2 l = some (.lst []) := b2 _ _ nsl.symm l1
    have hnl : (n.toNat : Int) = n := by omega
    refine ⟨n, rfl, by omega, by omega, for_range (lo := 0) (n := n.toNat) (fun i σ H' => ∃ (x y : Option V) (ws : List V) (ss : List Stp), σ = [some (.ref s), some (.int m), some (.int c), some (.ref l), some (.int tu), x, y] ∧ H' l = some (.lst ws) ∧ Steps H' ws ss ∧ ss.length = i ∧ (∀ z ∈ ss, z.ok c) ∧ DrawAt K H' s ∧ But s H H')
      ⟨none, none, [], [], rfl, l2, .nil, rfl, by simp, D2, b02⟩ ?_ ?_⟩
    · rintro i σ H3 hi ⟨x, y, ws, ss, rfl, e3, s3, n3, o3, D3, b3⟩
      have hlen : ws.length < sizeLine := by
        rw [s3.length, n3]
        have : (sizeLine : Nat) = 16777216 := sizeLine_eq
        omega
      -- what a step appended leaves
      have fin : ∀ (H4 : Hp) (t : Addr) (st : Stp) (x' y' : Option V), But s H3 H4 → DrawAt K H4 s → H4 t = some (.tup (stpV st)) → st.ok c → But s H H4 →
          ∃ (x y : Option V) (vs : List V) (us : List Stp), [some (V.ref s), some (.int m), some (.int c), some (.ref l), some (.int tu), x', y'] = [some (.ref s), some (.int m), some (.int c), some (.ref l), some (.int tu), x, y] ∧ (upd H4 l (.lst (ws ++ [.ref t]))) l = some (.lst vs) ∧ Steps (upd H4 l (.lst (ws ++ [.ref t]))) vs us ∧ us.length = i + 1 ∧ (∀ z ∈ us, z.ok c) ∧ DrawAt K (upd H4 l (.lst (ws ++ [.ref t]))) s ∧ But s H (upd H4 l (.lst (ws ++ [.ref t]))) := by
        intro H4 t st x' y' b4 D4 ht ok4 b04
        have l4 : H4 l = some (.lst ws) := b4 _ _ nsl.symm e3
        have up : ∀ u xs, H4 u = some (.tup xs) → upd H4 l (.lst (ws ++ [.ref t])) u = some (.tup xs) := fun u xs e => by
          rw [upd_ne (ne_of e l4 (fun q => nomatch q))]
          exact e
        have b5 : But s H (upd H4 l (.lst (ws ++ [.ref t]))) := fun b o n e => by
          rw [upd_ne (ne_of_none e hl0)]
          exact b04 b o n e
        refine ⟨x', y', ws ++ [.ref t], ss ++ [st], rfl, upd_same, ?_, by rw [List.length_append, n3]; rfl, fun z hz => ?_, ?_, b5⟩
        · refine ((s3.but b4 D3.lst).mono up).append (.cons ⟨t, rfl, up _ _ ht⟩ .nil)
        · rcases List.mem_append.mp hz with q | q
          · exact o3 z q
          · rw [List.mem_singleton.mp q]
            exact ok4
        · exact D4.but but_upd ⟨_, l4⟩ nsl
      -- the first test: turns are drawn
      refine ⟨_, rfl, rfl, _, rfl, ?_⟩
      by_cases htu : V.int tu = V.int 0
      · rw [decide_eq_true htu]
        refine iteT ⟨_, rfl, s, 4, rfl, D3, by decide, by decide, fun r0 H4 _ _ D4 b4 => ⟨rfl, _, rfl, ?_⟩⟩
        have b04 : But s H H4 := b3.trans b4
        by_cases hr0 : V.int r0 = V.int 0
        · rw [decide_eq_true hr0]
          refine iteT ?_
          have l4 : H4 l = some (.lst ws) := b4 _ _ nsl.symm e3
          refine ⟨_, rfl, .inl ⟨rfl, _, SqL.of l4⟩, by show 1 ≤ sizeLine; decide, fun t ht => ?_⟩
          have b5 : But s H4 (upd H4 t (.tup [.str "turn"])) := But.of (same_upd ht)
          refine ⟨l, ws, _, rfl, rfl, (same_upd ht) _ _ l4, hlen, ?_⟩
          exact fin _ t .turn _ _ (b4.trans b5) (D4.same (same_upd ht)) upd_same trivial (b04.trans b5)
        · rw [decide_eq_false hr0]
          refine iteF ?_
          refine ⟨_, rfl, _, rfl, _, _, rfl, rfl, s, c + 1, rfl, D4, by omega, by omega, fun r1 H5 r10 r11 D5 b5 => ?_⟩
          refine ⟨_, rfl, _, rfl, _, rfl, _, _, rfl, rfl, ⟨by decide, by decide⟩, _, _, rfl, rfl, s, c / 3 + 1, rfl, D5, by omega, by omega, fun r2 H6 r20 r21 D6 b6 => ⟨_, _, rfl, rfl, by show 2 ≤ sizeLine; decide, fun l2 hl2 => ?_⟩⟩
          have u6 : Same H6 (upd H6 l2 (.lst [.int r1, .int (c - r2)])) := same_upd hl2
          have ns2 : l2 ≠ s := let ⟨_, e⟩ := D6.lst; (ne_of_none e hl2).symm
          refine ⟨_, rfl, s, 2, rfl, D6.same u6, by decide, by decide, fun r3 H7 r30 r31 D7 b7 => ?_⟩
          obtain ⟨nd, hnd, nd0, nd1⟩ : ∃ nd, atI [V.int r1, V.int (c - r2)] r3 = some (V.int nd) ∧ 0 ≤ nd ∧ nd ≤ c := by
            have : r3 = ((0 : Nat) : Int) ∨ r3 = ((1 : Nat) : Int) := by omega
            rcases this with q | q
            · exact ⟨r1, at_of q rfl, r10, by omega⟩
            · exact ⟨c - r2, at_of q rfl, by omega, by omega⟩
          refine ⟨l2, _, _, _, rfl, rfl, SqL.of (b7 _ _ ns2 upd_same), hnd, ?_⟩
          have b47 : But s H4 H7 := b5.trans (b6.trans ((But.of u6).trans b7))
          have l7 : H7 l = some (.lst ws) := b47 _ _ nsl.symm (b4 _ _ nsl.symm e3)
          refine ⟨_, rfl, .inl ⟨rfl, _, SqL.of l7⟩, by show 2 ≤ sizeLine; decide, fun l3 hl3 => ?_⟩
          have u7 : Same H7 (upd H7 l3 (.lst [.str "red", .str "blue"])) := same_upd hl3
          have ns3 : l3 ≠ s := let ⟨_, e⟩ := D7.lst; (ne_of_none e hl3).symm
          refine ⟨_, rfl, s, 2, rfl, D7.same u7, by decide, by decide, fun r4 H9 r40 r41 D9 b9 => ?_⟩
          obtain ⟨bb, hbb⟩ : ∃ bb, atI [V.str "red", V.str "blue"] r4 = some (V.str (roomS bb)) := by
            have : r4 = ((0 : Nat) : Int) ∨ r4 = ((1 : Nat) : Int) := by omega
            rcases this with q | q
            · exact ⟨true, at_of q rfl⟩
            · exact ⟨false, at_of q rfl⟩
          refine ⟨l3, _, _, _, rfl, rfl, SqL.of (b9 _ _ ns3 upd_same), hbb, _, rfl, by show 2 ≤ sizeLine; decide, fun t ht => ?_⟩
          have b49 : But s H4 (upd H9 t (.tup [.str (roomS bb), .int nd])) := b47.trans ((But.of u7).trans (b9.trans (But.of (same_upd ht))))
          refine ⟨l, ws, _, rfl, rfl, b49 _ _ nsl.symm (b4 _ _ nsl.symm e3), hlen, ?_⟩
          exact fin _ t (.meet bb nd) _ _ (b4.trans b49) (D9.same (same_upd ht)) upd_same ⟨nd0, nd1⟩ (b04.trans b49)
      · rw [decide_eq_false htu]
        refine iteF ?_
        have D4 := D3
        have b4 : But s H3 H3 := But.refl s H3
        have b04 := b3
        refine ⟨_, rfl, _, rfl, _, _, rfl, rfl, s, c + 1, rfl, D4, by omega, by omega, fun r1 H5 r10 r11 D5 b5 => ?_⟩
        refine ⟨_, rfl, _, rfl, _, rfl, _, _, rfl, rfl, ⟨by decide, by decide⟩, _, _, rfl, rfl, s, c / 3 + 1, rfl, D5, by omega, by omega, fun r2 H6 r20 r21 D6 b6 => ⟨_, _, rfl, rfl, by show 2 ≤ sizeLine; decide, fun l2 hl2 => ?_⟩⟩
        have u6 : Same H6 (upd H6 l2 (.lst [.int r1, .int (c - r2)])) := same_upd hl2
        have ns2 : l2 ≠ s := let ⟨_, e⟩ := D6.lst; (ne_of_none e hl2).symm
        refine ⟨_, rfl, s, 2, rfl, D6.same u6, by decide, by decide, fun r3 H7 r30 r31 D7 b7 => ?_⟩
        obtain ⟨nd, hnd, nd0, nd1⟩ : ∃ nd, atI [V.int r1, V.int (c - r2)] r3 = some (V.int nd) ∧ 0 ≤ nd ∧ nd ≤ c := by
          have : r3 = ((0 : Nat) : Int) ∨ r3 = ((1 : Nat) : Int) := by omega
          rcases this with q | q
          · exact ⟨r1, at_of q rfl, r10, by omega⟩
          · exact ⟨c - r2, at_of q rfl, by omega, by omega⟩
        refine ⟨l2, _, _, _, rfl, rfl, SqL.of (b7 _ _ ns2 upd_same), hnd, ?_⟩
        have b47 : But s H3 H7 := b5.trans (b6.trans ((But.of u6).trans b7))
        have l7 : H7 l = some (.lst ws) := b47 _ _ nsl.symm (b4 _ _ nsl.symm e3)
        refine ⟨_, rfl, .inl ⟨rfl, _, SqL.of l7⟩, by show 2 ≤ sizeLine; decide, fun l3 hl3 => ?_⟩
        have u7 : Same H7 (upd H7 l3 (.lst [.str "red", .str "blue"])) := same_upd hl3
        have ns3 : l3 ≠ s := let ⟨_, e⟩ := D7.lst; (ne_of_none e hl3).symm
        refine ⟨_, rfl, s, 2, rfl, D7.same u7, by decide, by decide, fun r4 H9 r40 r41 D9 b9 => ?_⟩
        obtain ⟨bb, hbb⟩ : ∃ bb, atI [V.str "red", V.str "blue"] r4 = some (V.str (roomS bb)) := by
          have : r4 = ((0 : Nat) : Int) ∨ r4 = ((1 : Nat) : Int) := by omega
          rcases this with q | q
          · exact ⟨true, at_of q rfl⟩
          · exact ⟨false, at_of q rfl⟩
        refine ⟨l3, _, _, _, rfl, rfl, SqL.of (b9 _ _ ns3 upd_same), hbb, _, rfl, by show 2 ≤ sizeLine; decide, fun t ht => ?_⟩
        have b49 : But s H3 (upd H9 t (.tup [.str (roomS bb), .int nd])) := b47.trans ((But.of u7).trans (b9.trans (But.of (same_upd ht))))
        refine ⟨l, ws, _, rfl, rfl, b49 _ _ nsl.symm (b4 _ _ nsl.symm e3), hlen, ?_⟩
        exact fin _ t (.meet bb nd) _ _ (b4.trans b49) (D9.same (same_upd ht)) upd_same ⟨nd0, nd1⟩ (b04.trans b49)
    · rintro σ H3 ⟨x, y, ws, ss, rfl, e3, s3, n3, o3, D3, b3⟩
      exact ⟨_, rfl, k l ws ss H3 hl0 e3 s3 (by omega) o3 D3 b3⟩
theorem scLPlan : FnScope ["_law_steps", "_law_result", "_law_step"] ["_law_steps"] (defScope sLPlan) := ⟨rfl, rfl, rfl, by decide +kernel, rfl, by decide +kernel, by decide +kernel⟩
theorem ok_lplan {f fI fJ : Addr} {fd : FuncData} (F : Fun K "_law_plan" "_law_plan" sLPlan f fd) (T : Txt K mg C TU pS gS mc) (M : Mk K C fI) (GI : FnR P w K mg base CX0 3 fI (spInit C)) (MJ : Meth K C "joined" fJ) (GJ : FnR P w K mg base CX0 5 fJ (spJoined C)) : FnOk P w K mg base CX0 6 f fd ["_law_steps"] (spLPlan C) := by
  refine F.ok scLPlan (fun vs H Q E h => ?_) (fun cdv A outer s H vs Q E hr h => ?_)
  · obtain ⟨l, ws, ss, rfl, _⟩ := h
    rfl
  · obtain ⟨l, ws, ss, rfl, hl, hs, hn, ho, k⟩ := h
    have hr4 : Room 4 _ := hr.mono (by decide)
    refine ⟨_, pss_cons (ps_set (i := 1) scLPlan.nd rfl (.inl rfl) (pe_makeR0 M GI hr4 rfl T.gP pass0))
      (pss_cons (ps_for PassesOwn.never rfl (pi_list (pv 0)) (pg_name (i := 2) scLPlan.nd rfl (.inl rfl))
        (pss_one (ps_set (i := 1) scLPlan.nd rfl (.inl rfl) (pe_methR (pv 1) T.cl MJ GJ hr pass0 (pa_cons (StX.pe_makeR M GI hr4 rfl T.gP pass0 (pa_cons (pv 2) pa_nil)) pa_nil)))))
      (pss_one (ps_ret (pv 1)))), ?_⟩
    intro x dx hx hdx hne
    have made : ∀ {H : Hp} {x dx : Addr}, H x = none → H dx = none → Same H (upd (upd H dx (.own x)) x (.ins C dx [])) := fun hx hdx b o e => by
      rw [upd_ne (ne_of_none e hx), upd_ne (ne_of_none e hdx)]
      exact e
    refine ⟨x, dx, [], [], rfl, upd_same, .nil, by decide, by simp, fun H1 tp b1 b2 b3 => ⟨rfl, ?_⟩⟩
    have s1 : Same H H1 := fun b o e => b1 b o (ne_of_none e hx) (made hx hdx b o e)
    refine ⟨_, rfl, l, rfl, ⟨_, SqL.of (s1 _ _ hl)⟩, for_list (K := K) (a := l) (xs := ws) (fun i σ H' => ∃ (p : Addr) (v : Option V), σ = [some (.ref l), some (.ref p), v] ∧ Same H H' ∧ PlanAt C H' p (ss.take i))
      ⟨x, none, rfl, s1, dx, tp, [], b2, b3, .nil⟩ (fun i σ H' _ ⟨_, _, _, s2, _⟩ => SqL.of (s2 _ _ hl)) ?_ ?_⟩
    · rintro i y σ H' hi ⟨p, v, rfl, s2, pl⟩
      obtain ⟨st, hst, t, rfl, ht⟩ := hs.get hi
      have okst := ho st (List.mem_of_getElem? hst)
      obtain ⟨dp, tq, zs, e1, e2, e3⟩ := id pl
      refine ⟨_, rfl, p, dp, _, rfl, e1, lk_no (by decide +kernel), _, rfl, fun q dq hq hdq hne => ?_⟩
      have s3 : Same H' (upd (upd H' dq (.own q)) q (.ins C dq [])) := made hq hdq
      have ht2 := s3 _ _ (s2 _ _ ht)
      refine ⟨q, dq, [.ref t], [st], rfl, upd_same,   .cons ⟨t, rfl, ht2⟩ .nil, by show 1 ≤ 60; decide, fun z hz => (List.mem_singleton.mp hz) ▸ okst, fun H2 tz b4 b5 b6 => ⟨rfl, ?_⟩⟩
      have s4 : Same H' H2 := fun b o e => b4 b o (ne_of_none e hq) (s3 b o e)
      have le : i < ss.length := (List.getElem?_eq_some_iff.mp hst).1
      have et : ss.take i ++ [st] = ss.take (i + 1) := (take_more hst).symm
      refine ⟨p, ss.take i, q, [st], rfl, pl.same s4, ⟨dq, tz, [.ref t], b5, b6, .cons ⟨t, rfl, s4 _ _ (s2 _ _ ht)⟩ .nil⟩, ?_, ?_, fun r H3 s5 pr => ?_⟩
      · rw [et, List.length_take]
        omega
      · rw [et]
        exact fun z hz => ho z (List.mem_of_mem_take hz)
      · rw [et] at pr
        exact ⟨r, _, rfl, (s2.trans s4).trans s5, pr⟩
    · rintro σ H' ⟨p, v, rfl, s2, pl⟩
      rw [hs.length, List.take_length] at pl
      exact ⟨_, rfl, k p H' s2 pl⟩
end
end Cc

/-! Nobody carries less: the least price of each place behind the steps. -/
namespace Cc
open PySem PySem.Spec PyProof.Rows L2
def ab (i : Int) : Int := if i < 0 then -i else i
/-- the prices of the places 0, 1, .. when T are carried and pos is the lazy place -/
def priceF (n : Nat) (T pos : Int) : List Int := (List.range n).map fun (g : Nat) => T + ab ((g : Int) - pos)
/-- the place (chairs in the room that was red at first), by the side -/
def placeF (c side r : Int) : Int := if side = 1 then r else c - r
/-- the places that a meeting allows -/
def goodF (c : Int) (first : Bool) (need : Int) (n : Nat) : List Nat := (List.range n).filter fun (g : Nat) => decide (need ≤ if first = true then (0 + (g : Int)) else c - (0 + (g : Int)))
theorem mem_goodF {c : Int} {first : Bool} {need : Int} {n g : Nat} : g ∈ goodF c first need n ↔ g < n ∧ need ≤ (if first = true then (g : Int) else c - g) := by
  unfold goodF
  rw [List.mem_filter, List.mem_range]
  simp
/-- a meeting moves the lazy place to the nearest that it allows -/
theorem place_meet {c side r n : Int} {b : Bool} (hs : side = 1 ∨ side = -1) (h0 : 0 ≤ r) (h1 : r ≤ c) (n0 : 0 ≤ n) (n1 : n ≤ c) (first : Bool) (hf : first = (b == decide (side = 1))) :
    placeF c side (stepF c (.meet b n) r).1 = (if first = true then (if placeF c side r < n then n else placeF c side r) else (if c - n < placeF c side r then c - n else placeF c side r)) ∧
    (stepF c (.meet b n) r).2 = ab (placeF c side (stepF c (.meet b n) r).1 - placeF c side r) := by
  subst hf
  rcases hs with rfl | rfl <;> cases b <;> simp [placeF, stepF, mx, ab] <;> omega
theorem place_in {c side r : Int} (h0 : 0 ≤ r) (h1 : r ≤ c) : 0 ≤ placeF c side r ∧ placeF c side r ≤ c := by
  unfold placeF
  split <;> omega
/-- the new price of a place -/
theorem price_meet {c side r n T : Int} {b : Bool} (hs : side = 1 ∨ side = -1) (h0 : 0 ≤ r) (h1 : r ≤ c) (n0 : 0 ≤ n) (n1 : n ≤ c) (first : Bool) (hf : first = (b == decide (side = 1))) (g : Int) :
    (∃ p : Nat, p ∈ goodF c first n (c + 1).toNat ∧ (T + ab ((p : Int) - placeF c side r)) + ab ((p : Int) - g) = (T + (stepF c (.meet b n) r).2) + ab (g - placeF c side (stepF c (.meet b n) r).1)) ∧
    ∀ p : Nat, p ∈ goodF c first n (c + 1).toNat → (T + (stepF c (.meet b n) r).2) + ab (g - placeF c side (stepF c (.meet b n) r).1) ≤ (T + ab ((p : Int) - placeF c side r)) + ab ((p : Int) - g) := by
  obtain ⟨e1, e2⟩ := place_meet hs h0 h1 n0 n1 first hf
  obtain ⟨p0, p1⟩ := place_in (side := side) h0 h1
  rw [e2]
  generalize placeF c side r = pos at *
  generalize placeF c side (stepF c (.meet b n) r).1 = pos' at *
  have hp0 : 0 ≤ pos' := by
    subst e1
    split <;> split <;> omega
  refine ⟨⟨pos'.toNat, mem_goodF.mpr ⟨?_, ?_⟩, ?_⟩, fun p hp => ?_⟩
  · subst e1
    split <;> split <;> omega
  · have q : ((pos'.toNat : Nat) : Int) = pos' := by omega
    rw [q]
    subst e1
    cases first <;> simp <;> split <;> omega
  · have q : ((pos'.toNat : Nat) : Int) = pos' := by omega
    rw [q]
    unfold ab
    split <;> split <;> split <;> omega
  · obtain ⟨hp1, hp2⟩ := mem_goodF.mp hp
    unfold ab
    cases first
    · simp at e1 hp2
      subst e1
      split <;> split <;> split <;> split <;> omega
    · simp at e1 hp2
      subst e1
      split <;> split <;> split <;> split <;> omega
theorem least_is {ns : List Int} {m v : Int} (h1 : m ∈ ns) (h2 : ∀ x ∈ ns, m ≤ x) (h3 : v ∈ ns) (h4 : ∀ x ∈ ns, v ≤ x) : m = v := Int.le_antisymm (h2 v h3) (h4 m h1)
theorem priceF_get {n : Nat} {T pos : Int} {p : Nat} (h : p < n) : (priceF n T pos)[p]? = some (T + ab ((p : Int) - pos)) := by
  unfold priceF
  rw [List.getElem?_map, List.getElem?_range h]
  rfl
end Cc
namespace Cc
open PySem PySem.Spec PyProof.Rows L2
theorem ifT {c : Bool} {A B : Prop} (hc : c = true) (h : A) : if c = true then A else B := by
  rw [if_pos hc]
  exact h
theorem ifF {c : Bool} {A B : Prop} (hc : c = false) (h : B) : if c = true then A else B := by
  rw [hc, if_neg Bool.false_ne_true]
  exact h
theorem same_new {H H' : Hp} {D : Addr} {o : HO} (h : H D = none) (s : Same H H') : Same H (upd H' D o) := fun b u e => by
  rw [upd_ne (ne_of_none e h)]
  exact s b u e
theorem upd_lst {H : Hp} {D : Addr} {xs ys : List V} (h : xs = ys) : upd H D (.lst xs) D = some (.lst ys) := by
  rw [h]
  exact upd_same
theorem priceF_succ (n : Nat) (T pos : Int) : (priceF (n + 1) T pos).map V.int = (priceF n T pos).map V.int ++ [V.int (T + ab ((n : Int) - pos))] := by
  unfold priceF
  rw [List.range_succ, List.map_append, List.map_append]
  rfl
theorem priceF_len (n : Nat) (T pos : Int) : (priceF n T pos).length = n := by
  simp [priceF]
def goodV (c : Int) (first : Bool) (need : Int) (n : Nat) : List V := (goodF c first need n).map fun (p : Nat) => V.int (0 + (p : Int))
theorem goodV_succ (c : Int) (first : Bool) (need : Int) (n : Nat) (h : (decide (need ≤ if first = true then (0 + (n : Int)) else c - (0 + (n : Int)))) = true) : goodV c first need (n + 1) = goodV c first need n ++ [V.int (0 + (n : Int))] := by
  unfold goodV goodF
  rw [List.range_succ, List.filter_append, List.map_append]
  simp only [List.filter_cons, h, if_true, List.filter_nil, List.map_cons, List.map_nil]
theorem goodV_skip (c : Int) (first : Bool) (need : Int) (n : Nat) (h : (decide (need ≤ if first = true then (0 + (n : Int)) else c - (0 + (n : Int)))) = false) : goodV c first need (n + 1) = goodV c first need n := by
  unfold goodV goodF
  rw [List.range_succ, List.filter_append, List.map_append]
  simp only [List.filter_cons, h, Bool.false_eq_true, if_false, List.filter_nil, List.map_nil, List.append_nil]
theorem goodV_len (c : Int) (first : Bool) (need : Int) (n : Nat) : (goodV c first need n).length ≤ n := by
  unfold goodV goodF
  rw [List.length_map]
  exact Nat.le_trans (List.length_filter_le _ _) (by rw [List.length_range]; exact Nat.le_refl n)
theorem room_turn (b : Bool) : decide (V.str (roomS b) = V.str "turn") = false := by
  cases b <;> decide +kernel
theorem first_eq (b : Bool) (side : Int) : decide (V.bl (decide (V.str (roomS b) = V.str "red")) = V.bl (decide (V.int side = V.int 1))) = (b == decide (side = 1)) := by
  rw [room_eq]
  have e : decide (V.int side = V.int 1) = decide (side = 1) := by
    by_cases h : side = 1
    · subst h; simp
    · rw [decide_eq_false h, decide_eq_false fun z => h (by injection z)]
  rw [e]
  cases b <;> cases decide (side = 1) <;> decide
theorem small_line {i n : Nat} (h : i < n) (hn : n ≤ 2000) : i < sizeLine := by
  rw [sizeLine_eq]
  omega
end Cc

/-! summary: what a plan does to all starts. -/
namespace Cc
open PySem PySem.Spec PyProof.Rows L2
structure Sm where
  low : Int
  high : Int
  extra : Int
  goal : Option Int
  turned : Bool
def goalV : Option Int → V
  | none => .non
  | some g => .int g
/-- how many chairs the room that was red at first may have -/
def allowF (c : Int) (t b : Bool) (n : Int) : Int × Int := if b == t then (0, c - n) else (n, c)
def nearF (g a b : Int) : Int := if b < (if a > g then a else g) then b else (if a > g then a else g)
/-- a meeting behind steps that only keep to a range -/
def narrowF (lo hi a b : Int) : Int × Int × Int × Option Int :=
  if a > hi then (hi, hi, a - hi, some a) else if b < lo then (lo, lo, lo - b, some b) else (mx lo a, (if b < hi then b else hi), 0, none)
def smStep (c : Int) (m : Sm) : Stp → Sm
  | .turn => { m with turned := !m.turned }
  | .meet b n => match m.goal with
    | none => let z := narrowF m.low m.high (allowF c m.turned b n).1 (allowF c m.turned b n).2; { m with low := z.1, high := z.2.1, extra := z.2.2.1, goal := z.2.2.2 }
    | some g => { m with extra := m.extra + ab (nearF g (allowF c m.turned b n).1 (allowF c m.turned b n).2 - g), goal := some (nearF g (allowF c m.turned b n).1 (allowF c m.turned b n).2) }
def smSteps (c : Int) (ss : List Stp) : Sm := ss.foldl (smStep c) ⟨0, c, 0, none, false⟩
theorem smSteps_more (c : Int) (ss : List Stp) (s : Stp) : smSteps c (ss ++ [s]) = smStep c (smSteps c ss) s := by
  unfold smSteps
  rw [List.foldl_append]
  rfl
def smEnd (m : Sm) : Sm := if m.low = m.high ∧ m.goal = none then { m with goal := some m.low } else m
def sideF (t : Bool) : Int := if t then -1 else 1
/-- what a summary says of a start, of the carried and the place -/
structure SmOk (c : Int) (m : Sm) : Prop where
  l0 : 0 ≤ m.low
  lh : m.low ≤ m.high
  h1 : m.high ≤ c
  g : ∀ z, m.goal = some z → 0 ≤ z ∧ z ≤ c
  e : m.goal = none → m.extra = 0
def distF (lo hi x : Int) : Int := if x < lo then lo - x else if hi < x then x - hi else 0
def clampF (lo hi x : Int) : Int := if x < lo then lo else if hi < x then hi else x
def SmSays (m : Sm) (x total place : Int) : Prop := total = distF m.low m.high x + m.extra ∧ place = (match m.goal with | none => clampF m.low m.high x | some z => z)
theorem says_start (c x : Int) (h0 : 0 ≤ x) (h1 : x ≤ c) : SmOk c ⟨0, c, 0, none, false⟩ ∧ SmSays ⟨0, c, 0, none, false⟩ x 0 (placeF c 1 x) := by
  refine ⟨⟨Int.le_refl 0, by show 0 ≤ c; omega, Int.le_refl c, (fun z h => nomatch h), fun _ => rfl⟩, ?_, ?_⟩
  · show 0 = distF 0 c x + 0
    unfold distF
    split
    · omega
    · split <;> omega
  · show placeF c 1 x = clampF 0 c x
    unfold placeF clampF
    simp
    split
    · omega
    · split <;> omega
theorem smOk_step {c : Int} {m : Sm} {s : Stp} (h : SmOk c m) (hs : s.ok c) : SmOk c (smStep c m s) := by
  obtain ⟨low, high, extra, goal, turned⟩ := m
  obtain ⟨l0, lh, h1, hg, he⟩ := h
  simp only at l0 lh h1 hg he
  cases s with
  | turn => exact ⟨l0, lh, h1, hg, he⟩
  | meet b n =>
    obtain ⟨n0, n1⟩ := hs
    cases goal with
    | none =>
      simp only [smStep, narrowF, allowF, mx]
      cases b <;> cases turned <;> simp <;> (split <;> first
        | (constructor <;> simp <;> omega)
        | (split <;> (constructor <;> simp <;> omega)))
    | some z =>
      have hz := hg z rfl
      simp only [smStep, nearF, allowF]
      refine ⟨l0, lh, h1, fun y hy => ?_, fun q => nomatch q⟩
      simp only [Option.some.injEq] at hy
      subst hy
      cases b <;> cases turned <;> simp <;> split <;> split <;> omega
theorem side_of (t : Bool) : sideF t = 1 ∨ sideF t = -1 := by
  cases t <;> simp [sideF]
theorem narrow_says {lo hi a b x : Int} (h : lo ≤ hi) (hab : a ≤ b) : distF lo hi x + ab (clampF a b (clampF lo hi x) - clampF lo hi x) = distF (narrowF lo hi a b).1 (narrowF lo hi a b).2.1 x + (narrowF lo hi a b).2.2.1 ∧
    clampF a b (clampF lo hi x) = (match (narrowF lo hi a b).2.2.2 with | none => clampF (narrowF lo hi a b).1 (narrowF lo hi a b).2.1 x | some z => z) := by
  unfold narrowF
  by_cases q1 : a > hi
  · rw [if_pos q1]
    simp only [distF, clampF, ab]
    omega
  · rw [if_neg q1]
    by_cases q2 : b < lo
    · rw [if_pos q2]
      simp only [distF, clampF, ab]
      omega
    · rw [if_neg q2]
      simp only [distF, clampF, ab, mx]
      omega
theorem near_is {g a b : Int} (hab : a ≤ b) : nearF g a b = clampF a b g := by
  unfold nearF clampF
  omega
/-- a meeting moves the place to the nearest that it allows -/
theorem place_allow {c r n : Int} {b t : Bool} (r0 : 0 ≤ r) (r1 : r ≤ c) (n0 : 0 ≤ n) (n1 : n ≤ c) :
    placeF c (sideF t) (stepF c (.meet b n) r).1 = clampF (allowF c t b n).1 (allowF c t b n).2 (placeF c (sideF t) r) ∧ (stepF c (.meet b n) r).2 = ab (placeF c (sideF t) (stepF c (.meet b n) r).1 - placeF c (sideF t) r) ∧ (allowF c t b n).1 ≤ (allowF c t b n).2 := by
  cases b <;> cases t <;> simp [placeF, sideF, stepF, clampF, allowF, mx, ab] <;> omega
theorem says_step {c : Int} {m : Sm} {s : Stp} {x r total : Int} (ok : SmOk c m) (hs : s.ok c) (r0 : 0 ≤ r) (r1 : r ≤ c) (h : SmSays m x total (placeF c (sideF m.turned) r)) :
    SmSays (smStep c m s) x (total + (stepF c s r).2) (placeF c (sideF (smStep c m s).turned) (stepF c s r).1) := by
  obtain ⟨low, high, extra, goal, turned⟩ := m
  obtain ⟨l0, lh, hc1, hg, he⟩ := ok
  simp only at l0 lh hc1 hg he
  obtain ⟨e1, e2⟩ := h
  simp only at e1 e2
  cases s with
  | turn =>
    refine ⟨?_, ?_⟩
    · show total + 0 = distF low high x + extra
      omega
    · refine Eq.trans ?_ e2
      show placeF c (sideF (!turned)) (c - r) = placeF c (sideF turned) r
      cases turned <;> simp [placeF, sideF] <;> omega
  | meet b n =>
    obtain ⟨n0, n1⟩ := hs
    obtain ⟨f1, f2, f3⟩ := place_allow (c := c) (b := b) (t := turned) r0 r1 n0 n1
    cases goal with
    | none =>
      have he0 := he rfl
      subst he0
      simp only at e2
      obtain ⟨g1, g2⟩ := narrow_says (lo := low) (hi := high) (a := (allowF c turned b n).1) (b := (allowF c turned b n).2) (x := x) lh f3
      refine ⟨?_, ?_⟩
      · refine Eq.trans ?_ g1
        rw [f2, f1, e2, e1, Int.add_zero]
      · refine Eq.trans ?_ g2
        show placeF c (sideF turned) (stepF c (.meet b n) r).1 = _
        rw [f1, e2]
    | some z =>
      simp only at e2
      refine ⟨?_, ?_⟩
      · show total + (stepF c (.meet b n) r).2 = distF low high x + (extra + ab (nearF z (allowF c turned b n).1 (allowF c turned b n).2 - z))
        rw [near_is f3, f2, f1, e2, e1, Int.add_assoc]
      · show placeF c (sideF turned) (stepF c (.meet b n) r).1 = nearF z (allowF c turned b n).1 (allowF c turned b n).2
        rw [near_is f3, f1, e2]
theorem snoc_ind {α : Type} {M : List α → Prop} (h0 : M []) (h1 : ∀ l a, M l → M (l ++ [a])) (l : List α) : M l := by
  have q : ∀ k : List α, M k.reverse := fun k => by
    induction k with
    | nil => exact h0
    | cons a k ih =>
      rw [List.reverse_cons]
      exact h1 _ a ih
  have z := q l.reverse
  rw [List.reverse_reverse] at z
  exact z
/-- behind all steps -/
theorem smSteps_says {c x : Int} (x0 : 0 ≤ x) (x1 : x ≤ c) (ss : List Stp) : (∀ s ∈ ss, s.ok c) → SmOk c (smSteps c ss) ∧ SmSays (smSteps c ss) x (stepsF c ss (x, 0)).2 (placeF c (sideF (smSteps c ss).turned) (stepsF c ss (x, 0)).1) := by
  refine snoc_ind (M := fun ss => (∀ s ∈ ss, s.ok c) → SmOk c (smSteps c ss) ∧ SmSays (smSteps c ss) x (stepsF c ss (x, 0)).2 (placeF c (sideF (smSteps c ss).turned) (stepsF c ss (x, 0)).1)) (fun _ => says_start c x x0 x1) (fun us s ih hs => ?_) ss
  have hd : ∀ s ∈ us, s.ok c := fun z h => hs z (List.mem_append_left _ h)
  obtain ⟨ok, sy⟩ := ih hd
  obtain ⟨r0, r1, _⟩ := stepsF_in (c := c) (ss := us) (r := x) (t := 0) hd x0 x1 (Int.le_refl 0)
  have hg := hs s (List.mem_append_right _ List.mem_cons_self)
  rw [smSteps_more, stepsF_one]
  exact ⟨smOk_step ok hg, says_step ok hg r0 r1 sy⟩
theorem smEnd_says {c : Int} {m : Sm} {x total place : Int} (ok : SmOk c m) (h : SmSays m x total place) : SmOk c (smEnd m) ∧ SmSays (smEnd m) x total place ∧ ((smEnd m).low = (smEnd m).high → (smEnd m).goal ≠ none) ∧ (smEnd m).turned = m.turned := by
  obtain ⟨low, high, extra, goal, turned⟩ := m
  obtain ⟨l0, lh, hc1, hg, he⟩ := ok
  simp only at l0 lh hc1 hg he
  obtain ⟨e1, e2⟩ := h
  simp only at e1 e2
  unfold smEnd
  by_cases q : low = high ∧ goal = none
  · simp only [q, and_self, if_true]
    obtain ⟨q1, q2⟩ := q
    subst q1 q2
    simp only at e2
    refine ⟨⟨l0, Int.le_refl _, hc1, fun z hz => ?_, fun h => nomatch h⟩, ⟨e1, ?_⟩, (fun _ h => nomatch h), by first | rfl | trivial⟩
    · cases hz
      exact ⟨l0, hc1⟩
    · rw [e2]
      show clampF low low x = low
      unfold clampF
      omega
  · simp only [q, if_false]
    exact ⟨⟨l0, lh, hc1, hg, he⟩, ⟨e1, e2⟩, fun h1 h2 => q ⟨h1, h2⟩, by first | rfl | trivial⟩
/-- the number of turns -/
def turnsF (ss : List Stp) : Nat := (ss.filter fun s => match s with | .turn => true | .meet _ _ => false).length
theorem turned_is (c : Int) (ss : List Stp) : (smSteps c ss).turned = decide (turnsF ss % 2 = 1) := by
  refine snoc_ind (M := fun ss => (smSteps c ss).turned = decide (turnsF ss % 2 = 1)) rfl (fun us s ih => ?_) ss
  rw [smSteps_more]
  have ef : turnsF (us ++ [s]) = turnsF us + (match s with | .turn => 1 | .meet _ _ => 0) := by
    unfold turnsF
    rw [List.filter_append, List.length_append]
    cases s <;> rfl
  rw [ef]
  cases s with
  | turn =>
    show (!(smSteps c us).turned) = _
    rw [ih]
    by_cases q : turnsF us % 2 = 1
    · rw [decide_eq_true q, decide_eq_false (by simp only; omega)]
      rfl
    · rw [decide_eq_false q, decide_eq_true (by simp only; omega)]
      rfl
  | meet b z =>
    have et : (smStep c (smSteps c us) (.meet b z)).turned = (smSteps c us).turned := by
      unfold smStep
      cases (smSteps c us).goal <;> rfl
    rw [et, ih]
    rfl
end Cc

namespace Cc
open PySem PySem.Spec PyProof.Rows L2
abbrev sEffect : Stmt := top 17
abbrev sAllow : Stmt := top 18
abbrev sNarrow : Stmt := top 19
abbrev sNear : Stmt := top 20
def smV (m : Sm) : List V := [.int m.low, .int m.high, .int m.extra, goalV m.goal, .bl m.turned]
def spAllow : Sp := fun vs H Q _ => ∃ (v : V) (b t : Bool) (c n : Int), vs = [v, .int c, .bl t] ∧ StepAt H v (.meet b n) ∧ ∀ p H', Same H H' → H' p = some (.tup [.int (allowF c t b n).1, .int (allowF c t b n).2]) → Q (.ref p) H'
def spNarrow : Sp := fun vs H Q _ => ∃ (lo hi a b : Int), vs = [.int lo, .int hi, .int a, .int b] ∧ ∀ p H', Same H H' → H' p = some (.tup [.int (narrowF lo hi a b).1, .int (narrowF lo hi a b).2.1, .int (narrowF lo hi a b).2.2.1, goalV (narrowF lo hi a b).2.2.2]) → Q (.ref p) H'
def spNear : Sp := fun vs H Q _ => ∃ (g a b : Int), vs = [.int g, .int a, .int b] ∧ Q (.int (nearF g a b)) H
def spEffect (K : PySem.W.Frag) : Sp := fun vs H Q _ => ∃ (t : Addr) (ws : List V) (ss : List Stp) (c : Int), vs = [.ref t, .int c] ∧ SqT K H t ws ∧ (∀ H', Same H H' → SqT K H' t ws) ∧ Steps H ws ss ∧ ∀ q H', Same H H' → H' q = some (.tup (smV (smEnd (smSteps c ss)))) → Q (.ref q) H'
section
variable {P : Program} {w : World} {K : PySem.W.Frag} {mg : Str → Option Value} {base : Heap} {C TU pS gS : Addr} {mc : Value}
theorem scAllow : FnScope ["step", "chairs", "turned", "room", "need"] ["step", "chairs", "turned"] (defScope sAllow) := ⟨rfl, rfl, rfl, by decide +kernel, rfl, by decide +kernel, by decide +kernel⟩
theorem bl_eq (a t : Bool) : decide (V.bl a = V.bl t) = (a == t) := by
  cases a <;> cases t <;> decide
theorem ok_allow {f : Addr} {fd : FuncData} (F : Fun K "allowed_range" "allowed_range" sAllow f fd) : FnOk P w K mg base CX0 1 f fd ["step", "chairs", "turned"] spAllow := by
  refine F.ok scAllow (fun vs H Q E h => ?_) (fun cdv A outer s H vs Q E hr h => ?_)
  · obtain ⟨v, b, t, c, n, rfl, _⟩ := h
    rfl
  · obtain ⟨v, b, tt, c, n, rfl, ⟨t, rfl, ht⟩, k⟩ := h
    refine ⟨_, pss_cons (ps_asg (pv 0) (pg_tup rfl (pgs_cons (pg_name (i := 3) scAllow.nd rfl (.inl rfl)) (pgs_cons (pg_name (i := 4) scAllow.nd rfl (.inl rfl)) pgs_nil))))
      (pss_cons (ps_if (pt_cmpR op_eq (pe_cmpR op_eq (pv 3) pe_str (nomark _)) (pv 2) (nomark _)) (pss_one (ps_ret (pe_tup (pa_cons pe_int (pa_cons (pe_op op_sub (pv 1) (pv 4)) pa_nil))))) pss_nil)
      (pss_one (ps_ret (pe_tup (pa_cons (pv 4) (pa_cons (pv 1) pa_nil)))))), ?_⟩
    refine ⟨_, rfl, t, _, rfl, SqT.of ht, rfl, _, _, rfl, _, _, rfl, rfl, ?_⟩
    refine ⟨_, rfl, rfl, _, rfl, rfl, _, rfl, ?_⟩
    have e : decide (V.bl (decide (V.str (roomS b) = V.str "red")) = V.bl tt) = (b == tt) := by rw [room_eq, bl_eq]
    cases hb : (b == tt) with
    | true =>
      have ea : allowF c tt b n = (0, c - n) := by
        unfold allowF
        rw [if_pos hb]
      refine ifT (e.trans hb) ⟨_, rfl, _, rfl, _, _, rfl, rfl, by show 2 ≤ sizeLine; decide, fun p hp => k p _ (same_upd hp) ?_⟩
      rw [ea]
      exact upd_same
    | false =>
      have ea : allowF c tt b n = (n, c) := by
        unfold allowF
        simp [hb]
      refine ifF (e.trans hb) ⟨_, rfl, _, rfl, by show 2 ≤ sizeLine; decide, fun p hp => k p _ (same_upd hp) ?_⟩
      rw [ea]
      exact upd_same
theorem scNarrow : FnScope ["low", "high", "least", "most"] ["low", "high", "least", "most"] (defScope sNarrow) := ⟨rfl, rfl, rfl, by decide +kernel, rfl, by decide +kernel, by decide +kernel⟩
theorem ok_narrow {f : Addr} {fd : FuncData} (F : Fun K "narrowed" "narrowed" sNarrow f fd) (B : Bt mg) : FnOk P w K mg base CX0 1 f fd ["low", "high", "least", "most"] spNarrow := by
  refine F.ok scNarrow (fun vs H Q E h => ?_) (fun cdv A outer s H vs Q E hr h => ?_)
  · obtain ⟨lo, hi, a, b, rfl, _⟩ := h
    rfl
  · obtain ⟨lo, hi, a, b, rfl, k⟩ := h
    refine ⟨_, pss_cons (ps_if (pt_cmpR op_gt (pv 2) (pv 1) (nomark _)) (pss_one (ps_ret (pe_tup (pa_cons (pv 1) (pa_cons (pv 1) (pa_cons (pe_op op_sub (pv 2) (pv 1)) (pa_cons (pv 2) pa_nil))))))) pss_nil)
      (pss_cons (ps_if (pt_cmpR op_lt (pv 3) (pv 0) (nomark _)) (pss_one (ps_ret (pe_tup (pa_cons (pv 0) (pa_cons (pv 0) (pa_cons (pe_op op_sub (pv 0) (pv 3)) (pa_cons (pv 3) pa_nil))))))) pss_nil)
      (pss_one (ps_ret (pe_tup (pa_cons (pe_callB (call_max2 rfl) (by rfl) B.max (by decide +kernel) (pa_cons (pv 0) (pa_cons (pv 2) pa_nil))) (pa_cons (pe_callB (call_min2 rfl) (by rfl) B.min (by decide +kernel) (pa_cons (pv 1) (pa_cons (pv 3) pa_nil))) (pa_cons pe_int (pa_cons pe_non pa_nil)))))))), ?_⟩
    refine ⟨_, rfl, _, rfl, _, _, rfl, rfl, _, rfl, ?_⟩
    by_cases q1 : hi < a
    · refine ifT (decide_eq_true q1) ⟨_, rfl, _, rfl, _, rfl, _, rfl, _, _, rfl, rfl, _, rfl, by show 4 ≤ sizeLine; decide, fun p hp => k p _ (same_upd hp) ?_⟩
      rw [show narrowF lo hi a b = (hi, hi, a - hi, some a) by unfold narrowF; rw [if_pos q1]]
      exact upd_same
    · refine ifF (decide_eq_false q1) ⟨_, rfl, _, rfl, _, _, rfl, rfl, _, rfl, ?_⟩
      by_cases q2 : b < lo
      · refine ifT (decide_eq_true q2) ⟨_, rfl, _, rfl, _, rfl, _, rfl, _, _, rfl, rfl, _, rfl, by show 4 ≤ sizeLine; decide, fun p hp => k p _ (same_upd hp) ?_⟩
        rw [show narrowF lo hi a b = (lo, lo, lo - b, some b) by unfold narrowF; rw [if_neg q1, if_pos q2]]
        exact upd_same
      · refine ifF (decide_eq_false q2) ⟨_, rfl, _, rfl, _, _, rfl, _, rfl, _, rfl, _, _, rfl, by show 4 ≤ sizeLine; decide, fun p hp => k p _ (same_upd hp) ?_⟩
        rw [show narrowF lo hi a b = (mx lo a, (if b < hi then b else hi), 0, none) by unfold narrowF; rw [if_neg q1, if_neg q2]]
        exact upd_same
theorem scNear : FnScope ["number", "least", "most"] ["number", "least", "most"] (defScope sNear) := ⟨rfl, rfl, rfl, by decide +kernel, rfl, by decide +kernel, by decide +kernel⟩
theorem ok_near {f : Addr} {fd : FuncData} (F : Fun K "nearest" "nearest" sNear f fd) (B : Bt mg) : FnOk P w K mg base CX0 1 f fd ["number", "least", "most"] spNear := by
  refine F.ok scNear (fun vs H Q E h => ?_) (fun cdv A outer s H vs Q E hr h => ?_)
  · obtain ⟨g, a, b, rfl, _⟩ := h
    rfl
  · obtain ⟨g, a, b, rfl, k⟩ := h
    refine ⟨_, pss_one (ps_ret (pe_callB (call_min2 rfl) (by rfl) B.min (by decide +kernel) (pa_cons (pe_callB (call_max2 rfl) (by rfl) B.max (by decide +kernel) (pa_cons (pv 0) (pa_cons (pv 1) pa_nil))) (pa_cons (pv 2) pa_nil)))), ?_⟩
    exact ⟨_, rfl, _, rfl, _, _, rfl, _, rfl, _, _, rfl, k⟩
abbrev nEffect : List Str := ["steps", "chairs", "low", "high", "extra", "goal", "turned", "step", "least", "most", "moved"]
theorem scEffect : FnScope nEffect ["steps", "chairs"] (defScope sEffect) := ⟨rfl, rfl, rfl, by decide +kernel, rfl, by decide +kernel, by decide +kernel⟩
theorem ok_effect {f f2 f3 f4 : Addr} {fd : FuncData} (F : Fun K "effect_of" "effect_of" sEffect f fd) (T : Txt K mg C TU pS gS mc) (DA : Dn P w K mg base 1 "allowed_range" f2 spAllow)
    (DN : Dn P w K mg base 1 "narrowed" f3 spNarrow) (DE : Dn P w K mg base 1 "nearest" f4 spNear) : FnOk P w K mg base CX0 2 f fd ["steps", "chairs"] (spEffect K) := by
  refine F.ok scEffect (fun vs H Q E h => ?_) (fun cdv A outer s H vs Q E hr h => ?_)
  · obtain ⟨p, ws, ss, c, rfl, _⟩ := h
    rfl
  · obtain ⟨p, ws, ss, c, rfl, hT, hT2, e3, k⟩ := h
    have r1 : Room 1 _ := hr
    refine ⟨_, pss_cons (ps_asg (pe_tup (pa_cons pe_int (pa_cons (pv 1) (pa_cons pe_int (pa_cons pe_non (pa_cons pe_bl pa_nil)))))) (pg_tup rfl (pgs_cons (pg_name (i := 2) scEffect.nd rfl (.inl rfl)) (pgs_cons (pg_name (i := 3) scEffect.nd rfl (.inl rfl)) (pgs_cons (pg_name (i := 4) scEffect.nd rfl (.inl rfl)) (pgs_cons (pg_name (i := 5) scEffect.nd rfl (.inl rfl)) (pgs_cons (pg_name (i := 6) scEffect.nd rfl (.inl rfl)) pgs_nil)))))))
      (pss_cons (ps_for PassesOwn.never rfl (pi_tup (pv 0)) (pg_name (i := 7) scEffect.nd rfl (.inl rfl))
        (pss_cons (ps_if (pt_cmpR (op_eqD hr.units) (pv 7) (pe_glob (v := .ref TU) rfl T.gT rfl) (nomark _)) (pss_cons (ps_set (i := 6) scEffect.nd rfl (.inl rfl) (pe_not (pv 6))) (pss_one ps_continue)) pss_nil)
        (pss_cons (ps_asg (pe_callR DA.ok r1 rfl DA.at_ DA.kp pass0 (pa_cons (pv 7) (pa_cons (pv 1) (pa_cons (pv 6) pa_nil)))) (pg_tup rfl (pgs_cons (pg_name (i := 8) scEffect.nd rfl (.inl rfl)) (pgs_cons (pg_name (i := 9) scEffect.nd rfl (.inl rfl)) pgs_nil))))
        (pss_one (ps_if (pt_cmpR op_isN (pv 5) pe_non (nomark _))
          (pss_one (ps_asg (pe_callR DN.ok r1 rfl DN.at_ DN.kp pass0 (pa_cons (pv 2) (pa_cons (pv 3) (pa_cons (pv 8) (pa_cons (pv 9) pa_nil))))) (pg_tup rfl (pgs_cons (pg_name (i := 2) scEffect.nd rfl (.inl rfl)) (pgs_cons (pg_name (i := 3) scEffect.nd rfl (.inl rfl)) (pgs_cons (pg_name (i := 4) scEffect.nd rfl (.inl rfl)) (pgs_cons (pg_name (i := 5) scEffect.nd rfl (.inl rfl)) pgs_nil)))))))
          (pss_cons (ps_set (i := 10) scEffect.nd rfl (.inl rfl) (pe_callR DE.ok r1 rfl DE.at_ DE.kp pass0 (pa_cons (pv 5) (pa_cons (pv 8) (pa_cons (pv 9) pa_nil)))))
          (pss_cons (ps_aug (i := 4) scEffect.nd rfl (.inl rfl) (pe_callB call_abs (by rfl) T.b.abs (by decide +kernel) (pa_cons (pe_op op_sub (pv 10) (pv 5)) pa_nil)) ip_add)
          (pss_one (ps_set (i := 5) scEffect.nd rfl (.inl rfl) (pv 10))))))))))
      (pss_cons (ps_if (PW.pt (pw_and (pt_cmpR op_eq (pv 2) (pv 3) (nomark _)) (pw_and1 (pt_cmpR op_isN (pv 5) pe_non (nomark _))))) (pss_one (ps_set (i := 5) scEffect.nd rfl (.inl rfl) (pv 2))) pss_nil)
      (pss_one (ps_ret (pe_tup (pa_cons (pv 2) (pa_cons (pv 3) (pa_cons (pv 4) (pa_cons (pv 5) (pa_cons (pv 6) pa_nil)))))))))), ?_⟩
    refine ⟨_, rfl, by show 5 ≤ sizeLine; decide, fun t5 ht5 => ?_⟩
    have s2 := same_upd (o := .tup [.int 0, .int c, .int 0, .non, .bl false]) ht5
    refine ⟨t5, _, rfl, SqT.of upd_same, rfl, _, _, rfl, _, _, rfl, _, _, rfl, _, _, rfl, _, _, rfl, rfl, ?_⟩
    refine ⟨_, rfl, p, rfl, ⟨_, hT2 _ s2⟩, for_tup (K := K) (a := p) (xs := ws) (fun i σ H' => ∃ (x7 x8 x9 x10 : Option V), σ = [some (.ref p), some (.int c), some (.int (smSteps c (ss.take i)).low), some (.int (smSteps c (ss.take i)).high), some (.int (smSteps c (ss.take i)).extra), some (goalV (smSteps c (ss.take i)).goal), some (.bl (smSteps c (ss.take i)).turned), x7, x8, x9, x10] ∧ Same (upd H t5 (.tup [.int 0, .int c, .int 0, .non, .bl false])) H')
      ⟨none, none, none, none, rfl, Same.refl _⟩ (fun i σ H' _ ⟨_, _, _, _, _, s3⟩ => hT2 _ (s2.trans s3)) ?_ ?_⟩
    · rintro i v σ H2 hi ⟨x7, x8, x9, x10, rfl, s3⟩
      obtain ⟨st, hst, t, rfl, ht0⟩ := e3.get hi
      have ht := s3 _ _ (s2 _ _ ht0)
      have em : smSteps c (ss.take (i + 1)) = smStep c (smSteps c (ss.take i)) st := by rw [take_more hst, smSteps_more]
      generalize smSteps c (ss.take i) = m at *
      obtain ⟨low, high, extra, goal, turned⟩ := m
      cases st with
      | turn =>
        refine ⟨_, rfl, .tuple [.str "turn"], .tuple [.str "turn"], .tup (SqT.of ht) (.cons (.str _) .nil), .tup (T.tT _) (.cons (.str _) .nil), by decide +kernel, by decide +kernel, _, rfl, ?_⟩
        refine ifT eqv_turn ⟨_, rfl, _, rfl, ?_⟩
        refine ⟨some (.ref t), x8, x9, x10, ?_, s3⟩
        rw [em]
        rfl
      | meet bb n =>
        refine ⟨_, rfl, .tuple [.str (roomS bb), .int n], .tuple [.str "turn"], .tup (SqT.of ht) (.cons (.str _) (.cons (.int _) .nil)), .tup (T.tT _) (.cons (.str _) .nil), shaped_meet bb n, by decide +kernel, _, rfl, ?_⟩
        refine ifF (eqv_meet bb n) ⟨_, rfl, _, rfl, _, rfl, _, bb, turned, c, n, rfl, ⟨t, rfl, ht⟩, fun q H3 s4 hq => ?_⟩
        refine ⟨q, _, rfl, SqT.of hq, rfl, _, _, rfl, _, _, rfl, rfl, ?_⟩
        cases goal with
        | none =>
          refine ⟨_, rfl, rfl, _, rfl, ?_⟩
          refine ifT (decide_eq_true rfl) ⟨_, rfl, _, rfl, _, rfl, _, rfl, low, high, _, _, rfl, fun q2 H4 s5 hq2 => ?_⟩
          refine ⟨q2, _, rfl, SqT.of hq2, rfl, _, _, rfl, _, _, rfl, _, _, rfl, _, _, rfl, rfl, ?_⟩
          refine ⟨some (.ref t), some (.int (allowF c turned bb n).1), some (.int (allowF c turned bb n).2), x10, ?_, (s3.trans s4).trans s5⟩
          rw [em]
          rfl
        | some z =>
          refine ⟨_, rfl, rfl, _, rfl, ?_⟩
          refine ifF (by simp [goalV]) ⟨_, rfl, _, rfl, _, rfl, z, _, _, rfl, ?_⟩
          refine ⟨_, rfl, _, rfl, _, rfl, _, _, rfl, rfl, _, rfl, _, _, rfl, rfl, _, rfl, ?_⟩
          refine ⟨some (.ref t), some (.int (allowF c turned bb n).1), some (.int (allowF c turned bb n).2), some (.int (nearF z (allowF c turned bb n).1 (allowF c turned bb n).2)), ?_, s3.trans s4⟩
          rw [em]
          rfl
    · rintro σ H2 ⟨x7, x8, x9, x10, rfl, s3⟩
      rw [e3.length, List.take_length]
      generalize smSteps c ss = m at *
      obtain ⟨low, high, extra, goal, turned⟩ := m
      have fin : ∀ g : Option Int, smEnd ⟨low, high, extra, goal, turned⟩ = ⟨low, high, extra, g, turned⟩ → ∀ q, H2 q = none → Q (.ref q) (upd H2 q (.tup [.int low, .int high, .int extra, goalV g, .bl turned])) := fun g hg q hq => by
        refine k q _ ((s2.trans s3).trans (same_upd hq)) ?_
        rw [hg]
        exact upd_same
      refine ⟨_, rfl, _, rfl, rfl, _, rfl, ?_⟩
      by_cases q1 : low = high
      · refine ifT (by rw [q1]; exact decide_eq_true rfl) ⟨_, rfl, rfl, _, rfl, ?_⟩
        cases goal with
        | none =>
          refine ifT (decide_eq_true rfl) ⟨_, rfl, _, rfl, _, rfl, _, rfl, _, rfl, _, rfl, by show 5 ≤ sizeLine; decide, fun q hq => ?_⟩
          exact fin (some low) (by unfold smEnd; rw [if_pos ⟨q1, rfl⟩]) q hq
        | some z =>
          refine ifF (by simp [goalV]) ⟨_, rfl, _, rfl, _, rfl, _, rfl, _, rfl, by show 5 ≤ sizeLine; decide, fun q hq => ?_⟩
          exact fin (some z) (by unfold smEnd; rw [if_neg (fun h => nomatch h.2)]) q hq
      · refine ifF (decide_eq_false fun h => q1 (by injection h)) ?_
        refine iteF ⟨_, rfl, _, rfl, _, rfl, _, rfl, _, rfl, by show 5 ≤ sizeLine; decide, fun q hq => ?_⟩
        exact fin goal (by unfold smEnd; rw [if_neg (fun h => q1 h.1)]) q hq
end
end Cc

namespace Cc
open PySem PySem.Spec PyProof.Rows L2
def spSummary (C : Addr) : Sp := fun vs H Q _ => ∃ (p : Addr) (ss : List Stp) (c : Int), vs = [.ref p, .int c] ∧ PlanAt C H p ss ∧ 0 ≤ c ∧ c ≤ 1000000000000000000 ∧ (∀ s ∈ ss, s.ok c) ∧ ss.length ≤ 60 ∧ ∀ q H', Same H H' → H' q = some (.tup (smV (smEnd (smSteps c ss)))) → Q (.ref q) H'
section
variable {P : Program} {w : World} {K : PySem.W.Frag} {mg : Str → Option Value} {base : Heap} {C TU pS gS : Addr} {mc : Value}
abbrev s_summary : Stmt := top 16
abbrev n_summary : List Str := ["plan", "chairs"]
theorem sc_summary : FnScope n_summary ["plan", "chairs"] (defScope s_summary) := ⟨rfl, rfl, rfl, by decide +kernel, rfl, by decide +kernel, by decide +kernel⟩
theorem ok_summary {f f_check_house f_effect_of : Addr} {fd fdS : FuncData} (F : Fun K "summary" "summary" s_summary f fd) (T : Txt K mg C TU pS gS mc) (G : Gs P w K mg base C gS fdS) (D_check_house : Dn P w K mg base 3 "check_house" f_check_house (spChkHouse C)) (D_effect_of : Dn P w K mg base 2 "effect_of" f_effect_of (spEffect K)) : FnOk P w K mg base CX0 4 f fd ["plan", "chairs"] (spSummary C) := by
  refine F.ok sc_summary (fun vs H Q E h => ?_) (fun cdv A outer s H vs Q E hr h => ?_)
  · obtain ⟨p, ss, c, rfl, _⟩ := h
    rfl
  · obtain ⟨p, ss, c, rfl, hp, h0, h1, ho, hn, k⟩ := h
    refine ⟨_, pss_cons (ps_expr (pe_callR D_check_house.ok (hr.mono (by decide)) rfl D_check_house.at_ D_check_house.kp pass0 (pa_cons (pv 0) (pa_cons (pv 1) pa_nil))))
      (pss_one (ps_ret (pe_callR D_effect_of.ok (hr.mono (by decide)) rfl D_effect_of.at_ D_effect_of.kp pass0 (pa_cons (pe_prop (pv 0) T.cl T.pr G.ok (hr.mono (by decide)) G.b .nil pass0 rfl) (pa_cons (pv 1) pa_nil))))), ?_⟩
    refine ⟨_, rfl, _, rfl, p, c, ss, rfl, hp, h0, h1, ho, hn, fun H1 s1 => ?_⟩
    obtain ⟨dx, tp, ws, e1, e2, e3⟩ := hp.same s1
    exact ⟨_, rfl, p, dx, _, rfl, e1, p, dx, _, _, rfl, e1, lk_self, _, rfl, tp, ws, ss, c, rfl, SqT.of e2, (fun H' s' => SqT.of (s' _ _ e2)), e3, fun q H2 s2 e => k q H2 (s1.trans s2) e⟩
end
end Cc

/-! The play of steps one by one; three more rules. -/
namespace Cc
open PySem PySem.Spec PyProof.Rows L2
def carryF (c : Int) : List Stp → Int → List Int
  | [], _ => []
  | s :: ss, r => (stepF c s r).2 :: carryF c ss (stepF c s r).1
theorem stepsF_fst (c : Int) : ∀ (ss : List Stp) (r t u : Int), (stepsF c ss (r, t)).1 = (stepsF c ss (r, u)).1
  | [], _, _, _ => rfl
  | s :: ss, r, t, u => stepsF_fst c ss (stepF c s r).1 _ _
theorem carryF_one (c : Int) (s : Stp) : ∀ (ss : List Stp) (r : Int), carryF c (ss ++ [s]) r = carryF c ss r ++ [(stepF c s (stepsF c ss (r, 0)).1).2]
  | [], r => rfl
  | z :: ss, r => by
    show (stepF c z r).2 :: carryF c (ss ++ [s]) (stepF c z r).1 = (stepF c z r).2 :: (carryF c ss (stepF c z r).1 ++ [(stepF c s (stepsF c ss ((stepF c z r).1, 0 + (stepF c z r).2)).1).2])
    rw [carryF_one c s ss (stepF c z r).1, stepsF_fst c ss (stepF c z r).1 0 (0 + (stepF c z r).2)]
theorem carryF_len (c : Int) : ∀ (ss : List Stp) (r : Int), (carryF c ss r).length = ss.length
  | [], _ => rfl
  | s :: ss, r => by
    show (carryF c ss (stepF c s r).1).length + 1 = ss.length + 1
    rw [carryF_len c ss]
theorem carryF_sum (c : Int) : ∀ (ss : List Stp) (r : Int), (carryF c ss r).sum = (stepsF c ss (r, 0)).2
  | [], _ => rfl
  | s :: ss, r => by
    show ((stepF c s r).2 :: carryF c ss (stepF c s r).1).sum = (stepsF c ss ((stepF c s r).1, 0 + (stepF c s r).2)).2
    rw [List.sum_cons, carryF_sum c ss, stepsF_add c ss (stepF c s r).1 (0 + (stepF c s r).2), Int.zero_add]
theorem nuMax3_int (a b z : Int) : nuMax3 (.int a) (.int b) (.int z) = some (.int (if (if a < b then b else a) < z then z else (if a < b then b else a))) := by
  by_cases h : a < b
  · by_cases h2 : b < z <;> simp [nuMax3, nuMax2, nuLt, nuCB, h, h2]
  · by_cases h2 : a < z <;> simp [nuMax3, nuMax2, nuLt, nuCB, h, h2]
/-- a <= b <= c <= d, a test -/
def tChain3 (r1 r2 r3 : R2) (ta tb tc td : TE) : TT := fun σ H Q => ta σ H fun x H1 => tb σ H1 fun y H2 => r1 x y H2 fun z H3 => ∃ k, z = .bl k ∧
  (if k = true then tc σ H3 fun x2 H4 => r2 y x2 H4 fun z2 H5 => ∃ k2, z2 = .bl k2 ∧ (if k2 = true then td σ H5 fun x3 H6 => r3 x2 x3 H6 fun z3 H7 => ∃ k3, z3 = .bl k3 ∧ Q k3 H7 else Q false H5) else Q false H3)
section
variable {X : Cx} {a b c d : Expr} {ta tb tc td : TE} {pos : Pos}
theorem pt_chain3 {o1 o2 o3 : CmpOp} {r1 r2 r3 : R2} (h1 : OpR X (compareOp o1) r1) (h2 : OpR X (compareOp o2) r2) (h3 : OpR X (compareOp o3) r3) (ha : PE X a ta) (hb : PE X b tb) (hc : PE X c tc) (hd : PE X d td)
    (hm : lastMarks [o1, o2, o3] [b, c, d] = false := by with_unfolding_all rfl) : PT X (.Compare a [o1, o2, o3] [b, c, d] pos) (tChain3 r1 r2 r3 ta tb tc td) := by
  refine ⟨fun pn s sg Hh Qq J h => isTrue_chain ?_ hm⟩
  refine thn (ha.run pn s sg Hh _ J h) fun v1 z1 ⟨x1, G1, J1, e1, p1⟩ => test_link ?_
  refine thn (hb.run pn z1 sg G1 _ J1 p1) fun v2 z2 ⟨x2, G2, J2, e2, p2⟩ => ?_
  refine thn (h1 pn z2 sg G2 x1 x2 v1 v2 _ J2 e1 e2 p2) fun v3 z3 ⟨y1, G3, J3, e3, k1, f1, p3⟩ => ?_
  subst f1
  cases e3
  refine wpAny_truthy_bool ?_
  cases k1 with
  | false => exact ite_ff ⟨G3, J3, p3⟩
  | true =>
    refine ite_tt (test_link ?_)
    refine thn (hc.run pn z3 sg G3 _ J3 p3) fun v4 z4 ⟨x3, G4, J4, e4, p4⟩ => ?_
    refine thn (h2 pn z4 sg G4 x2 x3 v2 v4 _ J4 e2 e4 p4) fun v5 z5 ⟨y2, G5, J5, e5, k2, f2, p5⟩ => ?_
    subst f2
    cases e5
    refine wpAny_truthy_bool ?_
    cases k2 with
    | false => exact ite_ff ⟨G5, J5, p5⟩
    | true =>
      refine ite_tt (test_last ?_)
      refine thn (hd.run pn z5 sg G5 _ J5 p5) fun v6 z6 ⟨x4, G6, J6, e6, p6⟩ => ?_
      refine thn (h3 pn z6 sg G6 x3 x4 v4 v6 _ J6 e4 e6 p6) fun v7 z7 ⟨y3, G7, J7, e7, k3, f3, p7⟩ => ?_
      subst f3
      cases e7
      exact wpAny_truthy_bool ⟨G7, J7, p7⟩
end
end Cc

namespace Cc
open PySem PySem.Spec PyProof.Rows L2
abbrev sPlayed : Stmt := top 27
def spPlayed : Sp := fun vs H Q _ => ∃ (l : Addr) (ws : List V) (ss : List Stp) (c r : Int), vs = [.ref l, .int c, .int r] ∧ H l = some (.lst ws) ∧ Steps H ws ss ∧ ss.length ≤ 100000 ∧
  ∀ p q H', H q = none → Same H H' → H' p = some (.tup [.ref q, .int (stepsF c ss (r, 0)).1]) → H' q = some (.lst ((carryF c ss r).map V.int)) → Q (.ref p) H'
section
variable {P : Program} {w : World} {K : PySem.W.Frag} {mg : Str → Option Value} {base : Heap}
theorem scPlayed : FnScope ["_law_steps", "_law_chairs", "_law_start_here", "_law_red", "_law_blue", "_law_carried", "_law_step", "_law_shifted"] ["_law_steps", "_law_chairs", "_law_start_here"] (defScope sPlayed) := ⟨rfl, rfl, rfl, by decide +kernel, rfl, by decide +kernel, by decide +kernel⟩
theorem ok_played {f : Addr} {fd : FuncData} (F : Fun K "_law_played" "_law_played" sPlayed f fd) (B : Bt mg) : FnOk P w K mg base CX0 1 f fd ["_law_steps", "_law_chairs", "_law_start_here"] spPlayed := by
  refine F.ok scPlayed (fun vs H Q E h => ?_) (fun cdv A outer s H vs Q E hr h => ?_)
  · obtain ⟨l, ws, ss, c, r, rfl, _⟩ := h
    rfl
  · obtain ⟨l, ws, ss, c, r, rfl, hl, hs, hn, k⟩ := h
    refine ⟨_, pss_cons (ps_par3 (i := 3) (j := 4) (l := 5) rfl scPlayed.nd rfl rfl rfl (by decide) (by decide) (by decide) rfl rfl rfl (pa_cons (pv 2) (pa_cons (pe_op op_sub (pv 1) (pv 2)) (pa_cons (pe_lst pa_nil) pa_nil))) (by rfl))
      (pss_cons (ps_for PassesOwn.never rfl (pi_list (pv 0)) (pg_name (i := 6) scPlayed.nd rfl (.inl rfl))
        (pss_cons (ps_set (i := 7) scPlayed.nd rfl (.inl rfl) pe_int)
        (pss_cons (ps_if (pt_cmpR op_eq (pe_ix ix_tup (pv 6) pe_int (fun _ _ => rfl)) pe_str (nomark _))
          (pss_one (ps_par (i := 3) (j := 4) rfl scPlayed.nd rfl rfl (by decide) rfl rfl (pa_cons (pv 4) (pa_cons (pv 3) pa_nil)) (by rfl)))
          (pss_one (ps_if (pt_cmpR op_eq (pe_ix ix_tup (pv 6) pe_int (fun _ _ => rfl)) pe_str (nomark _))
            (pss_cons (ps_set (i := 7) scPlayed.nd rfl (.inl rfl) (pe_callB (call_max2 rfl) (by rfl) B.max (by decide +kernel) (pa_cons pe_int (pa_cons (pe_op op_sub (pe_ix ix_tup (pv 6) pe_int (fun _ _ => rfl)) (pv 3)) pa_nil))))
              (pss_one (ps_par (i := 3) (j := 4) rfl scPlayed.nd rfl rfl (by decide) rfl rfl (pa_cons (pe_op op_add (pv 3) (pv 7)) (pa_cons (pe_op op_sub (pv 4) (pv 7)) pa_nil)) (by rfl))))
            (pss_cons (ps_set (i := 7) scPlayed.nd rfl (.inl rfl) (pe_callB (call_max2 rfl) (by rfl) B.max (by decide +kernel) (pa_cons pe_int (pa_cons (pe_op op_sub (pe_ix ix_tup (pv 6) pe_int (fun _ _ => rfl)) (pv 4)) pa_nil))))
              (pss_one (ps_par (i := 3) (j := 4) rfl scPlayed.nd rfl rfl (by decide) rfl rfl (pa_cons (pe_op op_sub (pv 3) (pv 7)) (pa_cons (pe_op op_add (pv 4) (pv 7)) pa_nil)) (by rfl)))))))
        (pss_one (ps_expr (pe_bm PySem.F.plainAttrs_list PySem.F.slot_list_append PySem.F.type_list_append mt_append (pv 5) (pa_cons (pv 7) pa_nil)))))))
      (pss_one (ps_ret (pe_tup (pa_cons (pv 5) (pa_cons (pv 3) pa_nil)))))), ?_⟩
    refine ⟨_, rfl, _, rfl, _, rfl, _, _, rfl, rfl, by show 0 ≤ sizeLine; decide, fun q hq => ⟨_, _, _, rfl, ?_⟩⟩
    refine ⟨_, rfl, l, rfl, ⟨_, SqL.of ((same_upd hq) _ _ hl)⟩, for_list (K := K) (a := l) (xs := ws) (fun i σ H' => ∃ (x y : Option V), σ = [some (.ref l), some (.int c), some (.int r), some (.int (stepsF c (ss.take i) (r, 0)).1), some (.int (c - (stepsF c (ss.take i) (r, 0)).1)), some (.ref q), x, y] ∧ Same H H' ∧ H' q = some (.lst ((carryF c (ss.take i) r).map V.int)))
      ⟨none, none, rfl, same_upd hq, upd_same⟩ (fun i σ H' _ ⟨_, _, _, s1, _⟩ => SqL.of (s1 _ _ hl)) ?_ ?_⟩
    · rintro i v σ H1 hi ⟨x, y, rfl, s1, e1⟩
      obtain ⟨st, hst, t, rfl, ht0⟩ := hs.get hi
      have ht := s1 _ _ ht0
      have il : i < ss.length := (List.getElem?_eq_some_iff.mp hst).1
      have hlen : ((carryF c (ss.take i) r).map V.int).length < sizeLine := by
        rw [List.length_map, carryF_len, List.length_take, sizeLine_eq]
        omega
      have et : stepsF c (ss.take (i + 1)) (r, 0) = ((stepF c st (stepsF c (ss.take i) (r, 0)).1).1, (stepsF c (ss.take i) (r, 0)).2 + (stepF c st (stepsF c (ss.take i) (r, 0)).1).2) := by rw [take_more hst, stepsF_one]
      have ec : carryF c (ss.take (i + 1)) r = carryF c (ss.take i) r ++ [(stepF c st (stepsF c (ss.take i) (r, 0)).1).2] := by rw [take_more hst, carryF_one]
      -- what stands behind the turn
      have fin : ∀ (a b d : Int), a = (stepF c st (stepsF c (ss.take i) (r, 0)).1).1 → b = c - (stepF c st (stepsF c (ss.take i) (r, 0)).1).1 → d = (stepF c st (stepsF c (ss.take i) (r, 0)).1).2 →
          ∃ (x y : Option V), [some (V.ref l), some (.int c), some (.int r), some (.int a), some (.int b), some (.ref q), some (.ref t), some (.int d)] = [some (.ref l), some (.int c), some (.int r), some (.int (stepsF c (ss.take (i + 1)) (r, 0)).1), some (.int (c - (stepsF c (ss.take (i + 1)) (r, 0)).1)), some (.ref q), x, y] ∧ Same H (upd H1 q (.lst ((carryF c (ss.take i) r).map V.int ++ [.int d]))) ∧ upd H1 q (.lst ((carryF c (ss.take i) r).map V.int ++ [.int d])) q = some (.lst ((carryF c (ss.take (i + 1)) r).map V.int)) := by
        rintro a b d rfl rfl rfl
        refine ⟨some (.ref t), some (.int (stepF c st (stepsF c (ss.take i) (r, 0)).1).2), by rw [et], same_new hq s1, upd_lst ?_⟩
        rw [ec, List.map_append]
        rfl
      cases st with
      | turn =>
        refine ⟨_, rfl, t, _, _, _, rfl, rfl, SqT.of ht, at_of (j := 0) rfl rfl, rfl, _, rfl, ?_⟩
        refine ifT (decide_eq_true rfl) ⟨_, rfl, _, rfl, _, _, rfl, ?_⟩
        refine ⟨_, rfl, .inl ⟨rfl, _, SqL.of e1⟩, _, rfl, q, _, _, rfl, rfl, e1, hlen, ?_⟩
        exact fin _ _ _ rfl (by show _ = c - (c - _); omega) rfl
      | meet bb n =>
        refine ⟨_, rfl, t, _, _, _, rfl, rfl, SqT.of ht, at_of (j := 0) rfl rfl, rfl, _, rfl, ?_⟩
        refine ifF (room_turn bb) ⟨_, rfl, t, _, _, _, rfl, rfl, SqT.of ht, at_of (j := 0) rfl rfl, rfl, _, rfl, ?_⟩
        rw [room_eq]
        cases bb with
        | true =>
          refine iteT ⟨_, rfl, t, _, _, _, rfl, rfl, SqT.of ht, at_of (j := 1) rfl rfl, _, rfl, _, _, rfl, rfl, _, _, rfl, ?_⟩
          refine ⟨_, rfl, _, rfl, _, _, rfl, rfl, _, rfl, _, rfl, _, _, rfl, rfl, _, _, rfl, ?_⟩
          refine ⟨_, rfl, .inl ⟨rfl, _, SqL.of e1⟩, _, rfl, q, _, _, rfl, rfl, e1, hlen, ?_⟩
          exact fin _ _ _ rfl (by simp only [stepF, mx]; omega) rfl
        | false =>
          refine iteF ⟨_, rfl, t, _, _, _, rfl, rfl, SqT.of ht, at_of (j := 1) rfl rfl, _, rfl, _, _, rfl, rfl, _, _, rfl, ?_⟩
          refine ⟨_, rfl, _, rfl, _, _, rfl, rfl, _, rfl, _, rfl, _, _, rfl, rfl, _, _, rfl, ?_⟩
          refine ⟨_, rfl, .inl ⟨rfl, _, SqL.of e1⟩, _, rfl, q, _, _, rfl, rfl, e1, hlen, ?_⟩
          exact fin _ _ _ rfl (by simp only [stepF, mx]; omega) rfl
    · rintro σ H1 ⟨x, y, rfl, s1, e1⟩
      rw [hs.length, List.take_length] at e1 ⊢
      refine ⟨_, rfl, _, rfl, by show 2 ≤ sizeLine; decide, fun p hp => ?_⟩
      exact k p q _ hq (s1.trans (same_upd hp)) upd_same ((same_upd hp) _ _ e1)
end
end Cc

namespace Cc
open PySem PySem.Spec PyProof.Rows L2
abbrev sAgrees : Stmt := top 28
abbrev sLaw : Stmt := top 29
def spAgrees : Sp := fun vs H Q _ => ∃ (q l : Addr) (m : Sm) (ws : List V) (ss : List Stp) (c x : Int), vs = [.ref q, .ref l, .int c, .int x] ∧ H q = some (.tup (smV m)) ∧ H l = some (.lst ws) ∧ Steps H ws ss ∧ ss.length ≤ 1000 ∧ m.low ≤ m.high ∧
  SmSays m x (stepsF c ss (x, 0)).2 (placeF c (sideF m.turned) (stepsF c ss (x, 0)).1) ∧ ∀ H', Same H H' → Q (.bl true) H'
def spLaw (K : PySem.W.Frag) : Sp := fun vs H Q _ => ∃ (a : Addr) (ns : List Int), vs = [.ref a] ∧ SqF K H a (ns.map V.int) ∧ ns.length ≤ 63 ∧ ∀ H', Q (.bl true) H'
section
variable {P : Program} {w : World} {K : PySem.W.Frag} {mg : Str → Option Value} {base : Heap} {C TU pS gS : Addr} {mc : Value}
theorem scAgrees : FnScope ["_law_told", "_law_steps", "_law_chairs", "_law_start_here", "_law_low", "_law_high", "_law_extra", "_law_goal", "_law_turned", "_law_carried", "_law_red", "_law_place"] ["_law_told", "_law_steps", "_law_chairs", "_law_start_here"] (defScope sAgrees) := ⟨rfl, rfl, rfl, by decide +kernel, rfl, by decide +kernel, by decide +kernel⟩
theorem ok_agrees {f f1 : Addr} {fd : FuncData} (F : Fun K "_law_agrees" "_law_agrees" sAgrees f fd) (B : Bt mg) (DP : Dn P w K mg base 1 "_law_played" f1 spPlayed) : FnOk P w K mg base CX0 2 f fd ["_law_told", "_law_steps", "_law_chairs", "_law_start_here"] spAgrees := by
  refine F.ok scAgrees (fun vs H Q E h => ?_) (fun cdv A outer s H vs Q E hr h => ?_)
  · obtain ⟨q, l, m, ws, ss, c, x, rfl, _⟩ := h
    rfl
  · obtain ⟨q, l, m, ws, ss, c, x, rfl, hq, hl, hs, hn, hlh, hsay, k⟩ := h
    refine ⟨_, pss_cons (ps_asg (pv 0) (pg_tup rfl (pgs_cons (pg_name (i := 4) scAgrees.nd rfl (.inl rfl)) (pgs_cons (pg_name (i := 5) scAgrees.nd rfl (.inl rfl)) (pgs_cons (pg_name (i := 6) scAgrees.nd rfl (.inl rfl)) (pgs_cons (pg_name (i := 7) scAgrees.nd rfl (.inl rfl)) (pgs_cons (pg_name (i := 8) scAgrees.nd rfl (.inl rfl)) pgs_nil)))))))
      (pss_cons (ps_asg (pe_callR DP.ok hr rfl DP.at_ DP.kp pass0 (pa_cons (pv 1) (pa_cons (pv 2) (pa_cons (pv 3) pa_nil)))) (pg_tup rfl (pgs_cons (pg_name (i := 9) scAgrees.nd rfl (.inl rfl)) (pgs_cons (pg_name (i := 10) scAgrees.nd rfl (.inl rfl)) pgs_nil))))
      (pss_cons (ps_if (pt_cmpR op_ne (pe_callB (cr_sum rfl) (by rfl) B.sum (by decide +kernel) (pa_cons (pv 9) pa_nil)) (pe_op op_add (pe_callB (call_max3Nu rfl) (by rfl) B.max (by decide +kernel) (pa_cons (pe_op op_sub (pv 4) (pv 3)) (pa_cons (pe_op op_sub (pv 3) (pv 5)) (pa_cons pe_int pa_nil)))) (pv 6)) (nomark _)) (pss_one (ps_ret pe_bl)) pss_nil)
      (pss_cons (ps_set (i := 11) scAgrees.nd rfl (.inl rfl) (pe_ifExp (pt_cmpR op_isN (pv 7) pe_non (nomark _)) (pe_callB (call_min2 rfl) (by rfl) B.min (by decide +kernel) (pa_cons (pe_callB (call_max2 rfl) (by rfl) B.max (by decide +kernel) (pa_cons (pv 3) (pa_cons (pv 4) pa_nil))) (pa_cons (pv 5) pa_nil))) (pv 7)))
      (pss_one (ps_ret (pe_cmpR op_eq (pv 10) (pe_ifExp (pt_val (pv 8)) (pe_op op_sub (pv 2) (pv 11)) (pv 11)) (nomark _))))))), ?_⟩
    obtain ⟨low, high, extra, goal, turned⟩ := m
    obtain ⟨g1, g2⟩ := hsay
    simp only at g1 g2 hlh
    refine ⟨_, rfl, q, _, rfl, SqT.of hq, rfl, _, _, rfl, _, _, rfl, _, _, rfl, _, _, rfl, _, _, rfl, rfl, ?_⟩
    refine ⟨_, rfl, _, rfl, _, rfl, l, ws, ss, c, x, rfl, hl, hs, by omega, fun p z H1 hz s1 e1 e2 => ?_⟩
    refine ⟨p, _, rfl, SqT.of e1, rfl, _, _, rfl, _, _, rfl, rfl, ?_⟩
    refine ⟨_, rfl, z, _, rfl, SqL.of e2, _, rfl, _, rfl, _, _, rfl, rfl, _, rfl, _, rfl, _, _, rfl, rfl, _, _, _, _, rfl, nuMax3_int _ _ _, _, rfl, _, _, rfl, rfl, rfl, _, rfl, ?_⟩
    refine iteNS ?_ ?_
    · rw [carryF_sum, g1]
      unfold distF
      congr 1
      dsimp only
      omega
    · have last : ∀ (v : Int) (x11 : Option V), v = placeF c (sideF turned) (stepsF c ss (x, 0)).1 → tRet (tOp rEq (tVar 10) (tIf (tB (tVar 8)) (tOp (rI0 fun i j => .int (i - j)) (tVar 2) (tVar 11)) (tVar 11))) { nx := fun _ H' => Q .non H', rt := Q }
          [some (.ref q), some (.ref l), some (.int c), some (.int x), some (.int low), some (.int high), some (.int extra), some (goalV goal), some (.bl turned), some (.ref z), some (.int (stepsF c ss (x, 0)).1), some (.int v)] H1 := fun v x11 hv => by
        cases turned with
        | true =>
          refine ⟨_, rfl, _, rfl, _, rfl, ?_⟩
          refine iteT ⟨_, rfl, _, rfl, _, _, rfl, rfl, rfl, ?_⟩
          rw [decide_eq_true (by rw [hv]; simp [placeF, sideF]; omega)]
          exact k H1 s1
        | false =>
          refine ⟨_, rfl, _, rfl, _, rfl, ?_⟩
          refine iteF ⟨_, rfl, rfl, ?_⟩
          rw [decide_eq_true (by rw [hv]; simp [placeF, sideF])]
          exact k H1 s1
      cases goal with
      | none =>
        refine ⟨_, rfl, rfl, _, rfl, ?_⟩
        refine ifT (decide_eq_true rfl) ⟨_, rfl, _, rfl, _, _, rfl, _, rfl, _, _, rfl, ?_⟩
        refine last _ none ?_
        have g3 : placeF c (sideF turned) (stepsF c ss (x, 0)).1 = clampF low high x := g2
        rw [g3]
        unfold clampF
        dsimp only
        omega
      | some y =>
        refine ⟨_, rfl, rfl, _, rfl, ?_⟩
        refine ifF (by simp [goalV]) ⟨_, rfl, ?_⟩
        exact last y none g2.symm
abbrev nLaw : List Str := ["_law_script", "_law_state", "_law_turn", "_law_high", "_law_steps", "_law_told", "_law_starts", "_law_start_here", "_law_step", "_law_k"]
def ttTurn (K : PySem.W.Frag) : TT := tTest (tOp (rEqD K) (tVar 8) (tTup (tCons (tC (.str "turn")) tNil)))
def teDraw (K : PySem.W.Frag) : TE := fun σ H Q => tCons (tVar 1) (tCons (tOp (rI0 fun i j => .int (i + j)) (tVar 3) (tC (.int 1))) tNil) σ H fun vs H1 => spDrawn K vs H1 Q E0
theorem scLaw : FnScope nLaw ["_law_script"] (defScope sLaw) := ⟨rfl, rfl, rfl, by decide +kernel, rfl, by decide +kernel, by decide +kernel⟩
/-- the list of the starts that are asked -/
def StartsAt (H : Hp) (l : Addr) (c : Int) : Prop := ∃ ns : List Int, H l = some (.lst (ns.map V.int)) ∧ ∀ z ∈ ns, 0 ≤ z ∧ z ≤ c
theorem ok_law {f f1 f2 f3 f4 f5 f6 : Addr} {fd : FuncData} (F : Fun K "law" "law" sLaw f fd) (B : Bt mg) (DS : Dn P w K mg base 1 "_law_start" f1 (spStart K)) (DD : Dn P w K mg base 1 "_law_drawn" f2 (spDrawn K)) (DR : Dn P w K mg base 2 "_law_random_steps" f3 (spRnd K))
    (DP : Dn P w K mg base 6 "_law_plan" f4 (spLPlan C)) (DT : Dn P w K mg base 4 "summary" f5 (spSummary C)) (DA : Dn P w K mg base 2 "_law_agrees" f6 spAgrees) : FnOk P w K mg base CX0 7 f fd ["_law_script"] (spLaw K) := by
  refine F.ok scLaw (fun vs H Q E h => ?_) (fun cdv A outer s H vs Q E hr h => ?_)
  · obtain ⟨a, ns, rfl, _⟩ := h
    rfl
  · obtain ⟨a, ns, rfl, hF, hlen, k⟩ := h
    have r1 : Room 1 _ := hr.mono (by decide)
    have r2 : Room 2 _ := hr.mono (by decide)
    have r4 : Room 4 _ := hr.mono (by decide)
    refine ⟨_, pss_cons (ps_set (i := 1) scLaw.nd rfl (.inr rfl) (pe_callR DS.ok r1 rfl DS.at_ DS.kp pass0 (pa_cons (pv 0) pa_nil)))
      (pss_cons (ps_for PassesOwn.never rfl (pi_range1 rfl B.range (pa_cons pe_int pa_nil)) (pg_name (i := 2) scLaw.nd rfl (.inl rfl))
        (pss_cons (ps_set (i := 3) scLaw.nd rfl (.inr rfl) (pe_ix ix_list (pe_lst (pa_cons (pe_callR DD.ok r1 rfl DD.at_ DD.kp pass0 (pa_cons (pv 1) (pa_cons pe_int pa_nil))) (pa_cons (pe_op op_sub (pe_op op_pow pe_int pe_int) (pe_callR DD.ok r1 rfl DD.at_ DD.kp pass0 (pa_cons (pv 1) (pa_cons pe_int pa_nil)))) pa_nil)))
          (pe_op op_fdiv (pe_callR DD.ok r1 rfl DD.at_ DD.kp pass0 (pa_cons (pv 1) (pa_cons pe_int pa_nil))) pe_int) (fun _ _ => rfl)))
        (pss_cons (ps_set (i := 4) scLaw.nd rfl (.inl rfl) (pe_callR DR.ok r2 rfl DR.at_ DR.kp pass0 (pa_cons (pv 1) (pa_cons pe_int (pa_cons (pv 3) pa_nil)))))
        (pss_cons (ps_set (i := 5) scLaw.nd rfl (.inl rfl) (pe_callR DT.ok r4 rfl DT.at_ DT.kp pass0 (pa_cons (pe_callR DP.ok hr rfl DP.at_ DP.kp pass0 (pa_cons (pv 4) pa_nil)) (pa_cons (pv 3) pa_nil))))
        (pss_cons (ps_if (PW.pt (pw_or (pt_not (pt_val (pe_callB call_isi (by rfl) B.isinstance (by decide +kernel) (pa_cons (pv 5) (pa_cons (pe_bltn (v := .ty "tuple") (by rfl) B.tuple (by decide +kernel) rfl) pa_nil)))))
            (pw_or1 (pt_not (pt_chain3 op_le op_le op_le pe_int (pe_ix ix_tup (pv 5) pe_int (fun _ _ => rfl)) (pe_ix ix_tup (pv 5) pe_int (fun _ _ => rfl)) (pv 3)))))) (pss_one (ps_ret pe_bl)) pss_nil)
        (pss_cons (ps_if (PW.pt (pw_and (pt_cmpR op_eq (pe_ix ix_tup (pv 5) pe_int (fun _ _ => rfl)) (pe_ix ix_tup (pv 5) pe_int (fun _ _ => rfl)) (nomark _)) (pw_and1 (pt_cmpR op_isN (pe_ix ix_tup (pv 5) pe_int (fun _ _ => rfl)) pe_non (nomark _))))) (pss_one (ps_ret pe_bl)) pss_nil)
        (pss_cons (ps_if (pt_cmpR op_ne (pe_ix ix_tup (pv 5) pe_int (fun _ _ => rfl)) (pe_cmpR op_eq (pe_op op_mod (pe_callB call_len_seq (by rfl) B.len PySem.boot_len (pa_cons
            (pe_lc (own := [("_law_step", 8)]) (g := gName 8) (tt := ttTurn K) rfl scLaw.nd (pi_list (pv 4)) (blkOk_by (N := nLaw) (sc := defScope sLaw) (by decide +kernel))
              (fun _ _ _ _ _ => pg_name (i := 8) scLaw.nd rfl (.inl rfl)) (fun _ _ _ _ _ => by exact (pts_one (pt_cmpR (op_eqD hr.units) (pv 8) (pe_tup (pa_cons pe_str pa_nil)) (nomark _)))) (fun _ _ _ _ _ => pv 8)) pa_nil)) pe_int) pe_int (nomark _)) (nomark _)) (pss_one (ps_ret pe_bl)) pss_nil)
        (pss_cons (ps_set (i := 6) scLaw.nd rfl (.inl rfl) (pe_op op_cat (pe_lc (own := [("_law_k", 9)]) (g := gName 9) (tt := tYes) (te := teDraw K) rfl scLaw.nd (pi_range1 rfl B.range (pa_cons pe_int pa_nil)) (blkOk_by (N := nLaw) (sc := defScope sLaw) (by decide +kernel))
              (fun _ _ _ _ _ => pg_name (i := 9) scLaw.nd rfl (.inl rfl)) (fun _ _ _ _ _ => pts_nil) (fun _ _ _ _ _ => by exact (pe_callR DD.ok r1 rfl DD.at_ DD.kp pass0 (pa_cons (pv 1) (pa_cons (pe_op op_add (pv 3) pe_int) pa_nil)))))
            (pe_lst (pa_cons pe_int (pa_cons (pv 3) (pa_cons (pe_ix ix_tup (pv 5) pe_int (fun _ _ => rfl)) pa_nil))))))
        (pss_cons (ps_if (pt_cmpR op_lt (pv 3) pe_int (nomark _)) (pss_one (ps_set (i := 6) scLaw.nd rfl (.inl rfl) (pe_listRg rfl rfl B.list (prg_1 rfl B.range (pe_op op_add (pv 3) pe_int))))) pss_nil)
        (pss_one (ps_for PassesOwn.never rfl (pi_list (pv 6)) (pg_name (i := 7) scLaw.nd rfl (.inl rfl))
          (pss_one (ps_if (pt_not (pt_val (pe_callR DA.ok r2 rfl DA.at_ DA.kp pass0 (pa_cons (pv 5) (pa_cons (pv 4) (pa_cons (pv 3) (pa_cons (pv 7) pa_nil))))))) (pss_one (ps_ret pe_bl)) pss_nil)))))))))))))
      (pss_one (ps_ret pe_bl))), ?_⟩
    refine ⟨_, rfl, a, ns, rfl, hF, hlen, fun st H1 _ s1 D1 => ?_⟩
    refine ⟨6, rfl, by decide, by decide, for_range (lo := 0) (n := 6) (fun i σ H' => ∃ (x2 x3 x4 x5 x6 x7 : Option V), σ = [some (.ref a), some (.ref st), x2, x3, x4, x5, x6, x7, none, none] ∧ DrawAt K H' st) ⟨none, none, none, none, none, none, rfl, D1⟩ ?_ ?_⟩
    · rintro i0 σ H2 hi ⟨x2, x3, x4, x5, x6, x7, rfl, D2⟩
      -- the house
      have ten : (10 : Int) ^ (18 : Int).toNat = 1000000000000000000 := by decide
      refine ⟨_, rfl, st, 13, rfl, D2, by decide, by decide, fun ra H3 a0 a1 D3 b3 => ?_⟩
      refine ⟨_, _, rfl, rfl, ⟨by decide, by decide, by decide⟩, _, rfl, st, 9, rfl, D3, by decide, by decide, fun rb H4 q0 q1 D4 b4 => ⟨_, _, rfl, rfl, by show 2 ≤ sizeLine; decide, fun l2 hl2 => ?_⟩⟩
      have ns2 : l2 ≠ st := let ⟨_, e⟩ := D4.lst; (ne_of_none e hl2).symm
      refine ⟨_, rfl, st, 3, rfl, D4.same (same_upd hl2), by decide, by decide, fun rc H5 c0 c1 D5 b5 => ⟨_, _, rfl, rfl, ⟨by decide, by decide⟩, ?_⟩⟩
      obtain ⟨c, hc, c00, c01⟩ : ∃ c, atI [V.int ra, V.int (10 ^ (18 : Int).toNat - rb)] (rc / 2) = some (V.int c) ∧ 0 ≤ c ∧ c ≤ 1000000000000000000 := by
        have : rc / 2 = ((0 : Nat) : Int) ∨ rc / 2 = ((1 : Nat) : Int) := by omega
        rcases this with z | z
        · exact ⟨ra, at_of z rfl, a0, by omega⟩
        · exact ⟨_, at_of z rfl, by rw [ten]; omega, by rw [ten]; omega⟩
      refine ⟨l2, _, _, _, rfl, rfl, SqL.of (b5 _ _ ns2 upd_same), hc, ?_⟩
      -- the steps, the plan, what is told of it
      refine ⟨_, rfl, _, rfl, st, 9, c, rfl, D5, by decide, by decide, c00, c01, fun l ws ss H6 hl0 hl6 hs6 hn ho D6 b6 => ?_⟩
      have nl : l ≠ st := let ⟨_, e⟩ := D5.lst; (ne_of_none e hl0).symm
      refine ⟨_, rfl, l, ws, ss, rfl, hl6, hs6, by omega, fun z hz => (ho z hz).mono c01, fun p H7 s7 hp => ?_⟩
      refine ⟨_, rfl, p, ss, c, rfl, hp, c00, c01, ho, by omega, fun q H8 s8 hq8 => ?_⟩
      have hl8 := s8 _ _ (s7 _ _ hl6)
      have hs8 := (hs6.same s7).same s8
      have D8 := (D6.same s7).same s8
      have hne := (smEnd_says (smSteps_says (Int.le_refl 0) c00 ss ho).1 (smSteps_says (Int.le_refl 0) c00 ss ho).2)
      have okk := hne.1
      have says : ∀ x, 0 ≤ x → x ≤ c → SmSays (smEnd (smSteps c ss)) x (stepsF c ss (x, 0)).2 (placeF c (sideF (smEnd (smSteps c ss)).turned) (stepsF c ss (x, 0)).1) := fun x x0 x1 => by
        obtain ⟨_, g1, _, g2⟩ := smEnd_says (smSteps_says x0 x1 ss ho).1 (smSteps_says x0 x1 ss ho).2
        rw [g2]
        exact g1
      have hgoal := hne.2.2.1
      have htur : (smEnd (smSteps c ss)).turned = decide (turnsF ss % 2 = 1) := hne.2.2.2.trans (turned_is c ss)
      clear hne
      generalize smEnd (smSteps c ss) = m at *
      -- told is a tuple, in order
      refine ⟨_, rfl, _, _, _, _, true, rfl, .ty "tuple", .base (.tup hq8), kit_ty (by decide +kernel), true, rfl, ?_⟩
      refine iteF ⟨_, rfl, q, _, _, _, rfl, rfl, SqT.of hq8, at_of (j := 0) rfl rfl, _, _, rfl, rfl, _, rfl, ?_⟩
      refine ifT (decide_eq_true okk.l0) ⟨_, rfl, q, _, _, _, rfl, rfl, SqT.of hq8, at_of (j := 1) rfl rfl, _, _, rfl, rfl, _, rfl, ?_⟩
      refine ifT (decide_eq_true okk.lh) ⟨_, rfl, _, _, rfl, rfl, _, rfl, ?_⟩
      refine iteNS okk.h1 ?_
      -- a range of one has a goal
      refine ⟨_, rfl, q, _, _, _, rfl, rfl, SqT.of hq8, at_of (j := 0) rfl rfl, _, rfl, q, _, _, _, rfl, rfl, SqT.of hq8, at_of (j := 1) rfl rfl, rfl, _, rfl, ?_⟩
      by_cases hlh : V.int m.low = V.int m.high
      · refine ifT (decide_eq_true hlh) ⟨_, rfl, q, _, _, _, rfl, rfl, SqT.of hq8, at_of (j := 3) rfl rfl, rfl, _, rfl, ?_⟩
        refine ifF ?_ ?_
        · have hg := hgoal (by injection hlh)
          cases hgg : m.goal with
          | none => exact absurd hgg hg
          | some z => simp [goalV]
        -- the turns
        refine ⟨_, rfl, q, _, _, _, rfl, rfl, SqT.of hq8, at_of (j := 4) rfl rfl, _, rfl, l, rfl, ⟨_, SqL.of hl8⟩, fun Dc hDc => ?_⟩
        refine lc_list (K := K) (a := l) (xs := ws) (fun i H' => Same H8 H' ∧ ∃ vs, H' Dc = some (.lst vs) ∧ vs.length = turnsF (ss.take i)) ⟨same_upd hDc, [], upd_same, rfl⟩ (fun i H' _ ⟨sx, _⟩ => SqL.of (sx _ _ hl8)) ?_ ?_
        · rintro j x Hx hx ⟨sx, vs, ex, nx⟩
          obtain ⟨sp, hsp, t, rfl, ht0⟩ := hs8.get hx
          have ht := sx _ _ ht0
          have jl : j < ss.length := (List.getElem?_eq_some_iff.mp hsp).1
          have et : turnsF (ss.take (j + 1)) = turnsF (ss.take j) + (match sp with | .turn => 1 | .meet _ _ => 0) := by
            rw [take_more hsp]
            unfold turnsF
            rw [List.filter_append, List.length_append]
            cases sp <;> rfl
          have tl : turnsF (ss.take j) ≤ j := by
            unfold turnsF
            exact Nat.le_trans (List.length_filter_le _ _) (by rw [List.length_take]; omega)
          refine ⟨rfl, _, rfl, by show 1 ≤ sizeLine; decide, fun pt hpt => ?_⟩
          have sy : Same Hx (upd Hx pt (.tup [.str "turn"])) := same_upd hpt
          cases sp with
          | turn =>
            refine ⟨.tuple [.str "turn"], .tuple [.str "turn"], .tup (SqT.of (sy _ _ ht)) (.cons (.str _) .nil), .tup (SqT.of upd_same) (.cons (.str _) .nil), by decide +kernel, by decide +kernel, _, rfl, ?_⟩
            refine ifT eqv_turn ⟨_, rfl, vs, sy _ _ ex, small_line (n := 2000) (by rw [nx]; omega) (by omega), same_new hDc (sx.trans sy), _, upd_same, ?_⟩
            rw [List.length_append, nx, et]
            rfl
          | meet bb nn =>
            refine ⟨.tuple [.str (roomS bb), .int nn], .tuple [.str "turn"], .tup (SqT.of (sy _ _ ht)) (.cons (.str _) (.cons (.int _) .nil)), .tup (SqT.of upd_same) (.cons (.str _) .nil), shaped_meet bb nn, by decide +kernel, _, rfl, ?_⟩
            refine ifF (eqv_meet bb nn) ⟨sx.trans sy, vs, sy _ _ ex, ?_⟩
            rw [nx, et]
            rfl
        rintro Hx ⟨sx, vs, ex, nx⟩
        rw [hs8.length, List.take_length] at nx
        refine ⟨Dc, vs, rfl, .inl (SqL.of ex), _, _, rfl, rfl, (by show (0 : Int) < 2; decide), rfl, rfl, _, rfl, iteNS ?_ ?_⟩
        · rw [htur, nx]
          congr 1
          by_cases hz : turnsF ss % 2 = 1
          · rw [decide_eq_true hz]
            exact (decide_eq_true (show V.int ((turnsF ss : Nat) % 2 : Int) = V.int 1 from congrArg V.int (by omega))).symm
          · rw [decide_eq_false hz]
            exact (decide_eq_false (by intro z; injection z with z; omega)).symm
        have hqx := sx _ _ hq8
        have hlx := sx _ _ hl8
        have hsx := hs8.same sx
        have Dx := D8.same sx
        -- the starts that are drawn
        refine ⟨6, rfl, by decide, by decide, fun Ds hDs => ?_⟩
        have nsD : st ≠ Ds := let ⟨_, e⟩ := Dx.lst; ne_of_none e hDs
        refine lc_range (lo := 0) (n := 6) (fun i H' => But st Hx H' ∧ DrawAt K H' st ∧ ∃ ns : List Int, H' Ds = some (.lst (ns.map V.int)) ∧ ns.length = i ∧ ∀ z ∈ ns, 0 ≤ z ∧ z ≤ c) ⟨But.of (same_upd hDs), Dx.same (same_upd hDs), [], upd_same, rfl, by simp⟩ ?_ ?_
        · rintro j Hy hj ⟨by_, Dy, zs, ey, ny, zy⟩
          refine ⟨rfl, _, rfl, _, rfl, _, _, rfl, rfl, st, c + 1, rfl, Dy, by omega, by omega, fun r Hz r0 r1' Dz bz => ?_⟩
          have ez := bz _ _ nsD.symm ey
          refine ⟨_, ez, small_line (n := 2000) (by rw [List.length_map, ny]; omega) (by omega), fun b o n e => ?_, Dz.but but_upd ⟨_, ez⟩ nsD, zs ++ [r], upd_lst ?_, ?_, fun z hz => ?_⟩
          · rw [upd_ne (ne_of_none e hDs)]
            exact bz b o n (by_ b o n e)
          · rw [List.map_append]
            rfl
          · rw [List.length_append, ny]
            rfl
          · rcases List.mem_append.mp hz with z1 | z1
            · exact zy z z1
            · rw [List.mem_singleton.mp z1]
              omega
        rintro Hy ⟨by_, Dy, zs, ey, ny, zy⟩
        have qst : q ≠ st := let ⟨_, e⟩ := Dx.lst; ne_of hqx e (fun z => nomatch z)
        have hqy := by_ _ _ qst hqx
        have hly := by_ _ _ nl hlx
        have hsy := hsx.but by_ Dx.lst
        refine ⟨_, rfl, _, rfl, q, _, _, _, rfl, rfl, SqT.of hqy, at_of (j := 0) rfl rfl, by show 3 ≤ sizeLine; decide, fun lz hlz => ?_⟩
        refine ⟨Ds, lz, _, _, rfl, rfl, (same_upd hlz) _ _ ey, upd_same, by rw [List.length_map, ny]; show 6 + 3 ≤ sizeLine; decide, fun lp hlp => ?_⟩
        have sp2 := (same_upd (o := .lst [.int 0, .int c, .int m.low]) hlz).trans (same_upd (o := .lst (zs.map V.int ++ [.int 0, .int c, .int m.low])) hlp)
        generalize hHp : upd (upd Hy lz (.lst [.int 0, .int c, .int m.low])) lp (.lst (zs.map V.int ++ [.int 0, .int c, .int m.low])) = Hp2 at *
        have elp : Hp2 lp = some (.lst ((zs ++ [0, c, m.low]).map V.int)) := by
          rw [← hHp, List.map_append]
          exact upd_same
        have zlp : ∀ z ∈ zs ++ [0, c, m.low], 0 ≤ z ∧ z ≤ c := fun z hz => by
          rcases List.mem_append.mp hz with z1 | z1
          · exact zy z z1
          · have l0 := okk.l0
            have l1 := okk.lh
            have l2 := okk.h1
            simp at z1
            omega
        have hqp := sp2 _ _ hqy
        have hlp2 := sp2 _ _ hly
        have hsp2 := hsy.same sp2
        have Dp2 := Dy.same sp2
        clear sp2 hHp
        refine ⟨_, rfl, _, _, rfl, rfl, _, rfl, ?_⟩
        by_cases h20 : c < 20
        · refine ifT (decide_eq_true h20) ⟨_, rfl, _, _, rfl, rfl, _, rfl, RgOk.of_le (by omega) (by omega) (by omega) (by omega), fun lr hlr => ?_⟩
          have sr : Same Hp2 (upd Hp2 lr (.lst (rgV 0 (c + 1)))) := same_upd hlr
          have er : rgV 0 (c + 1) = ((List.range (c + 1 - 0).toNat).map fun (i : Nat) => 0 + (i : Int)).map V.int := by
            unfold rgV
            rw [List.map_map]
            rfl
          have zr : ∀ z ∈ (List.range (c + 1 - 0).toNat).map fun (i : Nat) => 0 + (i : Int), 0 ≤ z ∧ z ≤ c := fun z hz => by
            obtain ⟨i, hi, rfl⟩ := List.mem_map.mp hz
            rw [List.mem_range] at hi
            omega
          have elr : upd Hp2 lr (.lst (rgV 0 (c + 1))) lr = some (.lst (((List.range (c + 1 - 0).toNat).map fun (i : Nat) => 0 + (i : Int)).map V.int)) := upd_lst er
          generalize (List.range (c + 1 - 0).toNat).map (fun (i : Nat) => 0 + (i : Int)) = nr at *
          refine ⟨_, rfl, lr, rfl, ⟨_, SqL.of elr⟩, for_list (K := K) (a := lr) (xs := nr.map V.int) (fun i σ H' => ∃ (x7 : Option V), σ = [some (.ref a), some (.ref st), some (.int (0 + (i0 : Int))), some (.int c), some (.ref l), some (.ref q), some (.ref lr), x7, none, none] ∧ Same (upd Hp2 lr (.lst (rgV 0 (c + 1)))) H')
            ⟨x7, rfl, Same.refl _⟩ (fun i σ H' _ ⟨_, _, sz⟩ => SqL.of (sz _ _ elr)) ?_ ?_⟩
          · rintro j y σ Hj hj ⟨x7, rfl, sj⟩
            rw [List.getElem?_map] at hj
            obtain ⟨z, hz, rfl⟩ : ∃ z, nr[j]? = some z ∧ y = V.int z := by
              cases e : nr[j]? with
              | none =>
                rw [e] at hj
                cases hj
              | some z =>
                rw [e] at hj
                exact ⟨z, rfl, (Option.some.inj hj).symm⟩
            obtain ⟨z0, z1⟩ := zr z (List.mem_of_getElem? hz)
            refine ⟨_, rfl, _, rfl, _, rfl, _, rfl, q, l, m, ws, ss, c, z, rfl, sj _ _ (sr _ _ hqp), sj _ _ (sr _ _ hlp2), (hsp2.same sr).same sj, by omega, okk.lh, says z z0 z1, fun Hk sk => ⟨_, rfl, ?_⟩⟩
            exact iteF ⟨_, rfl, sj.trans sk⟩
          · rintro σ Hj ⟨x7, rfl, sj⟩
            exact ⟨_, _, _, _, _, _, rfl, (Dp2.same sr).same sj⟩
        · refine ifF (decide_eq_false h20) ?_
          refine ⟨_, rfl, lp, rfl, ⟨_, SqL.of elp⟩, for_list (K := K) (a := lp) (xs := (zs ++ [0, c, m.low]).map V.int) (fun i σ H' => ∃ (x7 : Option V), σ = [some (.ref a), some (.ref st), some (.int (0 + (i0 : Int))), some (.int c), some (.ref l), some (.ref q), some (.ref lp), x7, none, none] ∧ Same Hp2 H')
            ⟨x7, rfl, Same.refl _⟩ (fun i σ H' _ ⟨_, _, sz⟩ => SqL.of (sz _ _ elp)) ?_ ?_⟩
          · rintro j y σ Hj hj ⟨x7, rfl, sj⟩
            rw [List.getElem?_map] at hj
            obtain ⟨z, hz, rfl⟩ : ∃ z, (zs ++ [0, c, m.low])[j]? = some z ∧ y = V.int z := by
              cases e : (zs ++ [0, c, m.low])[j]? with
              | none =>
                rw [e] at hj
                cases hj
              | some z =>
                rw [e] at hj
                exact ⟨z, rfl, (Option.some.inj hj).symm⟩
            obtain ⟨z0, z1⟩ := zlp z (List.mem_of_getElem? hz)
            refine ⟨_, rfl, _, rfl, _, rfl, _, rfl, q, l, m, ws, ss, c, z, rfl, sj _ _ hqp, sj _ _ hlp2, hsp2.same sj, by omega, okk.lh, says z z0 z1, fun Hk sk => ⟨_, rfl, ?_⟩⟩
            exact iteF ⟨_, rfl, sj.trans sk⟩
          · rintro σ Hj ⟨x7, rfl, sj⟩
            exact ⟨_, _, _, _, _, _, rfl, Dp2.same sj⟩
      · refine ifF (decide_eq_false hlh) ?_
        refine iteF ?_
        -- the turns
        refine ⟨_, rfl, q, _, _, _, rfl, rfl, SqT.of hq8, at_of (j := 4) rfl rfl, _, rfl, l, rfl, ⟨_, SqL.of hl8⟩, fun Dc hDc => ?_⟩
        refine lc_list (K := K) (a := l) (xs := ws) (fun i H' => Same H8 H' ∧ ∃ vs, H' Dc = some (.lst vs) ∧ vs.length = turnsF (ss.take i)) ⟨same_upd hDc, [], upd_same, rfl⟩ (fun i H' _ ⟨sx, _⟩ => SqL.of (sx _ _ hl8)) ?_ ?_
        · rintro j x Hx hx ⟨sx, vs, ex, nx⟩
          obtain ⟨sp, hsp, t, rfl, ht0⟩ := hs8.get hx
          have ht := sx _ _ ht0
          have jl : j < ss.length := (List.getElem?_eq_some_iff.mp hsp).1
          have et : turnsF (ss.take (j + 1)) = turnsF (ss.take j) + (match sp with | .turn => 1 | .meet _ _ => 0) := by
            rw [take_more hsp]
            unfold turnsF
            rw [List.filter_append, List.length_append]
            cases sp <;> rfl
          have tl : turnsF (ss.take j) ≤ j := by
            unfold turnsF
            exact Nat.le_trans (List.length_filter_le _ _) (by rw [List.length_take]; omega)
          refine ⟨rfl, _, rfl, by show 1 ≤ sizeLine; decide, fun pt hpt => ?_⟩
          have sy : Same Hx (upd Hx pt (.tup [.str "turn"])) := same_upd hpt
          cases sp with
          | turn =>
            refine ⟨.tuple [.str "turn"], .tuple [.str "turn"], .tup (SqT.of (sy _ _ ht)) (.cons (.str _) .nil), .tup (SqT.of upd_same) (.cons (.str _) .nil), by decide +kernel, by decide +kernel, _, rfl, ?_⟩
            refine ifT eqv_turn ⟨_, rfl, vs, sy _ _ ex, small_line (n := 2000) (by rw [nx]; omega) (by omega), same_new hDc (sx.trans sy), _, upd_same, ?_⟩
            rw [List.length_append, nx, et]
            rfl
          | meet bb nn =>
            refine ⟨.tuple [.str (roomS bb), .int nn], .tuple [.str "turn"], .tup (SqT.of (sy _ _ ht)) (.cons (.str _) (.cons (.int _) .nil)), .tup (SqT.of upd_same) (.cons (.str _) .nil), shaped_meet bb nn, by decide +kernel, _, rfl, ?_⟩
            refine ifF (eqv_meet bb nn) ⟨sx.trans sy, vs, sy _ _ ex, ?_⟩
            rw [nx, et]
            rfl
        rintro Hx ⟨sx, vs, ex, nx⟩
        rw [hs8.length, List.take_length] at nx
        refine ⟨Dc, vs, rfl, .inl (SqL.of ex), _, _, rfl, rfl, (by show (0 : Int) < 2; decide), rfl, rfl, _, rfl, iteNS ?_ ?_⟩
        · rw [htur, nx]
          congr 1
          by_cases hz : turnsF ss % 2 = 1
          · rw [decide_eq_true hz]
            exact (decide_eq_true (show V.int ((turnsF ss : Nat) % 2 : Int) = V.int 1 from congrArg V.int (by omega))).symm
          · rw [decide_eq_false hz]
            exact (decide_eq_false (by intro z; injection z with z; omega)).symm
        have hqx := sx _ _ hq8
        have hlx := sx _ _ hl8
        have hsx := hs8.same sx
        have Dx := D8.same sx
        -- the starts that are drawn
        refine ⟨6, rfl, by decide, by decide, fun Ds hDs => ?_⟩
        have nsD : st ≠ Ds := let ⟨_, e⟩ := Dx.lst; ne_of_none e hDs
        refine lc_range (lo := 0) (n := 6) (fun i H' => But st Hx H' ∧ DrawAt K H' st ∧ ∃ ns : List Int, H' Ds = some (.lst (ns.map V.int)) ∧ ns.length = i ∧ ∀ z ∈ ns, 0 ≤ z ∧ z ≤ c) ⟨But.of (same_upd hDs), Dx.same (same_upd hDs), [], upd_same, rfl, by simp⟩ ?_ ?_
        · rintro j Hy hj ⟨by_, Dy, zs, ey, ny, zy⟩
          refine ⟨rfl, _, rfl, _, rfl, _, _, rfl, rfl, st, c + 1, rfl, Dy, by omega, by omega, fun r Hz r0 r1' Dz bz => ?_⟩
          have ez := bz _ _ nsD.symm ey
          refine ⟨_, ez, small_line (n := 2000) (by rw [List.length_map, ny]; omega) (by omega), fun b o n e => ?_, Dz.but but_upd ⟨_, ez⟩ nsD, zs ++ [r], upd_lst ?_, ?_, fun z hz => ?_⟩
          · rw [upd_ne (ne_of_none e hDs)]
            exact bz b o n (by_ b o n e)
          · rw [List.map_append]
            rfl
          · rw [List.length_append, ny]
            rfl
          · rcases List.mem_append.mp hz with z1 | z1
            · exact zy z z1
            · rw [List.mem_singleton.mp z1]
              omega
        rintro Hy ⟨by_, Dy, zs, ey, ny, zy⟩
        have qst : q ≠ st := let ⟨_, e⟩ := Dx.lst; ne_of hqx e (fun z => nomatch z)
        have hqy := by_ _ _ qst hqx
        have hly := by_ _ _ nl hlx
        have hsy := hsx.but by_ Dx.lst
        refine ⟨_, rfl, _, rfl, q, _, _, _, rfl, rfl, SqT.of hqy, at_of (j := 0) rfl rfl, by show 3 ≤ sizeLine; decide, fun lz hlz => ?_⟩
        refine ⟨Ds, lz, _, _, rfl, rfl, (same_upd hlz) _ _ ey, upd_same, by rw [List.length_map, ny]; show 6 + 3 ≤ sizeLine; decide, fun lp hlp => ?_⟩
        have sp2 := (same_upd (o := .lst [.int 0, .int c, .int m.low]) hlz).trans (same_upd (o := .lst (zs.map V.int ++ [.int 0, .int c, .int m.low])) hlp)
        generalize hHp : upd (upd Hy lz (.lst [.int 0, .int c, .int m.low])) lp (.lst (zs.map V.int ++ [.int 0, .int c, .int m.low])) = Hp2 at *
        have elp : Hp2 lp = some (.lst ((zs ++ [0, c, m.low]).map V.int)) := by
          rw [← hHp, List.map_append]
          exact upd_same
        have zlp : ∀ z ∈ zs ++ [0, c, m.low], 0 ≤ z ∧ z ≤ c := fun z hz => by
          rcases List.mem_append.mp hz with z1 | z1
          · exact zy z z1
          · have l0 := okk.l0
            have l1 := okk.lh
            have l2 := okk.h1
            simp at z1
            omega
        have hqp := sp2 _ _ hqy
        have hlp2 := sp2 _ _ hly
        have hsp2 := hsy.same sp2
        have Dp2 := Dy.same sp2
        clear sp2 hHp
        refine ⟨_, rfl, _, _, rfl, rfl, _, rfl, ?_⟩
        by_cases h20 : c < 20
        · refine ifT (decide_eq_true h20) ⟨_, rfl, _, _, rfl, rfl, _, rfl, RgOk.of_le (by omega) (by omega) (by omega) (by omega), fun lr hlr => ?_⟩
          have sr : Same Hp2 (upd Hp2 lr (.lst (rgV 0 (c + 1)))) := same_upd hlr
          have er : rgV 0 (c + 1) = ((List.range (c + 1 - 0).toNat).map fun (i : Nat) => 0 + (i : Int)).map V.int := by
            unfold rgV
            rw [List.map_map]
            rfl
          have zr : ∀ z ∈ (List.range (c + 1 - 0).toNat).map fun (i : Nat) => 0 + (i : Int), 0 ≤ z ∧ z ≤ c := fun z hz => by
            obtain ⟨i, hi, rfl⟩ := List.mem_map.mp hz
            rw [List.mem_range] at hi
            omega
          have elr : upd Hp2 lr (.lst (rgV 0 (c + 1))) lr = some (.lst (((List.range (c + 1 - 0).toNat).map fun (i : Nat) => 0 + (i : Int)).map V.int)) := upd_lst er
          generalize (List.range (c + 1 - 0).toNat).map (fun (i : Nat) => 0 + (i : Int)) = nr at *
          refine ⟨_, rfl, lr, rfl, ⟨_, SqL.of elr⟩, for_list (K := K) (a := lr) (xs := nr.map V.int) (fun i σ H' => ∃ (x7 : Option V), σ = [some (.ref a), some (.ref st), some (.int (0 + (i0 : Int))), some (.int c), some (.ref l), some (.ref q), some (.ref lr), x7, none, none] ∧ Same (upd Hp2 lr (.lst (rgV 0 (c + 1)))) H')
            ⟨x7, rfl, Same.refl _⟩ (fun i σ H' _ ⟨_, _, sz⟩ => SqL.of (sz _ _ elr)) ?_ ?_⟩
          · rintro j y σ Hj hj ⟨x7, rfl, sj⟩
            rw [List.getElem?_map] at hj
            obtain ⟨z, hz, rfl⟩ : ∃ z, nr[j]? = some z ∧ y = V.int z := by
              cases e : nr[j]? with
              | none =>
                rw [e] at hj
                cases hj
              | some z =>
                rw [e] at hj
                exact ⟨z, rfl, (Option.some.inj hj).symm⟩
            obtain ⟨z0, z1⟩ := zr z (List.mem_of_getElem? hz)
            refine ⟨_, rfl, _, rfl, _, rfl, _, rfl, q, l, m, ws, ss, c, z, rfl, sj _ _ (sr _ _ hqp), sj _ _ (sr _ _ hlp2), (hsp2.same sr).same sj, by omega, okk.lh, says z z0 z1, fun Hk sk => ⟨_, rfl, ?_⟩⟩
            exact iteF ⟨_, rfl, sj.trans sk⟩
          · rintro σ Hj ⟨x7, rfl, sj⟩
            exact ⟨_, _, _, _, _, _, rfl, (Dp2.same sr).same sj⟩
        · refine ifF (decide_eq_false h20) ?_
          refine ⟨_, rfl, lp, rfl, ⟨_, SqL.of elp⟩, for_list (K := K) (a := lp) (xs := (zs ++ [0, c, m.low]).map V.int) (fun i σ H' => ∃ (x7 : Option V), σ = [some (.ref a), some (.ref st), some (.int (0 + (i0 : Int))), some (.int c), some (.ref l), some (.ref q), some (.ref lp), x7, none, none] ∧ Same Hp2 H')
            ⟨x7, rfl, Same.refl _⟩ (fun i σ H' _ ⟨_, _, sz⟩ => SqL.of (sz _ _ elp)) ?_ ?_⟩
          · rintro j y σ Hj hj ⟨x7, rfl, sj⟩
            rw [List.getElem?_map] at hj
            obtain ⟨z, hz, rfl⟩ : ∃ z, (zs ++ [0, c, m.low])[j]? = some z ∧ y = V.int z := by
              cases e : (zs ++ [0, c, m.low])[j]? with
              | none =>
                rw [e] at hj
                cases hj
              | some z =>
                rw [e] at hj
                exact ⟨z, rfl, (Option.some.inj hj).symm⟩
            obtain ⟨z0, z1⟩ := zlp z (List.mem_of_getElem? hz)
            refine ⟨_, rfl, _, rfl, _, rfl, _, rfl, q, l, m, ws, ss, c, z, rfl, sj _ _ hqp, sj _ _ hlp2, hsp2.same sj, by omega, okk.lh, says z z0 z1, fun Hk sk => ⟨_, rfl, ?_⟩⟩
            exact iteF ⟨_, rfl, sj.trans sk⟩
          · rintro σ Hj ⟨x7, rfl, sj⟩
            exact ⟨_, _, _, _, _, _, rfl, Dp2.same sj⟩
    · rintro σ H2 ⟨x2, x3, x4, x5, x6, x7, rfl, D2⟩
      exact k H2
end
end Cc


namespace Cc
open PySem PySem.Spec PyProof.Rows L2

theorem dn_mk {P : Program} {w : World} {K : PySem.W.Frag} {mg : Str → Option Value} {base : Heap} {k : Nat} {x : Str} {f : Addr} {fd : FuncData} {ps : List Str} {sp : Sp} (a : mg x = some (.ref f)) (kp : PySem.W.keepIn K (.ref f) = true) (F : FnOk P w K mg base CX0 k f fd ps sp) (b : Binds K fd ps []) :
    Dn P w K mg base k x f sp := ⟨a, kp, (F.raw b .nil).imp fun vs H Q E h => by rw [List.append_nil]; exact h⟩
theorem all_mk {P : Program} {w : World} {K : PySem.W.Frag} {h : Heap} {mg : Str → Option Value} {fa C TU pS f_is_whole f_is_number f_check_number f_check_house f_is_step f__law_start f__law_drawn f__law_random_steps f__law_plan f__law_played f_allowed_range f_narrowed f_nearest f_effect_of f_summary f__law_agrees f_law fminit fmjoined fmst : Addr} (X : K.In h) (G : h.Ns mainGlobals mg) (hfa : mg "law" = some (.ref fa))
    {od_is_whole an_is_whole od_is_number an_is_number od_check_number an_check_number od_check_house an_check_house od_is_step an_is_step od__law_start an__law_start od__law_drawn an__law_drawn od__law_random_steps an__law_random_steps od__law_plan an__law_plan od__law_played an__law_played od_allowed_range an_allowed_range od_narrowed an_narrowed od_nearest an_nearest od_effect_of an_effect_of od_summary an_summary od__law_agrees an__law_agrees od_law an_law odminit anminit odmjoined anmjoined odmst anmst dT : Option Addr} {sl_is_whole sl_is_number sl_check_number sl_check_house sl_is_step sl__law_start sl__law_drawn sl__law_random_steps sl__law_plan sl__law_played sl_allowed_range sl_narrowed sl_nearest sl_effect_of sl_summary sl__law_agrees sl_law slminit slmjoined slmst slT : Array (Option Value)} {oc_is_whole kV_is_whole dc_is_whole pm_is_whole cd_is_whole ct_is_whole oc_is_number kV_is_number dc_is_number pm_is_number cd_is_number ct_is_number oc_check_number kV_check_number dc_check_number pm_check_number cd_check_number ct_check_number oc_check_house kV_check_house dc_check_house pm_check_house cd_check_house ct_check_house oc_is_step kV_is_step dc_is_step pm_is_step cd_is_step ct_is_step oc__law_start kV__law_start dc__law_start pm__law_start cd__law_start ct__law_start oc__law_drawn kV__law_drawn dc__law_drawn pm__law_drawn cd__law_drawn ct__law_drawn oc__law_random_steps kV__law_random_steps dc__law_random_steps pm__law_random_steps cd__law_random_steps ct__law_random_steps oc__law_plan kV__law_plan dc__law_plan pm__law_plan cd__law_plan ct__law_plan oc__law_played kV__law_played dc__law_played pm__law_played cd__law_played ct__law_played oc_allowed_range kV_allowed_range dc_allowed_range pm_allowed_range cd_allowed_range ct_allowed_range oc_narrowed kV_narrowed dc_narrowed pm_narrowed cd_narrowed ct_narrowed oc_nearest kV_nearest dc_nearest pm_nearest cd_nearest ct_nearest oc_effect_of kV_effect_of dc_effect_of pm_effect_of cd_effect_of ct_effect_of oc_summary kV_summary dc_summary pm_summary cd_summary ct_summary oc__law_agrees kV__law_agrees dc__law_agrees pm__law_agrees cd__law_agrees ct__law_agrees oc_law kV_law dc_law pm_law cd_law ct_law ocminit kVminit dcminit pmminit cdminit ctminit ocmjoined kVmjoined dcmjoined pmmjoined cdmjoined ctmjoined ocmst kVmst dcmst pmmst cdmst ctmst : Value} {rs : List Value} {t1 t2 t3 t4 : Tok} {nT : Nat}
    (a_is_whole : PySem.W.nsIn K mainGlobals "is_whole" = some (some (.ref f_is_whole)))
    (l_is_whole : K.lookup f_is_whole = some ⟨oc_is_whole, od_is_whole, .func (PySem.W.fnOf "is_whole" "is_whole" (defArgs sIsWhole) (defBody sIsWhole) (defScope sIsWhole) .none kV_is_whole dc_is_whole pm_is_whole an_is_whole cd_is_whole ct_is_whole), sl_is_whole⟩)
    (c_is_whole : PySem.W.codeIn K cd_is_whole "is_whole" = true)
    (k_is_whole : PySem.W.keepIn K (.ref f_is_whole) = true)
    (a_is_number : PySem.W.nsIn K mainGlobals "is_number" = some (some (.ref f_is_number)))
    (l_is_number : K.lookup f_is_number = some ⟨oc_is_number, od_is_number, .func (PySem.W.fnOf "is_number" "is_number" (defArgs sIsNum) (defBody sIsNum) (defScope sIsNum) .none kV_is_number dc_is_number pm_is_number an_is_number cd_is_number ct_is_number), sl_is_number⟩)
    (c_is_number : PySem.W.codeIn K cd_is_number "is_number" = true)
    (k_is_number : PySem.W.keepIn K (.ref f_is_number) = true)
    (a_check_number : PySem.W.nsIn K mainGlobals "check_number" = some (some (.ref f_check_number)))
    (l_check_number : K.lookup f_check_number = some ⟨oc_check_number, od_check_number, .func (PySem.W.fnOf "check_number" "check_number" (defArgs sChkNum) (defBody sChkNum) (defScope sChkNum) .none kV_check_number dc_check_number pm_check_number an_check_number cd_check_number ct_check_number), sl_check_number⟩)
    (c_check_number : PySem.W.codeIn K cd_check_number "check_number" = true)
    (k_check_number : PySem.W.keepIn K (.ref f_check_number) = true)
    (a_check_house : PySem.W.nsIn K mainGlobals "check_house" = some (some (.ref f_check_house)))
    (l_check_house : K.lookup f_check_house = some ⟨oc_check_house, od_check_house, .func (PySem.W.fnOf "check_house" "check_house" (defArgs sChkHouse) (defBody sChkHouse) (defScope sChkHouse) .none kV_check_house dc_check_house pm_check_house an_check_house cd_check_house ct_check_house), sl_check_house⟩)
    (c_check_house : PySem.W.codeIn K cd_check_house "check_house" = true)
    (k_check_house : PySem.W.keepIn K (.ref f_check_house) = true)
    (a_is_step : PySem.W.nsIn K mainGlobals "is_step" = some (some (.ref f_is_step)))
    (l_is_step : K.lookup f_is_step = some ⟨oc_is_step, od_is_step, .func (PySem.W.fnOf "is_step" "is_step" (defArgs sIsStep) (defBody sIsStep) (defScope sIsStep) .none kV_is_step dc_is_step pm_is_step an_is_step cd_is_step ct_is_step), sl_is_step⟩)
    (c_is_step : PySem.W.codeIn K cd_is_step "is_step" = true)
    (k_is_step : PySem.W.keepIn K (.ref f_is_step) = true)
    (a__law_start : PySem.W.nsIn K mainGlobals "_law_start" = some (some (.ref f__law_start)))
    (l__law_start : K.lookup f__law_start = some ⟨oc__law_start, od__law_start, .func (PySem.W.fnOf "_law_start" "_law_start" (defArgs sStart) (defBody sStart) (defScope sStart) .none kV__law_start dc__law_start pm__law_start an__law_start cd__law_start ct__law_start), sl__law_start⟩)
    (c__law_start : PySem.W.codeIn K cd__law_start "_law_start" = true)
    (k__law_start : PySem.W.keepIn K (.ref f__law_start) = true)
    (a__law_drawn : PySem.W.nsIn K mainGlobals "_law_drawn" = some (some (.ref f__law_drawn)))
    (l__law_drawn : K.lookup f__law_drawn = some ⟨oc__law_drawn, od__law_drawn, .func (PySem.W.fnOf "_law_drawn" "_law_drawn" (defArgs sDrawn) (defBody sDrawn) (defScope sDrawn) .none kV__law_drawn dc__law_drawn pm__law_drawn an__law_drawn cd__law_drawn ct__law_drawn), sl__law_drawn⟩)
    (c__law_drawn : PySem.W.codeIn K cd__law_drawn "_law_drawn" = true)
    (k__law_drawn : PySem.W.keepIn K (.ref f__law_drawn) = true)
    (a__law_random_steps : PySem.W.nsIn K mainGlobals "_law_random_steps" = some (some (.ref f__law_random_steps)))
    (l__law_random_steps : K.lookup f__law_random_steps = some ⟨oc__law_random_steps, od__law_random_steps, .func (PySem.W.fnOf "_law_random_steps" "_law_random_steps" (defArgs sRnd) (defBody sRnd) (defScope sRnd) .none kV__law_random_steps dc__law_random_steps pm__law_random_steps an__law_random_steps cd__law_random_steps ct__law_random_steps), sl__law_random_steps⟩)
    (c__law_random_steps : PySem.W.codeIn K cd__law_random_steps "_law_random_steps" = true)
    (k__law_random_steps : PySem.W.keepIn K (.ref f__law_random_steps) = true)
    (a__law_plan : PySem.W.nsIn K mainGlobals "_law_plan" = some (some (.ref f__law_plan)))
    (l__law_plan : K.lookup f__law_plan = some ⟨oc__law_plan, od__law_plan, .func (PySem.W.fnOf "_law_plan" "_law_plan" (defArgs sLPlan) (defBody sLPlan) (defScope sLPlan) .none kV__law_plan dc__law_plan pm__law_plan an__law_plan cd__law_plan ct__law_plan), sl__law_plan⟩)
    (c__law_plan : PySem.W.codeIn K cd__law_plan "_law_plan" = true)
    (k__law_plan : PySem.W.keepIn K (.ref f__law_plan) = true)
    (a__law_played : PySem.W.nsIn K mainGlobals "_law_played" = some (some (.ref f__law_played)))
    (l__law_played : K.lookup f__law_played = some ⟨oc__law_played, od__law_played, .func (PySem.W.fnOf "_law_played" "_law_played" (defArgs sPlayed) (defBody sPlayed) (defScope sPlayed) .none kV__law_played dc__law_played pm__law_played an__law_played cd__law_played ct__law_played), sl__law_played⟩)
    (c__law_played : PySem.W.codeIn K cd__law_played "_law_played" = true)
    (k__law_played : PySem.W.keepIn K (.ref f__law_played) = true)
    (a_allowed_range : PySem.W.nsIn K mainGlobals "allowed_range" = some (some (.ref f_allowed_range)))
    (l_allowed_range : K.lookup f_allowed_range = some ⟨oc_allowed_range, od_allowed_range, .func (PySem.W.fnOf "allowed_range" "allowed_range" (defArgs sAllow) (defBody sAllow) (defScope sAllow) .none kV_allowed_range dc_allowed_range pm_allowed_range an_allowed_range cd_allowed_range ct_allowed_range), sl_allowed_range⟩)
    (c_allowed_range : PySem.W.codeIn K cd_allowed_range "allowed_range" = true)
    (k_allowed_range : PySem.W.keepIn K (.ref f_allowed_range) = true)
    (a_narrowed : PySem.W.nsIn K mainGlobals "narrowed" = some (some (.ref f_narrowed)))
    (l_narrowed : K.lookup f_narrowed = some ⟨oc_narrowed, od_narrowed, .func (PySem.W.fnOf "narrowed" "narrowed" (defArgs sNarrow) (defBody sNarrow) (defScope sNarrow) .none kV_narrowed dc_narrowed pm_narrowed an_narrowed cd_narrowed ct_narrowed), sl_narrowed⟩)
    (c_narrowed : PySem.W.codeIn K cd_narrowed "narrowed" = true)
    (k_narrowed : PySem.W.keepIn K (.ref f_narrowed) = true)
    (a_nearest : PySem.W.nsIn K mainGlobals "nearest" = some (some (.ref f_nearest)))
    (l_nearest : K.lookup f_nearest = some ⟨oc_nearest, od_nearest, .func (PySem.W.fnOf "nearest" "nearest" (defArgs sNear) (defBody sNear) (defScope sNear) .none kV_nearest dc_nearest pm_nearest an_nearest cd_nearest ct_nearest), sl_nearest⟩)
    (c_nearest : PySem.W.codeIn K cd_nearest "nearest" = true)
    (k_nearest : PySem.W.keepIn K (.ref f_nearest) = true)
    (a_effect_of : PySem.W.nsIn K mainGlobals "effect_of" = some (some (.ref f_effect_of)))
    (l_effect_of : K.lookup f_effect_of = some ⟨oc_effect_of, od_effect_of, .func (PySem.W.fnOf "effect_of" "effect_of" (defArgs sEffect) (defBody sEffect) (defScope sEffect) .none kV_effect_of dc_effect_of pm_effect_of an_effect_of cd_effect_of ct_effect_of), sl_effect_of⟩)
    (c_effect_of : PySem.W.codeIn K cd_effect_of "effect_of" = true)
    (k_effect_of : PySem.W.keepIn K (.ref f_effect_of) = true)
    (a_summary : PySem.W.nsIn K mainGlobals "summary" = some (some (.ref f_summary)))
    (l_summary : K.lookup f_summary = some ⟨oc_summary, od_summary, .func (PySem.W.fnOf "summary" "summary" (defArgs s_summary) (defBody s_summary) (defScope s_summary) .none kV_summary dc_summary pm_summary an_summary cd_summary ct_summary), sl_summary⟩)
    (c_summary : PySem.W.codeIn K cd_summary "summary" = true)
    (k_summary : PySem.W.keepIn K (.ref f_summary) = true)
    (a__law_agrees : PySem.W.nsIn K mainGlobals "_law_agrees" = some (some (.ref f__law_agrees)))
    (l__law_agrees : K.lookup f__law_agrees = some ⟨oc__law_agrees, od__law_agrees, .func (PySem.W.fnOf "_law_agrees" "_law_agrees" (defArgs sAgrees) (defBody sAgrees) (defScope sAgrees) .none kV__law_agrees dc__law_agrees pm__law_agrees an__law_agrees cd__law_agrees ct__law_agrees), sl__law_agrees⟩)
    (c__law_agrees : PySem.W.codeIn K cd__law_agrees "_law_agrees" = true)
    (k__law_agrees : PySem.W.keepIn K (.ref f__law_agrees) = true)
    (a_law : PySem.W.nsIn K mainGlobals "law" = some (some (.ref f_law)))
    (l_law : K.lookup f_law = some ⟨oc_law, od_law, .func (PySem.W.fnOf "law" "law" (defArgs sLaw) (defBody sLaw) (defScope sLaw) .none kV_law dc_law pm_law an_law cd_law ct_law), sl_law⟩)
    (c_law : PySem.W.codeIn K cd_law "law" = true)
    (k_law : PySem.W.keepIn K (.ref f_law) = true)
    (aC : PySem.W.nsIn K mainGlobals "Plan" = some (some (.ref C)))
    (aminit : PySem.W.findIn K (.ref C) "__init__" = some (some (.ref fminit)))
    (iminit : PySem.W.isFn K (.ref fminit) = true)
    (lminit : K.lookup fminit = some ⟨ocminit, odminit, .func (PySem.W.fnOf "__init__" "Plan.__init__" (defArgs sInit) (defBody sInit) (defScope sInit) .none kVminit dcminit pmminit anminit cdminit ctminit), slminit⟩)
    (cminit : PySem.W.codeIn K cdminit "Plan.__init__" = true)
    (kminit : PySem.W.keepIn K (.ref fminit) = true)
    (amjoined : PySem.W.findIn K (.ref C) "joined" = some (some (.ref fmjoined)))
    (imjoined : PySem.W.isFn K (.ref fmjoined) = true)
    (lmjoined : K.lookup fmjoined = some ⟨ocmjoined, odmjoined, .func (PySem.W.fnOf "joined" "Plan.joined" (defArgs sJoined) (defBody sJoined) (defScope sJoined) .none kVmjoined dcmjoined pmmjoined anmjoined cdmjoined ctmjoined), slmjoined⟩)
    (cmjoined : PySem.W.codeIn K cdmjoined "Plan.joined" = true)
    (kmjoined : PySem.W.keepIn K (.ref fmjoined) = true)
    (pA : PySem.W.findIn K (.ref C) "steps" = some (some (.ref pS)))
    (pG : PySem.W.specialIn K (.ref pS) "__get__" = some (some (.builtin "property.__get__")))
    (pT : PySem.W.takesIn K (.ref pS) = some true)
    (pR : PySem.W.recIn K pS "property" = some (.ref fmst :: rs))
    (lmst : K.lookup fmst = some ⟨ocmst, odmst, .func (PySem.W.fnOf "steps" "Plan.steps" (defArgs sSteps) (defBody sSteps) (defScope sSteps) .none kVmst dcmst pmmst anmst cdmst ctmst), slmst⟩)
    (cmst : PySem.W.codeIn K cdmst "Plan.steps" = true)
    (kmst : PySem.W.keepIn K (.ref fmst) = true)
    (pg : PySem.W.plainGet K C Str.empty = true)
    (hd : PySem.W.hasDictIn K C = true)
    (po : PySem.W.plainOver K C = true)
    (sa : PySem.W.findIn K (.ref C) "__setattr__" = some (some (.builtin "object.__setattr__")))
    (mk : PySem.W.makesIn K C = true)
    (kc : PySem.W.keepIn K (.ref C) = true)
    (nS : PySem.W.findIn K (.ref C) "step_tuple" = some none)
    (rd : PySem.W.readsIn K C (.type "type") = true)
    (ga : PySem.W.specialIn K (.ref C) "__getattribute__" = some (some (.builtin "type.__getattribute__")))
    (v1 : PySem.W.findCls K (.ref C) (.type "type") "MAX_STEPS" = some (.val (.int 60 t1)))
    (v2 : PySem.W.findCls K (.ref C) (.type "type") "MAX_CHAIRS" = some (.val (.int 1000000000000000000 t2)))
    (w2 : PySem.W.findIn K (.ref C) "MAX_CHAIRS" = some (some (.int 1000000000000000000 t3)))
    (w3 : PySem.W.specialIn K (.int 1000000000000000000 t3) "__get__" = some none)
    (aT : PySem.W.nsIn K mainGlobals "TURN" = some (some (.ref TU)))
    (lT : K.lookup TU = some ⟨.type "tuple", dT, .seq #[.str "turn" t4] nT, slT⟩)
    (z0 : PySem.W.nsIn K mainGlobals "isinstance" = some none)
    (z1 : PySem.W.nsIn K mainGlobals "int" = some none)
    (z2 : PySem.W.nsIn K mainGlobals "bool" = some none)
    (z3 : PySem.W.nsIn K mainGlobals "tuple" = some none)
    (z4 : PySem.W.nsIn K mainGlobals "list" = some none)
    (z5 : PySem.W.nsIn K mainGlobals "len" = some none)
    (z6 : PySem.W.nsIn K mainGlobals "max" = some none)
    (z7 : PySem.W.nsIn K mainGlobals "min" = some none)
    (z8 : PySem.W.nsIn K mainGlobals "abs" = some none)
    (z9 : PySem.W.nsIn K mainGlobals "enumerate" = some none)
    (z10 : PySem.W.nsIn K mainGlobals "range" = some none)
    (z11 : PySem.W.nsIn K mainGlobals "sum" = some none)
    (z12 : PySem.W.nsIn K mainGlobals "sorted" = some none)
    (z13 : PySem.W.nsIn K mainGlobals "divmod" = some none)
    (z14 : PySem.W.nsIn K mainGlobals "zip" = some none)
    (z15 : PySem.W.nsIn K mainGlobals "str" = some none)
    : ∃ fd : FuncData, (∀ (s : Shared) (v : Value), BindsTo s fd ⟨[v], []⟩ [("_law_script", v)]) ∧ ∀ base : Heap, K.In base → base.Ns mainGlobals mg → FnOk P w K mg base CX0 7 fa fd ["_law_script"] (spLaw K) := by
  have e := hfa.symm.trans (PySem.W.mg_of X G a_law)
  cases e
  have Bb : Bt mg := ⟨PySem.W.mg_none_of X G z0, PySem.W.mg_none_of X G z1, PySem.W.mg_none_of X G z2, PySem.W.mg_none_of X G z3, PySem.W.mg_none_of X G z4, PySem.W.mg_none_of X G z5, PySem.W.mg_none_of X G z6, PySem.W.mg_none_of X G z7, PySem.W.mg_none_of X G z8, PySem.W.mg_none_of X G z9, PySem.W.mg_none_of X G z10, PySem.W.mg_none_of X G z11, PySem.W.mg_none_of X G z12, PySem.W.mg_none_of X G z13, PySem.W.mg_none_of X G z14, PySem.W.mg_none_of X G z15⟩
  have F_is_whole := fun_mk (st := sIsWhole) l_is_whole c_is_whole k_is_whole
  have F_is_number := fun_mk (st := sIsNum) l_is_number c_is_number k_is_number
  have F_check_number := fun_mk (st := sChkNum) l_check_number c_check_number k_check_number
  have F_check_house := fun_mk (st := sChkHouse) l_check_house c_check_house k_check_house
  have F_is_step := fun_mk (st := sIsStep) l_is_step c_is_step k_is_step
  have F__law_start := fun_mk (st := sStart) l__law_start c__law_start k__law_start
  have F__law_drawn := fun_mk (st := sDrawn) l__law_drawn c__law_drawn k__law_drawn
  have F__law_random_steps := fun_mk (st := sRnd) l__law_random_steps c__law_random_steps k__law_random_steps
  have F__law_plan := fun_mk (st := sLPlan) l__law_plan c__law_plan k__law_plan
  have F__law_played := fun_mk (st := sPlayed) l__law_played c__law_played k__law_played
  have F_allowed_range := fun_mk (st := sAllow) l_allowed_range c_allowed_range k_allowed_range
  have F_narrowed := fun_mk (st := sNarrow) l_narrowed c_narrowed k_narrowed
  have F_nearest := fun_mk (st := sNear) l_nearest c_nearest k_nearest
  have F_effect_of := fun_mk (st := sEffect) l_effect_of c_effect_of k_effect_of
  have F_summary := fun_mk (st := s_summary) l_summary c_summary k_summary
  have F__law_agrees := fun_mk (st := sAgrees) l__law_agrees c__law_agrees k__law_agrees
  have F_law := fun_mk (st := sLaw) l_law c_law k_law
  have Fminit := fun_mk (st := sInit) lminit cminit kminit
  have Fmjoined := fun_mk (st := sJoined) lmjoined cmjoined kmjoined
  have Fmst := fun_mk (st := sSteps) lmst cmst kmst
  have b_is_whole := F_is_whole.binds (ps := ["value"]) fun _ _ _ _ _ _ us hl => match us, hl with | [_], _ => rfl
  have b_is_number := F_is_number.binds (ps := ["value", "least", "most"]) fun _ _ _ _ _ _ us hl => match us, hl with | [_, _, _], _ => rfl
  have b_check_number := F_check_number.binds (ps := ["value", "least", "most"]) fun _ _ _ _ _ _ us hl => match us, hl with | [_, _, _], _ => rfl
  have b_check_house := F_check_house.binds (ps := ["plan", "chairs"]) fun _ _ _ _ _ _ us hl => match us, hl with | [_, _], _ => rfl
  have b_is_step := F_is_step.binds (ps := ["step"]) fun _ _ _ _ _ _ us hl => match us, hl with | [_], _ => rfl
  have b__law_start := F__law_start.binds (ps := ["_law_script"]) fun _ _ _ _ _ _ us hl => match us, hl with | [_], _ => rfl
  have b__law_drawn := F__law_drawn.binds (ps := ["_law_state", "_law_count"]) fun _ _ _ _ _ _ us hl => match us, hl with | [_, _], _ => rfl
  have b__law_random_steps := F__law_random_steps.binds (ps := ["_law_state", "_law_most", "_law_high"]) fun _ _ _ _ _ _ us hl => match us, hl with | [_, _, _], _ => rfl
  have b__law_plan := F__law_plan.binds (ps := ["_law_steps"]) fun _ _ _ _ _ _ us hl => match us, hl with | [_], _ => rfl
  have b__law_played := F__law_played.binds (ps := ["_law_steps", "_law_chairs", "_law_start_here"]) fun _ _ _ _ _ _ us hl => match us, hl with | [_, _, _], _ => rfl
  have b_allowed_range := F_allowed_range.binds (ps := ["step", "chairs", "turned"]) fun _ _ _ _ _ _ us hl => match us, hl with | [_, _, _], _ => rfl
  have b_narrowed := F_narrowed.binds (ps := ["low", "high", "least", "most"]) fun _ _ _ _ _ _ us hl => match us, hl with | [_, _, _, _], _ => rfl
  have b_nearest := F_nearest.binds (ps := ["number", "least", "most"]) fun _ _ _ _ _ _ us hl => match us, hl with | [_, _, _], _ => rfl
  have b_effect_of := F_effect_of.binds (ps := ["steps", "chairs"]) fun _ _ _ _ _ _ us hl => match us, hl with | [_, _], _ => rfl
  have b_summary := F_summary.binds (ps := ["plan", "chairs"]) fun _ _ _ _ _ _ us hl => match us, hl with | [_, _], _ => rfl
  have b__law_agrees := F__law_agrees.binds (ps := ["_law_told", "_law_steps", "_law_chairs", "_law_start_here"]) fun _ _ _ _ _ _ us hl => match us, hl with | [_, _, _, _], _ => rfl
  have bmst := Fmst.binds (ps := ["self"]) fun _ _ _ _ _ _ us hl => match us, hl with | [_], _ => rfl
  have Tt : Txt K mg C TU pS fmst (.type "type") := ⟨Bb, ⟨pg, hd, po, sa⟩, nS, PySem.W.mg_of X G aC, ⟨rd, ga⟩, ⟨_, v1, _, rfl⟩, ⟨_, v2, _, rfl⟩, ⟨_, w2, ⟨_, rfl⟩, w3, rfl⟩, PySem.W.mg_of X G aT,
    fun H => .inr ⟨_, _, _, lT, rfl, rfl, by show 1 ≤ sizeLine; decide, .cons ⟨_, rfl⟩ .nil⟩, ⟨pA, pG, pT, rs, pR⟩⟩
  refine ⟨PySem.W.fnOf "law" "law" (defArgs sLaw) (defBody sLaw) (defScope sLaw) .none kV_law dc_law pm_law an_law cd_law ct_law, fun s v => .of_eq rfl, fun base _ _ => ?_⟩
  have at_ := fun {x : Str} {f : Addr} (a : PySem.W.nsIn K mainGlobals x = some (some (.ref f))) => PySem.W.mg_of X G a
  have Gg : Gs P w K mg base C fmst _ := ⟨ok_steps Fmst Tt, bmst⟩
  have Mm : Mk K C fminit := ⟨mk, aminit, iminit, kc⟩
  have Mj : Meth K C "joined" fmjoined := ⟨amjoined, imjoined, kmjoined⟩
  have D_is_whole := dn_mk (P := P) (w := w) (base := base) (at_ a_is_whole) k_is_whole (ok_iswhole F_is_whole Bb) b_is_whole
  have D_is_number := dn_mk (P := P) (w := w) (base := base) (at_ a_is_number) k_is_number (ok_isnum F_is_number D_is_whole) b_is_number
  have D_check_number := dn_mk (P := P) (w := w) (base := base) (at_ a_check_number) k_check_number (ok_chknum F_check_number D_is_number) b_check_number
  have D_check_house := dn_mk (P := P) (w := w) (base := base) (at_ a_check_house) k_check_house (ok_chkhouse F_check_house Tt Gg D_check_number) b_check_house
  have D_is_step := dn_mk (P := P) (w := w) (base := base) (at_ a_is_step) k_is_step (ok_isstep F_is_step Tt D_is_number) b_is_step
  have GI := ok_init Fminit Tt D_is_step
  have GJ := ok_joined Fmjoined Tt Gg Mm GI
  have D__law_start := dn_mk (P := P) (w := w) (base := base) (at_ a__law_start) k__law_start (ok_start F__law_start ) b__law_start
  have D__law_drawn := dn_mk (P := P) (w := w) (base := base) (at_ a__law_drawn) k__law_drawn (ok_drawn F__law_drawn Bb) b__law_drawn
  have D__law_random_steps := dn_mk (P := P) (w := w) (base := base) (at_ a__law_random_steps) k__law_random_steps (ok_rnd F__law_random_steps Bb D__law_drawn) b__law_random_steps
  have D__law_plan := dn_mk (P := P) (w := w) (base := base) (at_ a__law_plan) k__law_plan (ok_lplan F__law_plan Tt Mm GI Mj GJ) b__law_plan
  have D__law_played := dn_mk (P := P) (w := w) (base := base) (at_ a__law_played) k__law_played (ok_played F__law_played Bb) b__law_played
  have D_allowed_range := dn_mk (P := P) (w := w) (base := base) (at_ a_allowed_range) k_allowed_range (ok_allow F_allowed_range ) b_allowed_range
  have D_narrowed := dn_mk (P := P) (w := w) (base := base) (at_ a_narrowed) k_narrowed (ok_narrow F_narrowed Bb) b_narrowed
  have D_nearest := dn_mk (P := P) (w := w) (base := base) (at_ a_nearest) k_nearest (ok_near F_nearest Bb) b_nearest
  have D_effect_of := dn_mk (P := P) (w := w) (base := base) (at_ a_effect_of) k_effect_of (ok_effect F_effect_of Tt D_allowed_range D_narrowed D_nearest) b_effect_of
  have D_summary := dn_mk (P := P) (w := w) (base := base) (at_ a_summary) k_summary (ok_summary F_summary Tt Gg D_check_house D_effect_of) b_summary
  have D__law_agrees := dn_mk (P := P) (w := w) (base := base) (at_ a__law_agrees) k__law_agrees (ok_agrees F__law_agrees Bb D__law_played) b__law_agrees
  exact ok_law F_law Bb D__law_start D__law_drawn D__law_random_steps D__law_plan D_summary D__law_agrees 
end Cc


open PySem PySem.W PyProof.Rows
set_option maxRecDepth 100000 in
set_option maxHeartbeats 0 in
theorem PySem.Challenge.cw_chaircarry_k04_whole_all_starts_holds : PySem.Challenge.rw_chaircarry_k04_whole_all_starts.Holds := by
  w_on; o_law; k_head; (case hw => w_witness2)
  k_fill
  refine L2.walk_of (l := PySem.Challenge.rw_chaircarry_k04_whole_all_starts) (n := 63) (k := 7) (x := "_law_script") (CX := fun _ => L2.CX0) (sp := fun w => Cc.spLaw _) rfl (by decide) rfl ⟨rfl, by decide, by decide⟩ (fun w h Y => PySem.W.kIn_of Y) ?F (fun _ _ a ns hl hO hS => ⟨a, ns, rfl, Cc.sqF_of hS hO, hl, fun _ => rfl⟩) fun _ _ _ _ _ z => z
  case F =>
    intro w mg fa h KX G hmg
    refine' Cc.all_mk KX G hmg ?a_is_whole ?l_is_whole ?c_is_whole ?k_is_whole ?a_is_number ?l_is_number ?c_is_number ?k_is_number ?a_check_number ?l_check_number ?c_check_number ?k_check_number ?a_check_house ?l_check_house ?c_check_house ?k_check_house ?a_is_step ?l_is_step ?c_is_step ?k_is_step ?a__law_start ?l__law_start ?c__law_start ?k__law_start ?a__law_drawn ?l__law_drawn ?c__law_drawn ?k__law_drawn ?a__law_random_steps ?l__law_random_steps ?c__law_random_steps ?k__law_random_steps ?a__law_plan ?l__law_plan ?c__law_plan ?k__law_plan ?a__law_played ?l__law_played ?c__law_played ?k__law_played ?a_allowed_range ?l_allowed_range ?c_allowed_range ?k_allowed_range ?a_narrowed ?l_narrowed ?c_narrowed ?k_narrowed ?a_nearest ?l_nearest ?c_nearest ?k_nearest ?a_effect_of ?l_effect_of ?c_effect_of ?k_effect_of ?a_summary ?l_summary ?c_summary ?k_summary ?a__law_agrees ?l__law_agrees ?c__law_agrees ?k__law_agrees ?a_law ?l_law ?c_law ?k_law ?aC ?aminit ?iminit ?lminit ?cminit ?kminit ?amjoined ?imjoined ?lmjoined ?cmjoined ?kmjoined ?pA ?pG ?pT ?pR ?lmst ?cmst ?kmst ?pg ?hd ?po ?sa ?mk ?kc ?nS ?rd ?ga ?v1 ?v2 ?w2 ?w3 ?aT ?lT ?z0 ?z1 ?z2 ?z3 ?z4 ?z5 ?z6 ?z7 ?z8 ?z9 ?z10 ?z11 ?z12 ?z13 ?z14 ?z15
    (case a_is_whole => k_is); (case l_is_whole => k_is); (case c_is_whole => k_is); (case k_is_whole => k_is); (case a_is_number => k_is); (case l_is_number => k_is)
    (case c_is_number => k_is); (case k_is_number => k_is); (case a_check_number => k_is); (case l_check_number => k_is); (case c_check_number => k_is); (case k_check_number => k_is)
    (case a_check_house => k_is); (case l_check_house => k_is); (case c_check_house => k_is); (case k_check_house => k_is); (case a_is_step => k_is); (case l_is_step => k_is)
    (case c_is_step => k_is); (case k_is_step => k_is); (case a__law_start => k_is); (case l__law_start => k_is); (case c__law_start => k_is); (case k__law_start => k_is)
    (case a__law_drawn => k_is); (case l__law_drawn => k_is); (case c__law_drawn => k_is); (case k__law_drawn => k_is); (case a__law_random_steps => k_is); (case l__law_random_steps => k_is)
    (case c__law_random_steps => k_is); (case k__law_random_steps => k_is); (case a__law_plan => k_is); (case l__law_plan => k_is); (case c__law_plan => k_is); (case k__law_plan => k_is)
    (case a__law_played => k_is); (case l__law_played => k_is); (case c__law_played => k_is); (case k__law_played => k_is); (case a_allowed_range => k_is); (case l_allowed_range => k_is)
    (case c_allowed_range => k_is); (case k_allowed_range => k_is); (case a_narrowed => k_is); (case l_narrowed => k_is); (case c_narrowed => k_is); (case k_narrowed => k_is)
    (case a_nearest => k_is); (case l_nearest => k_is); (case c_nearest => k_is); (case k_nearest => k_is); (case a_effect_of => k_is); (case l_effect_of => k_is)
    (case c_effect_of => k_is); (case k_effect_of => k_is); (case a_summary => k_is); (case l_summary => k_is); (case c_summary => k_is); (case k_summary => k_is)
    (case a__law_agrees => k_is); (case l__law_agrees => k_is); (case c__law_agrees => k_is); (case k__law_agrees => k_is); (case a_law => k_is); (case l_law => k_is)
    (case c_law => k_is); (case k_law => k_is); (case aC => k_is); (case aminit => k_is); (case iminit => k_is); (case lminit => k_is)
    (case cminit => k_is); (case kminit => k_is); (case amjoined => k_is); (case imjoined => k_is); (case lmjoined => k_is); (case cmjoined => k_is)
    (case kmjoined => k_is); (case pA => k_is); (case pG => k_is); (case pT => k_is); (case pR => k_is); (case lmst => k_is)
    (case cmst => k_is); (case kmst => k_is); (case pg => k_is); (case hd => k_is); (case po => k_is); (case sa => k_is)
    (case mk => k_is); (case kc => k_is); (case nS => k_is); (case rd => k_is); (case ga => k_is); (case v1 => k_is)
    (case v2 => k_is); (case w2 => k_is); (case w3 => k_is); (case aT => k_is); (case lT => k_is); (case z0 => k_is)
    (case z1 => k_is); (case z2 => k_is); (case z3 => k_is); (case z4 => k_is); (case z5 => k_is); (case z6 => k_is)
    (case z7 => k_is); (case z8 => k_is); (case z9 => k_is); (case z10 => k_is); (case z11 => k_is); (case z12 => k_is)
    (case z13 => k_is); (case z14 => k_is); (case z15 => k_is)
#print axioms PySem.Challenge.cw_chaircarry_k04_whole_all_starts_holds
